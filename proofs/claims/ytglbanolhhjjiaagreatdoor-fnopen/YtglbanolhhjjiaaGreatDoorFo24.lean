import Derived.Test.YtglbanolhhjjiaaGreatDoorFo22
import Derived.Test.YtglbanolhhjjiaaGreatDoorFo9
namespace Go.Proofs.YtglbanolhhjjiaaGreatDoor
open Go.Proofs.Tryz
open Go.RowKit
set_option linter.unusedVariables false
set_option maxRecDepth 100000
set_option maxHeartbeats 32000000
def pgO:Option Tr->List Int
 |none=>[]
 |some T=>ar T
noncomputable def tpB(K:DK)(root:Int):Bool:=(ldT K root).isSome
noncomputable def tpL(K:DK)(root:Int):List Int:=match ldT K root with|none=>[]|some x=>mkd (pgO x) (nPg K)
theorem wW(g mb N w):Calls prog 106 #[.pointer (some ⟨g,0,none⟩),.int .i64 (-1),.slice (some ⟨mb,0,none⟩) N N] w fun e w'=>e= .returned (.tuple #[])/\w'=w:=by
 go_enter func106,ntmps106;go_wp2_with fail;exact BB (v:= .tuple #[]) (by simp[results,results106]) rfl ⟨rfl,rfl⟩
theorem wY(d K b w)(bv:RDisk w d K):
 Calls prog 65 #[av d K,.int .i64 b] w fun e w'=> ∃a c,e= .returned (.tuple #[.slice a (tpL K b).length c,.bool (tpB K b)])/\Below w.1.size w w'/\Own1 3 w.1.size w' a (tpL K b).length c (on (tpL K b)):=by
 have U:=bAl w (.cells #[.slice d.sa K.n d.sc,.slice d.pa K.m d.pc] 35);have bd:=aq w 35 #[.slice d.sa K.n d.sc,.slice d.pa K.m d.pc];have bu:(w.alloc (.cells #[.slice d.sa K.n d.sc,.slice d.pa K.m d.pc] 35)).1.size=w.1.size+1:=by simp
 have a1:(prog.info? 35).map (·.size)=some (#[Value.slice d.sa K.n d.sc,Value.slice d.pa K.m d.pc]:Array Value).size:=gD;have bg:Hid _:=bv;unfold av;go_enter func65,ntmps65;go_upto_region 1 with fail
 change Code.wp _ _ _ _ (w.alloc (.cells #[.slice d.sa K.n d.sc,.slice d.pa K.m d.pc] 35));have ag:=wK d K b _ (bv.below U);generalize w.alloc (.cells #[.slice d.sa K.n d.sc,.slice d.pa K.m d.pc] 35)=bl at*;have L:Blk bl 35 w.1.size [.slice d.sa K.n d.sc,.slice d.pa K.m d.pc]:=bd;unfold av at ag;clear bd bu;go_wp2_with (refine BD rfl 35 _ rfl w.1.size rfl 35 #[.slice d.sa K.n d.sc,.slice d.pa K.m d.pc] (0,0) _ L underlying35 rfl a1 ?_);refine ag.mono ?_;rintro e w1 bm;obtain⟨an,cs,Z,I,S⟩:=bm;have ae:=L.below an;have aB:=U.trans (an.mono U.size);have V:=bAl w1 (.cells cs.toArray 116);have bc:=aq w1 116 cs.toArray;have a0:(prog.info? 116).map (·.size)=some cs.toArray.size:=by rw[v7,Z];exact ou
 have R:trz.toArray.size=cs.toArray.size:=by rw[v7,v7,Z];rfl
 have a5:=aB.trans (V.mono aB.size);have i:=ae.below V;have ad:Blk (w1.alloc (.cells cs.toArray 116)) 116 w1.1.size cs:=by
  have:Blk (w1.alloc (.cells cs.toArray 116)) 116 w1.1.size cs.toArray.toList:=bc;simpa using this
 have f:=t6 a5 (u2 i (u2 ad V));clear ag L ae an aB a5 i bc ad V U;rcases S with⟨g,rfl⟩|⟨g,t,rfl⟩|⟨T,g,a6,rfl⟩
 ·have s:Hid (tpL K b=[]):=by show tpL K b=[];unfold tpL;rw[g]
  have r:Hid (tpB K b=false):=by show tpB K b=false;unfold tpB;rw[g];rfl
  go_upto_region 2 with(refine bt rfl 116 _ _ rfl w1 trz.toArray cs.toArray 116 rfl rfl a0 R (df I) ?_)
  change Code.wp _ _ _ _ (w1.alloc (.cells cs.toArray 116));generalize w1.alloc (.cells cs.toArray 116)=B at*;generalize l:w1.1.size=m at*;clear l;have bf:=bAl B (.cells #[] 3);have o:=t6 (f.out.1.trans (bf.mono f.out.1.size)) (fU 3 w.1.size B f.out.1.size);clear bf f;go_wp2_with fail
  go_ret2
  rw[s.out,r.out];exact⟨_,0,rfl,o.out.1,o.out.2⟩
 ·have a3:Hid _:=t;clear t;have s:Hid (tpL K b=mkd [] (nPg K)):=by show tpL K b= _;unfold tpL;rw[g];rfl
  have r:Hid (tpB K b=true):=by show tpB K b=true;unfold tpB;rw[g];rfl
  have H:K.n<=4096:=by
   cases J:aR K with
   |true=>exact(gK J).1.2.1
   |false=>unfold ldT at g;rw[J]at g;cases g
  go_upto_region 2 with(refine bt rfl 116 _ _ rfl w1 trz.toArray cs.toArray 116 rfl rfl a0 R (df I) ?_)
  change Code.wp _ _ _ _ (w1.alloc (.cells cs.toArray 116));generalize w1.alloc (.cells cs.toArray 116)=B at*;generalize l:w1.1.size=m at*;clear l;have j:=kQ d K B H;unfold av at j;have i:=f.out.2.1;go_wp2_with (refine BD rfl 35 _ rfl w.1.size rfl 35 #[.slice d.sa K.n d.sc,.slice d.pa K.m d.pc] (0,0) _ i underlying35 rfl a1 ?_);refine j.mono ?_;rintro e h ⟨rfl,k⟩;have X:nPg K<=1024:=by unfold nPg;omega
  have ak:=jG (nPg K) t7 h;have Q:=bAl h (.cells (madeCells #[.bool false] (nPg K)) 4);have M:=jH 0 (nPg K) t7 h (u6 _);have u:=k.trans (Q.mono k.size);have C:=f.out.2.2.1.below u;have y:=f.out.1.trans (u.mono f.out.1.size);have ba:=f.out.1.size;have bb:=k.size;clear j k Q i;go_upto_region 5 with fail
  generalize h.alloc (.cells (madeCells #[.bool false] (nPg K)) 4)=q at*;generalize a8:h.1.size=mb at*;clear ak;have ap:q.cell? ⟨m,1,none⟩=some (.int .i64 (-1)):=(C.cell 1).trans (by rw[a3.out];rfl);have A:Calls prog 106 #[.pointer (some ⟨m,0,none⟩),.int .i64 (-1),.slice (some ⟨mb,0,none⟩) (nPg K) (nPg K)] q fun e w'=>e= .returned (.tuple #[])/\OnlyB mb q w'/\Own1 4 0 w' (some ⟨mb,0,none⟩) (nPg K) (nPg K) (mkB [] (nPg K)):=(wW m mb (nPg K) q).mono (fun e w' bn=>by obtain⟨rfl,rfl⟩:=bn;exact⟨rfl,OnlyB.refl _ _,M⟩);clear M;go_wp2_with fail;refine A.mono ?_;rintro e a2 ⟨rfl,O,N⟩;clear A ap;have G:=y.trans (O.below t7 y.size);have D:=og 0 mb (nPg K) _ a2 t7 N;have v:Hid _:=G;clear y G O N u C;go_wp2_with fail;refine D.mono ?_;rintro e bs ⟨am,aA,rfl,F,P⟩;have o:=t6 (v.out.trans (F.mono v.out.size)) (P.mono v.out.size);clear D F P;go_wp2_with fail
  go_ret2
  rw[s.out,r.out];exact⟨am,aA,rfl,o.out.1,o.out.2⟩
 ·have s:Hid (tpL K b=mkd (ar T) (nPg K)):=by show tpL K b= _;unfold tpL;rw[g];rfl
  have r:Hid (tpB K b=true):=by show tpB K b=true;unfold tpB;rw[g];rfl
  have bk:Hid _:=a6;have W:Hid (dOk K):=by
   cases J:aR K with
   |true=>exact gK J
   |false=>unfold ldT at g;rw[J]at g;cases g
  have H:=W.out.1.2.1;clear a6;go_upto_region 2 with(refine bt rfl 116 _ _ rfl w1 trz.toArray cs.toArray 116 rfl rfl a0 R (df I) ?_)
  change Code.wp _ _ _ _ (w1.alloc (.cells cs.toArray 116));generalize w1.alloc (.cells cs.toArray 116)=B at*;generalize l:w1.1.size=m at*;have z:Hid (w1.1.size=m):=l;clear l;obtain⟨ns,nv,na,nc,seen,tall,sb,p,t,aS,Y,ab,ac⟩:=bk.out.ex;have a9:ns.length<=1048576:=by unfold nPg at aS;omega
  have n:=t6 t (u2 Y (u2 ab ac));clear t Y ab ac;have j:=kQ d K B H;unfold av at j;have i:=f.out.2.1;go_wp2_with (refine BD rfl 35 _ rfl w.1.size rfl 35 #[.slice d.sa K.n d.sc,.slice d.pa K.m d.pc] (0,0) _ i underlying35 rfl a1 ?_);refine j.mono ?_;rintro e h ⟨rfl,k⟩;have br:sb<h.1.size:=by
   have a7:Below w1.1.size w1 h:=by rw[z.out];exact f.out.2.2.2.trans (k.mono (by have:=f.out.2.2.2.size;have:=z.out;omega))
   exact(n.out.2.2.2 m h (f.out.2.2.1.below k) a7).mks.lt rfl
  have X:nPg K<=1024:=by unfold nPg;omega
  have ak:=jG (nPg K) t7 h;have Q:=bAl h (.cells (madeCells #[.bool false] (nPg K)) 4);have M:=jH 0 (nPg K) t7 h (u6 _);have u:=k.trans (Q.mono k.size);have C:=f.out.2.2.1.below u;have y:=f.out.1.trans (u.mono f.out.1.size);have ba:=f.out.1.size;have bb:=k.size;clear j k Q i;go_upto_region 5 with fail
  generalize h.alloc (.cells (madeCells #[.bool false] (nPg K)) 4)=q at*;generalize a8:h.1.size=mb at*;clear ak;have af:=n.out.2.2.2 m q C (by rw[z.out];exact f.out.2.2.2.trans (u.mono (by have:=f.out.2.2.2.size;have:=z.out;omega)));have aT:=W.out;have a4:=kO bg.out aT;have E:=iW a4 _ _ _ _ _ _ n.out.2.2.1;have aX:mb≠sb:=t7;have ap:q.cell? ⟨m,1,none⟩=some (.int .i64 p):=(C.cell 1).trans (by rw[n.out.1];rfl);have A:=(n9 (mb:=mb) aX a9 X T).1 E.isT E.full E.sm p [] q af M n.out.2.1 (fun x hx=>by have:=E.pgs x hx;exact⟨t7,this.2⟩);rw[wi]at A;clear af a4 E;clear M;go_wp2_with fail;refine A.mono ?_;rintro e a2 ⟨rfl,O,N⟩;clear A ap;have G:=y.trans (O.below t7 y.size);have D:=og 0 mb (nPg K) _ a2 t7 N;have v:Hid _:=G;clear y G O N u C;go_wp2_with fail;refine D.mono ?_;rintro e bs ⟨am,aA,rfl,F,P⟩;have o:=t6 (v.out.trans (F.mono v.out.size)) (P.mono v.out.size);clear D F P;go_wp2_with fail
  go_ret2
  rw[s.out,r.out];exact⟨am,aA,rfl,o.out.1,o.out.2⟩
theorem iF{w1 f rest o b z}(j:o.guard=none)(so xo){t e bytes A}(T:ElT t e 1 A bytes)(w:o.op= .call {callee:= .builtin .append,args:=#[so,xo],argTypes:=#[t,t]})(B a n c xs)(y:b.eval so= .slice a n c)(h:Own1 e B w1 a n c xs)(x)(k:x.oneCell'=true)(hx:b.eval xo= .slice (some ⟨w1.1.size,0,none⟩) 1 1)(v:n<=1048576)(i:bytes<=1048576)(r:B<=w1.1.size)(u:∀g d w',Own1 e B w' (some ⟨g,0,none⟩) (n+1) d (xs++[x])->Below B w1 w'->(w1.alloc (.cells #[x] e)).grownBy w' (Value.slice a n c).ownBlock->(a=some ⟨g,0,none⟩\/w1.1.size<g)->wpList prog f z rest (b.put o.dst (.slice (some ⟨g,0,none⟩) (n+1) d)) w'):
 wpList prog f z (o::rest) b (w1.alloc (.cells #[x] e)):=
 C2 j fun _ s=>je so xo T w B a n c xs y h x k hx v i r fun g d w' l m p q=>s _ _ (u g d w' l m p q)
def dN(l:List Int)(i:Nat):Int:=low ((l.drop (4*i)).take 4)
def frA:List Int->List Int->Option (List Int)
 |[],free=>some free
 |x::xs,free=>if free≠[]/\x<=free.getLastD 0 then none else frA xs (free++[x])
def cG(l:List Int)(i:Nat):List Int:=((List.range (l.length/4)).drop i).map (dN l)
theorem wZ{l i}(a:l.length/4<=i):cG l i=[]:=by
 unfold cG;rw[List.drop_eq_nil_of_le (by simpa using a)]
 rfl
theorem xe{l i}(a:i<l.length/4):cG l i=dN l i::cG l (i+1):=by
 unfold cG;rw[x4 (by simpa using a)];simp
def eZ(P:Pg)(own:List Int)(id:Int):Bool:=P.ok id&&(P.kd id==4)&& !own.contains id&&decide (4<=(P.bd id).length)&&((P.bd id).length%4==0)
theorem kY{P a id}:eZ P a id=true↔P.ok id=true/\P.kd id=4/\id∉a/\4<=(P.bd id).length/\(P.bd id).length%4=0:=by
 simp[eZ,and_assoc]
def flR(P:Pg):Nat->Int->List Int->List Int->Option (List Int×List Int)
 |0,id,own,free=>if id=0 then some (free,own)else none
 |f+1,id,own,free=>if id=0 then some (free,own)else if eZ P own id=true then(frA (cG (P.bd id) 1) free).bind fun free'=>flR P f (dN (P.bd id) 0) (own++[id]) free' else none
theorem xf{P}(f b a):flR P f 0 b a=some (a,b):=by cases f<;>simp[flR]
theorem xg{P f id a b}(c:id≠0)(d:eZ P a id=false):flR P (f+1) id a b=none:=by rw[flR,BX c,BX (by rw[d];decide)]
theorem oH{P f id b a}(d:id≠0)(e:eZ P b id=true):flR P (f+1) id b a=(frA (cG (P.bd id) 1) a).bind fun c=>flR P f (dN (P.bd id) 0) (b++[id]) c:=by rw[flR,BX d,BC e]
noncomputable def flT(K:DK)(id:Int):Option (List Int×List Int):=match aR K with|false=>none|true=>flR (pgD K) (nPg K+1) id [] []
section
structure FS(w:World)(d:DV)(K:DK)(gv cv vb sb:Nat)(free own:List Int)(a a2:Option Addr)(c c2:Nat)(wr:World):Prop where
 b:Below w.1.size w wr
 f:Own1 3 w.1.size wr a free.length c (on free)
 o:Own1 3 w.1.size wr a2 own.length c2 (on own)
 m:Own1 4 w.1.size wr (some ⟨sb,0,none⟩) (nPg K) (nPg K) (mkB own (nPg K))
 v:VRow wr d K gv
 gvt:∃cs,wr.heap[gv]?=some (.cells cs 56 (0,0))
 k:Blk wr 136 vb [.slice (some ⟨gv,0,none⟩) K.n cv]
 sep:∀g,a2=some ⟨g,0,none⟩->a≠some ⟨g,0,none⟩
variable {w wr wr':World} {d:DV} {K:DK} {gv cv vb sb:Nat} {free own:List Int} {a a2:Option Addr} {c c2:Nat}
theorem FS.below(e:FS w d K gv cv vb sb free own a a2 c c2 wr)(b:Below wr.1.size wr wr'):FS w d K gv cv vb sb free own a a2 c c2 wr':=
 ⟨e.b.trans (b.mono e.b.size),e.f.below b,e.o.below b,e.m.below b,e.v.below b,by obtain⟨cs,f⟩:=e.gvt;exact⟨cs,(b.block gv e.v.1).trans f⟩,e.k.below b,e.sep⟩
theorem VRow.keepT(e:VRow wr d K gv)(a:∃cs,wr.heap[gv]?=some (.cells cs 56 (0,0)))(c:KeepT 56 wr wr'):VRow wr' d K gv:=by
 obtain⟨cs,b⟩:=a;exact⟨ws e.1 c.size,fun t a=>(CP (w:=wr) ((c.block gv cs _ b).trans b.symm)).trans (e.2 t a)⟩
theorem FS.kept(b:FS w d K gv cv vb sb free own a a2 c c2 wr)(f:Below w.1.size wr wr')(e:KeepT 56 wr wr')(h:KeepT 136 wr wr'):Below w.1.size w wr'/\VRow wr' d K gv/\(∃cs,wr'.heap[gv]?=some (.cells cs 56 (0,0)))/\Blk wr' 136 vb [.slice (some ⟨gv,0,none⟩) K.n cv]:=
 ⟨b.b.trans f,b.v.keepT b.gvt e,by obtain⟨cs,g⟩:=b.gvt;exact⟨cs,e.block gv cs _ g⟩,h.block vb _ _ b.k⟩
theorem FS.appO(f:FS w d K gv cv vb sb free own a a2 c c2 wr){i g p}(C:i<nPg K){w'}(D:Own1 3 w.1.size w' (some ⟨g,0,none⟩) (own.length+1) p (on own++[.int .i64 (i:Nat)]))(m:((wr.setCell ⟨sb,i,none⟩ (.bool true)).alloc (.cells #[.int .i64 (i:Nat)] 3)).grownBy w' (Value.slice a2 own.length c2).ownBlock)(u:a2=some ⟨g,0,none⟩\/wr.1.size<g):FS w d K gv cv vb sb free (own++[(i:Int)]) a (some ⟨g,0,none⟩) c p w':=by
 obtain⟨L,e0,s,J,⟨I,l⟩,_⟩:=f.m.at_ t7;cases e0;have z:=ax wr sb i (.bool true);have q:Below (wr.setCell ⟨sb,i,none⟩ (.bool true)).1.size (wr.setCell ⟨sb,i,none⟩ (.bool true)) ((wr.setCell ⟨sb,i,none⟩ (.bool true)).alloc (.cells #[.int .i64 (i:Nat)] 3)):=bAl _ _;have v:=f.b.size;have h:∀t,4≠t->KeepT t wr (wr.setCell ⟨sb,i,none⟩ (.bool true)):=fun t n=>cx z l n;have f1:=(f.f.keep (h _ uv)).below q;have j:=(f.o.keep (h _ uv)).below q;have y:=(f.m.set i (.bool true)).below q;rw[iT _ _ _ C]at y;have o:∀t,3≠t->KeepT t ((wr.setCell ⟨sb,i,none⟩ (.bool true)).alloc (.cells #[.int .i64 (i:Nat)] 3)) w':=fun t n=>bD j m n;have A:=((z.below s v).trans (q.mono (by simpa using v))).trans (t2.grown m (by simp;omega) (fun k e=>(BS f.o k e).1));obtain⟨E,F,G,H⟩:=f.kept A (((h _ uv).trans (aV q)).trans (o _ uv)) (((h _ uv).trans (aV q)).trans (o _ uv));refine⟨E,f1.grown j m f.sep,?_,?_,F,G,H,?_⟩
 ·rw[u7,<-fv];exact D
 ·rw[mu (b:=(i:Int)::own) _ (fun x=>by simp[or_comm])];exact y.keep (o _ uv)
 ·intro M B r;cases B;rcases u with e|e
  ·exact f.sep g e r
  ·have:=f.f.lt r;omega
theorem FS.appF(o:FS w d K gv cv vb sb free own a a2 c c2 wr){x g l w'}(p:Own1 3 w.1.size w' (some ⟨g,0,none⟩) (free.length+1) l (on free++[.int .i64 x]))(i:(wr.alloc (.cells #[.int .i64 x] 3)).grownBy w' (Value.slice a free.length c).ownBlock)(n:a=some ⟨g,0,none⟩\/wr.1.size<g):FS w d K gv cv vb sb (free++[x]) own (some ⟨g,0,none⟩) a2 l c2 w':=by
 have q:=bAl wr (.cells #[.int .i64 x] 3);have b:=o.below q;have z:=b.b.size;have j:∀t,3≠t->KeepT t (wr.alloc (.cells #[.int .i64 x] 3)) w':=fun t r=>bD b.f i r;obtain⟨s,u,v,y⟩:=b.kept (t2.grown i t7 (fun k e=>(BS o.f k e).1)) (j _ uv) (j _ uv);refine⟨s,?_,b.o.grown b.f i (fun m f h=>b.sep m h f),b.m.keep (j _ uv),u,v,y,?_⟩
 ·rw[u7,<-fv];exact p
 ·intro m f h;cases h;rcases n with e|e
  ·exact o.sep g f e
  ·have:=o.o.lt f;omega
end
section
structure BsT(w:World)(a:Option Addr)(n c:Nat)(l:List Int):Prop where
 bs:Bs w a n c l
 ty:0<n->∃b off cs fr,a=some ⟨b,off,none⟩/\w.heap[b]?=some (.cells cs 5 fr)
theorem BsT.keep{w w' a n c l}(j:BsT w a n c l)(m:KeepT 5 w w'):BsT w' a n c l:=
 ⟨⟨j.bs.len_eq,j.bs.le,j.bs.le',j.bs.nil,fun h=>by
  obtain⟨b,o,e,r,p⟩:=j.bs.at_ h;obtain⟨k,d,cs,fr,f,g⟩:=j.ty h;rw[e]at f;cases f;exact⟨b,o,e,ws r m.size,fun i q=>(CP (w:=w) ((m.block b cs fr g).trans g.symm)).trans (p i q)⟩,j.bs.byte⟩,fun h=>by
  obtain⟨k,d,cs,fr,f,g⟩:=j.ty h;exact⟨k,d,cs,fr,f,m.block k cs fr g⟩⟩
def EI(P:Pg)(S:World->Prop)(X:Nat->Prop)(u:World)(id:Int)(e:Ending)(w':World):Prop:=
 S w'/\OnlyS X u w'/\((P.ok id=true/\∃a c,e= .returned (.tuple #[.int .i64 (P.kd id),.slice a (P.bd id).length c,.nilIface])/\BsT w' a (P.bd id).length c (P.bd id))\/
  (P.ok id=false/\∃(k:Int)(a:Option Addr)(n c:Nat)(ad:Addr),e= .returned (.tuple #[.int .i64 k,.slice a n c,errV ad])))
structure Src(P:Pg)(B0 ty fn:Nat)(v:Value)(S:World->Prop)(X:Nat->Prop):Prop where
 low:∀k,X k->k<B0
 meth:∀w,(Go.method 428 ty v "loop.example/s01906/impl.page").run prog w= .ok (fn,v) w
 ent:∀args w,(callFunc fn args).run prog w= .ok (.enter fn args) w
 keep:∀u u',S u->Below B0 u u'->KeepT 5 u u'->S u'
 page:∀u id,S u->0<=id->id<4294967296->Calls prog fn #[v,.int .i64 id] u (EI P S X u id)
structure Wk(S:World->Prop)(B0 g m N:Nat)(src:Value)(w:World)(st:St)(x:LSg):Prop where
 blk:Blk w 234 g (wkc src m st.tall x)
 set:SetI w m st.seen
 src:S w
 gB:B0<=g
 mB:B0<=m
 ok:SeenOk st.seen N
theorem EM{P k R}{w w':World}{b n}{D:DataW Nat}(e:w.ownsMap P k R b n D)(d:w'.heap[b]?=w.heap[b]?):w'.ownsMap P k R b n D:=by
 obtain⟨es,a,c,r⟩:=e;exact⟨es,a,d.trans c,r⟩
theorem SetI.lt{w m seen}(a:SetI w m seen):m<w.1.size:=by obtain⟨D,a,_⟩:=a;exact a.lt
theorem SetI.same{w w' m seen}(d:SetI w m seen)(c:w'.heap[m]?=w.heap[m]?):SetI w' m seen:=by
 obtain⟨D,a,b⟩:=d;exact⟨D,EM a c,b⟩
theorem SetI.obj{w m seen}(d:SetI w m seen):∃es c,w.heap[m]?=some (.map es c):=by
 obtain⟨D,⟨es,a,b,_⟩,_⟩:=d;exact⟨es,a,b⟩
variable {S:World->Prop} {X:Nat->Prop} {B0 g m N ty fn:Nat} {src v:Value} {P:Pg} {st:St} {x:LSg} {w w':World}
theorem Wk.gm(d:Wk S B0 g m N src w st x):g≠m:=by
 intro e;subst e;obtain⟨es,c,b⟩:=d.set.obj;have a:=d.blk;unfold Blk at a;rw[b]at a;cases a
theorem Wk.keep(c:Src P B0 ty fn v S X)(a:Wk S B0 g m N src w st x){Z}(b:OnlyS Z w w')(d:¬Z g)(f:¬Z m)(h:∀k,Z k->B0<=k)(e:KeepT 5 w w'):Wk S B0 g m N src w' st x:=
 ⟨a.blk.onlyS b d,a.set.same (b.block m a.set.lt f),c.keep w w' a.src (b.below (by have:=a.blk.lt;have:=a.gB;omega) h) e,a.gB,a.mB,a.ok⟩
theorem Wk.below(b:Src P B0 ty fn v S X)(c:Wk S B0 g m N src w st x)(a:Below w.1.size w w'):Wk S B0 g m N src w' st x:=
 c.keep b (Z:=fun _=>False) (OnlyS.ofBelow a) (fun e=>e) (fun e=>e) (fun _ e=>e.elim) (aV a)
theorem Wk.ofPage(a:Wk S B0 g m N src w st x)(d:S w')(c:OnlyS X w w')(b:∀k,X k->k<B0):Wk S B0 g m N src w' st x:=
 ⟨a.blk.onlyS c (fun e=>by have:=b _ e;have:=a.gB;omega),a.set.same (c.block m a.set.lt (fun e=>by have:=b _ e;have:=a.mB;omega)),d,a.gB,a.mB,a.ok⟩
theorem Wk.put(h:Src P B0 ty fn v S X)(a:Wk S B0 g m N src w st x){b f}(c:OnlyB g w w')(i:Blk w' 234 g (wkc src m b.tall f))(d:b.seen=st.seen):Wk S B0 g m N src w' b f:=
 ⟨i,by rw[d];exact a.set.same (c.block m a.set.lt (DX a.gm)),h.keep w w' a.src (OnlyS.below (OnlyS.ofB c) (by have:=a.blk.lt;have:=a.gB;omega) (fun k e=>by subst e;exact a.gB)) (aw c a.blk uv),a.gB,a.mB,by rw[d];exact a.ok⟩
theorem xh{t m w w' es c}(b:w.grownBy w' (some m))(d:w.heap[m]?=some (.map es c)):KeepT t w w':=
 ⟨b.size,fun k cs fr a=>by
  rw[b.block k (vR.1 a).1 (fun e=>by cases e;rw[d]at a;cases a)];exact a⟩
theorem Wk.see(f:Src P B0 ty fn v S X)(a:Wk S B0 g m N src w st x){id}(h:0<=id)(i:id< (N:Int))(j:id∉st.seen)(n:SetI w' m (id::st.seen))(b:w.grownBy w' (some m)):Wk S B0 g m N src w' ⟨id::st.seen,st.tall⟩ x:=by
 obtain⟨es,c,l⟩:=a.set.obj;have d:=OnlyS.ofGrown b;exact⟨a.blk.onlyS d (fun e=>by cases e;exact a.gm rfl),n,f.keep w w' a.src (d.below (by have:=a.blk.lt;have:=a.gB;omega) (fun k e=>by cases e;exact a.mB)) (xh b l),a.gB,a.mB,a.ok.cons h i j⟩
end
section
def NdP(P:Pg)(S:World->Prop)(X:Nat->Prop)(B0 g m N:Nat)(src:Value)(f steps:Nat)(st:St)(x:LSg)(id:Int)(w:World)(e:Ending)(w':World):Prop:=
 OnlyS (fun k=>X k\/k=g\/k=m) w w'/\((∃t st' z F ty p,wkT P f (steps:Nat) st x id=some (t,st',z)/\e= .returned (.iface ty (.pointer p))/\IRep w' t F [(strOfNums [],.iface ty (.pointer p))]/\F.Nodup/\(∀k∈F,w.1.size<=k)/\Wk S B0 g m N src w' st' z/\st.seen.length<=st'.seen.length)\/(wkT P f (steps:Nat) st x id=none/\e= .panicked bI))
def NdC(P:Pg)(S:World->Prop)(X:Nat->Prop)(B0 g m N:Nat)(src:Value)(f:Nat):Prop:= ∀(steps:Nat)(id:Int)(st:St)(x:LSg)(w:World),Wk S B0 g m N src w st x->N<f+st.seen.length->steps<=st.seen.length->0<=id->id<4294967296->
 Calls prog 144 #[.pointer (some ⟨g,0,none⟩),.int .i64 id,.int .i64 (steps:Nat)] w (NdP P S X B0 g m N src f steps st x id w)
def KdP(P:Pg)(S:World->Prop)(X:Nat->Prop)(B0 g m N:Nat)(src:Value)(f steps:Nat)(l:List Int)(st:St)(x:LSg)(gc:Nat)(w:World)(e:Ending)(w':World):Prop:=
 OnlyS (fun k=>X k\/k=g\/k=m\/k=gc) w w'/\((∃t st' z F us a c,((inP l).bind fun ls=>wkK (wkT P f (steps:Nat)) ls true st x)=some (t,st',z)/\e= .returned (.slice a us.length c)/\ORow 239 2 w.1.size w' a us.length c (kdF us)/\IRep w' t F us/\(rb a++F).Nodup/\(∀k∈F,w.1.size<=k)/\Wk S B0 g m N src w' st' z/\st.seen.length<=st'.seen.length)\/(((inP l).bind fun ls=>wkK (wkT P f (steps:Nat)) ls true st x)=none/\e= .panicked bI))
theorem xi(s)(a:Nat)(p):prog.built 239 [(0,.string s),(1,.iface a p)]=some #[.string s,.iface a p]:=uA
theorem EO:(prog.info? 197).map (·.size)=some 2:=uA
theorem ER(es n):IsRow 2 (lnF es) n:=⟨fun _ _=>rfl,fun i _ u a=>by simp[lnF]at a;rcases a with rfl|rfl<;>rfl⟩
theorem xj:∀(n:Nat)(l:List Int)(ls:List (ByteArray×Int)),IsB l->l.length<=n->lnP l=some ls->∀e∈ls,0<=e.2/\e.2<4294967296
 |0,l,r,_,k,e=>by rw[gZ t7]at e;cases e;simp
 |n+1,l,r,c,k,e=>by
  by_cases b:l.length=0
  ·rw[gZ b]at e;cases e;simp
  ·cases a:eJ l with
   |false=>rw[ji b a]at e;cases e
   |true=>
    rw[j4 a]at e;obtain⟨h,d,rfl⟩:=xr.1 e;have i:=gJ.1 a;have:=xj n (l.drop (5+lfK l)) h (fun j=>by have:=c (5+lfK l+j);simpa [List.getD]using this) (by rw[vk];omega) d;intro x hx;rcases wA.1 hx with rfl|hx
    ·have f:IsB (l.drop (1+lfK l)):=fun j=>by have:=c (1+lfK l+j);simpa [List.getD]using this
     have:=gX (gR f 4);have g:((l.drop (1+lfK l)).take 4).length=4:=by rw[wv,vk];omega
     rw[g]at this;exact this
    ·exact this x hx
theorem ET{l ls}(c:IsB l)(a:inP l=some ls):∀e∈ls,0<=e.2/\e.2<4294967296:=by
 unfold inP at a;by_cases b:4<=l.length
 ·rw[BC b]at a;obtain⟨r,d,rfl⟩:=xr.1 a;have:=xj _ _ r (fun j=>by have:=c (4+j);simpa [List.getD]using this) t1 d;intro x hx;rcases wA.1 hx with rfl|hx
  ·have:=gX (gR c 4);have f:(l.take 4).length=4:=by rw[wv];omega
   rw[f]at this;exact this
  ·exact this x hx
 ·rw[BX b]at a;cases a
structure KdI(P:Pg)(S:World->Prop)(X:Nat->Prop)(B0 g m N:Nat)(src:Value)(f steps:Nat)(st:St)(x:LSg)(gc:Nat)(w:World)(ls:List (ByteArray×Int))(la:Option Addr)(lc:Nat)(i:Nat)(a:Option Addr)(c:Nat)(us:List (ByteArray×Value))(ts:List (ByteArray×Tr))(F:List Nat)(st1:St)(x1:LSg)(wr:World):Prop where
 len:us.length=i
 fr:OnlyS (fun k=>X k\/k=g\/k=m\/k=gc) w wr
 wk:Wk S B0 g m N src wr st1 x1
 row:ORow 239 2 w.1.size wr a us.length c (kdF us)
 rep:IRep wr (dw ts .nil) F us
 nd:(rb a++F).Nodup
 hi:∀k∈F,w.1.size<=k
 lnk:ORow 197 2 w.1.size wr la ls.length lc (lnF ls)
 sn:st.seen.length<=st1.seen.length
variable {S:World->Prop} {X:Nat->Prop} {B0 g m N ty fn:Nat} {src v:Value} {P:Pg} {st st1:St} {x x1:LSg} {w wr wr':World} {f steps gc lc i c:Nat} {ls:List (ByteArray×Int)} {la a:Option Addr} {us:List (ByteArray×Value)} {ts:List (ByteArray×Tr)} {F:List Nat}
theorem KdI.below(e:Src P B0 ty fn v S X)(d:KdI P S X B0 g m N src f steps st x gc w ls la lc i a c us ts F st1 x1 wr)(b:Below wr.1.size wr wr'):KdI P S X B0 g m N src f steps st x gc w ls la lc i a c us ts F st1 x1 wr':=
 ⟨d.len,d.fr.trans (OnlyS.ofBelow b),d.wk.below e b,d.row.below b,d.rep.below b,d.nd,d.hi,d.lnk.below b,d.sn⟩
theorem KdI.sign(j:Src P B0 ty fn v S X)(b:KdI P S X B0 g m N src f steps st x gc w ls la lc i a c us ts F st1 x1 wr)(h:g<w.1.size)(s):KdI P S X B0 g m N src f steps st x gc w ls la lc i a c us ts F st1 (x1.1,s) (wr.setCell ⟨g,4,none⟩ (.string s)):=by
 have d:=ax wr g 4 (.string s);have n:=b.wk.blk.set 4 (.string s);exact⟨b.len,b.fr.transN (OnlyS.ofB d) (fun k _ e=>u4 (u5 e)),b.wk.put j d n rfl,b.row.onlyN d h,b.rep.onlyS (OnlyS.ofB d) (fun k l e=>by subst e;have:=b.hi _ l;omega),b.nd,b.hi,b.lnk.onlyN d h,b.sn⟩
theorem EU{e l s E B q n D c r w a i f z}(J:ORow e s B w a n c f)(A:ORow l E q w i D r z)(C:e≠l):∀k∈rb a,∀p∈rb i,k≠p:=by
 intro k h p b y;subst y;rcases J.2 with⟨g,_⟩|⟨H,t,v,g,F,d,_⟩
 ·cases g;simp[rb]at h
 ·rcases A.2 with⟨j,_⟩|⟨I,u,x,m,G,o,_⟩
  ·cases j;simp[rb]at b
  ·cases g;cases m;simp[rb]at h b;subst h;rw[b,o]at d;cases d;exact C rfl
theorem xk{a n c}:∀k,(Value.slice a n c).ownBlock=some k->k∈rb a:=by
 intro k b;cases a with
 |none=>simp[Value.ownBlock]at b
 |some d=>simp[Value.ownBlock]at b;simp[rb,b]
theorem KdI.more(W:Src P B0 ty fn v S X)(d:KdI P S X B0 g m N src f steps st x gc w ls la lc i a c us ts F st1 x1 wr){n B t A V G u s o M}(y:OnlyS (fun k=>X k\/k=g\/k=m) wr n)(Q:g<w.1.size)(R:m<w.1.size)(Y:∀k,X k->k<w.1.size)(U:IRep n t G [(strOfNums [],u)])(ae:G.Nodup)(I:∀k∈G,wr.1.size<=k)(T:Wk S B0 g m N src n A V)(ag:st1.seen.length<=A.seen.length){cs}(af:ORow 239 2 w.1.size B (some ⟨o,0,none⟩) (us.length+1) M (cH (kdF us) us.length [.string s,u]))(O:(n.alloc (.cells cs 239)).grownBy B (Value.slice a us.length c).ownBlock)(L:a=some ⟨o,0,none⟩\/n.1.size<o):
 KdI P S X B0 g m N src f steps st x gc w ls la lc (i+1) (some ⟨o,0,none⟩) M (us++[(s,u)]) (ts++[(s,t)]) (F++G) A V B:=by
 have h:∀k,(X k\/k=g\/k=m)->k<w.1.size:=fun k e=>by
  rcases e with e|rfl|rfl
  ·exact Y k e
  ·exact Q
  ·exact R
 have ak:=d.fr.size;have am:=y.size;have J:=bAl n (.cells cs 239);have ow:=(OnlyS.ofBelow J).transN (OnlyS.ofGrown O) (fun k _ e=>xk k e);have z:=iA d.row (fun k b=>y.block k (cE d.row k b).2 (fun e=>by have:=h k e;have:=(cE d.row k b).1;omega));have l:=iA d.lnk (fun k b=>y.block k (cE d.lnk k b).2 (fun e=>by have:=h k e;have:=(cE d.lnk k b).1;omega));have K:=d.rep.onlyS y (fun k b e=>by have:=h k e;have:=d.hi k b;omega);have r:=d.rep.lt;have E:=U.lt;have C:∀k∈F,k∉rb a:=fun k b H=>(zd.1 d.nd).2.2 k H k b rfl;have D:∀k∈G,k∉rb a:=fun k b H=>by have:=I k b;have:=(cE d.row k H).2;omega
 have ad:KeepT 5 n B:=(aV J).trans (bD (bQ z J) O uv);refine⟨by simp[d.len],(d.fr.transN y (fun k b e=>by rcases e with e|e|e;exact u5 e;exact u4 (u5 e);exact u4 (u4 (u5 e)))).transN ow (fun k b e=>by have:=(cE d.row k e).1;omega),T.keep W ow (fun e=>by have:=(cE d.row _ e).1;omega) (fun e=>by have:=(cE d.row _ e).1;omega) (fun k e=>by have:=(cE d.row _ e).1;have:=T.gB;omega) ad,?_,?_,?_,?_,?_,u9 d.sn ag⟩
 ·rw[u7];exact af.congr (fun j Z=>CB us (s,u) j Z)
 ·exact IRep.snoc (U.onlyS ow (fun k b e=>D k b e)) (K.onlyS ow (fun k b e=>C k b e))
 ·rw[rb,List.singleton_append,y1];refine⟨fun b=> ?_,?_⟩
  ·change o∈F++G at b;rcases L with e|e
   ·rcases wE.1 b with b|b
    ·exact C _ b (by rw[e];simp[rb])
    ·exact D _ b (by rw[e];simp[rb])
   ·rcases wE.1 b with b|b
    ·have:=r _ b;omega
    ·have:=E _ b;omega
  ·rw[zd];refine⟨(zd.1 d.nd).2.1,ae,fun p ab q ac e=> ?_⟩;subst e;have:=r _ ab;have:=I _ ac;omega
 ·intro k b;rcases wE.1 b with b|b
  ·exact d.hi k b
  ·have:=I k b;omega
 ·exact iA l (fun k b=>ow.block k (cE l k b).2 (fun e=>EU z l uv k e k b rfl))
end
theorem EW(P B0 c7 cV v S b4)(T:Src P B0 c7 cV v S b4)(g m N aS f)(ca:NdC P S b4 B0 g m N aS f)(steps l M B C x w)(bz:Wk S B0 g m N aS w C x)(bS:Cur w M B l)(cX:B<=w.1.size)(c0:l.length<=1048576)(ck:M≠g)(cl:M≠m)(cj:B0<=M)(dr:N<f+C.seen.length)(cq:steps<=C.seen.length):
 Calls prog 167 #[.pointer (some ⟨g,0,none⟩),.pointer (some ⟨M,0,none⟩),.int .i64 (steps:Nat)] w (KdP P S b4 B0 g m N aS f steps l C x M w):=by
 have da:=CA M B l w bS cX c0;have b6:=bz.blk.lt;have b1:=bz.set.lt;have ch:∀k,b4 k->k<w.1.size:=fun k e=>by have:=T.low k e;have:=bz.gB;omega
 have bZ:=bS.byte;have a7:∃xs,Blk w 192 M xs:=by
  obtain⟨a,n,c,dq⟩:=bS;exact⟨_,dq.blk⟩
 obtain⟨xs,a7⟩:=a7;have bP:=t6 bz (u2 bZ ch);have bX:Hid (Blk w 192 M xs):=a7;clear bS bz a7 bZ ch;go_enter func167,ntmps167;go_wp2_with fail;refine da.mono ?_;rintro e w1 ⟨bT,cn⟩;clear da;have b8:=bP.out.1.keep T (OnlyS.ofB bT) (fun e=>ck e.symm) (fun e=>cl e.symm) (fun k e=>by subst e;exact cj) (aw bT (show Blk w 192 M xs from bX.out) uv);have b9:=(OnlyS.ofB bT).mono (Z2:=(fun k=>b4 k\/k=g\/k=m\/k=M)) (fun k _ e=>u4 (u4 (u4 e)));clear bT bX;rcases cn with⟨ls,c4,c5,a6,rfl,cp⟩|⟨ad,rfl⟩
 rotate_left
 ·have b7:((inP l).bind fun ls=>wkK (wkT P f (steps:Nat)) ls true C x)=none:=by rw[ad];rfl
  clear ad b8;go_wp2;exact⟨rfl,b9,u4 ⟨b7,rfl⟩⟩
 have bx:((inP l).bind fun ls=>wkK (wkT P f (steps:Nat)) ls true C x)=wkK (wkT P f (steps:Nat)) ls true C x:=by rw[a6];rfl
 have c1:=qU a6;have bs:=ET bP.out.2.1 a6;have ba:Hid _:=bP.out.2.2;have a9:=t6 b8 (u2 b9 (u2 cp (u2 bx bs)));clear a6 b8 b9 cp bx bs bP;go_wp2_with fail;go_loopw [7,13] (fun c6 cB wr=> ∃(i:Nat)(a:Option Addr)(c:Nat)(us:List (ByteArray×Value))(Z:List (ByteArray×Tr))(cL:List Nat)(H:St)(F:LSg),c6= .slice a us.length c/\cB= .int .i64 (i:Nat)/\i<=ls.length/\KdI P S b4 B0 g m N aS f steps C x M w ls c4 c5 i a c us Z cL H F wr/\wkK (wkT P f (steps:Nat)) ls true C x=(wkK (wkT P f (steps:Nat)) (ls.drop i) (i==0) H F).map fun L=>(dw Z L.1,L.2)) (fun _ s _=>ls.length-(intOf s).toNat)
 case atStart=>
  refine⟨0,none,0,[],[],[],C,x,rfl,by rfl,t7,⟨rfl,a9.out.2.1,a9.out.1,lJ _ _ _ _ _,?_,by simp[rb],uB,a9.out.2.2.1,t1⟩,?_⟩
  ·show IRep w1 .nil [] [];rw[IRep];exact⟨rfl,rfl⟩
  ·show _=Option.map _ (wkK (wkT P f (steps:Nat)) ls true C x);generalize wkK (wkT P f (steps:Nat)) ls true C x=r;cases r<;>rfl
 case round=>
  obtain⟨i,a,c,us,Z,cL,H,F,rfl,rfl,ds,ap,a5⟩:=hrel;obtain⟨ab,cr⟩:=aa wr;subst cr;have dk:=ap.fr.size;have a3:Hid _:=a9.out.2.2.2.1;have bW:Hid _:=a9.out.2.2.2.2;clear a9;have V:=ap.len;have am:Hid _:=ap;by_cases a8:i<ls.length
  ·have c2:(i:Int)< (ls.length:Int):=t7;obtain⟨b,rfl,db,dc⟩:=oy ap.lnk t7;have a4:=fun j v c3=>(ap.lnk.reads (ER ls _)).cells i a8 j v c3;rw[show lnF ls i=[.string (ls.getD i l0).1,.int .i64 (ls.getD i l0).2]from rfl]at a4;have b0:ls.drop i=ls.getD i l0::ls.drop (i+1):=by
    rw[x4 a8];simp[List.getD,a8]
   have bv:ls.getD i l0∈ls:=by
    have:ls.getD i l0=ls[i]:=by simp[List.getD,a8]
    rw[this];exact yb _
   obtain⟨dl,dp⟩:=bW.out _ bv;generalize ls.getD i l0=cT at*;obtain⟨sg,id⟩:=cT;have ce:ab.cell? ⟨b,i*2,none⟩=some (.string sg):=by have:=a4 0 _ rfl;simpa using this
   have cf:ab.cell? ⟨b,i*2+1,none⟩=some (.int .i64 id):=by have:=a4 1 _ rfl;simpa using this
   have bn:wkK (wkT P f (steps:Nat)) ls true C x=(if(i==0)=true\/sl F.1 sg=true then(wkT P f (steps:Nat) H (F.1,if(i==0)=true then F.2 else sg) id).bind fun y=>(wkK (wkT P f (steps:Nat)) (ls.drop (i+1)) false y.2.1 y.2.2).map fun L=>(.cons sg y.1 L.1,L.2)else none).map fun L=>(dw Z L.1,L.2):=by rw[a5,b0,wkK]
   have cz:=aq ab 197 #[.string sg,.int .i64 id];have cA:=bAl ab (.cells #[.string sg,.int .i64 id] 197);have cD:(ab.alloc (.cells #[.string sg,.int .i64 id] 197)).1.size=ab.1.size+1:=by simp
   have Q:=ap.below T cA;have ak:Hid _:=bn;clear a4 b0 bv a5 bn cA am ap;go_upto_region 5 with(first|(refine bt rfl 197 _ _ rfl ab #[.string (strOfNums []),.int .i64 0] #[.string sg,.int .i64 id] 197 rfl rfl EO rfl rfl ?_))
   change Code.wp _ _ _ _ (ab.alloc (.cells #[.string sg,.int .i64 id] 197));generalize ab.alloc (.cells #[.string sg,.int .i64 id] 197)=R at*;generalize dd:ab.1.size=d at*;have aB:Blk R 197 d [.string sg,.int .i64 id]:=cz;clear cz ce cf bW;have a0:g≠d:=t7;have bu:m≠d:=t7;rcases Nat.eq_zero_or_pos i with h0|h0
   ·have cg:¬(0:Int)< (i:Int):=t7;have ac:(i==0)=true:=by rw[h0];rfl
    clear h0;obtain⟨ae,W⟩:∃ae:LSg,ae=F:=⟨_,rfl⟩;have aT:Hid (wkK (wkT P f (steps:Nat)) ls true C x=((wkT P f (steps:Nat) H ae id).bind fun y=>(wkK (wkT P f (steps:Nat)) (ls.drop (i+1)) false y.2.1 y.2.2).map fun L=>(.cons sg y.1 L.1,L.2)).map fun L=>(dw Z L.1,L.2)):=by
     have:=ak.out;rw[ac,BC (u5 rfl),BC rfl]at this;rw[W];exact this
    rw[<-W]at Q;have o:=t6 Q aB;clear Q aB ak W ac;obtain⟨J,bm⟩:=aa R;have c9:J.1.size=d+1:=by rw[bm];exact cD
    rw[<-bm]at o;subst bm;go_upto_region 8 with fail
    have an:=ca steps id H ae J.drew (o.out.1.wk.below T ⟨rfl,rfl,rfl,t1,fun _ _=>rfl⟩) (by have:=o.out.1.sn;omega) (u9 cq o.out.1.sn) t7 t7;have q:J.drew.cell? ⟨d,0,none⟩=some (.string sg)/\J.drew.cell? ⟨d,1,none⟩=some (.int .i64 id):=⟨Blk.cell o.out.2 0,Blk.cell o.out.2 1⟩;refine az (fun u=>u.cell? ⟨d,0,none⟩=some (.string sg)/\u.cell? ⟨d,1,none⟩=some (.int .i64 id)) (fun k=>decide (10<=k)) uA ?_;refine ai 0 q ?_;refine ai 1 q ?_;refine ai 2 q ?_;refine ai 3 q ?_;refine ai 4 q ?_;refine ai 5 q ?_;refine ai 6 q ?_;refine ah 7 fun A h=> ?_;go_wp2_with fail;refine BV an ?_;rintro e z ⟨Y,⟨t,K,af,G,D,O,aA,rfl,bE,bC,bA,bB,bF⟩|⟨ad,rfl⟩⟩
    rotate_left
    ·have br:=(o.out.1.fr.drew).transN Y (fun k a1 e=>by rcases e with e|e|e;exact u5 e;exact u4 (u5 e);exact u4 (u4 (u5 e)));go_wp2;exact⟨rfl,br,u4 ⟨by rw[a3.out,aT.out,ad];rfl,rfl⟩⟩
    clear an;have X:=Blk.onlyS (show Blk J.drew 197 d [.string sg,.int .i64 id]from o.out.2) Y (fun e=>by rcases e with e|e|e;exact absurd (ba.out d e) t7;exact a0 e.symm;exact bu e.symm);have U:z.cell? ⟨d,0,none⟩=some (.string sg)/\z.cell? ⟨d,1,none⟩=some (.int .i64 id):=⟨Blk.cell X 0,Blk.cell X 1⟩;have cv:J.1.size<=z.1.size:=Y.size;have E:=t6 Y (u2 bE (u2 bC (u2 bA (u2 bB (u2 bF aA)))));clear Y bE bC bA bB bF aA X;go_wp2_with fail;refine ao h ?_;clear h A;refine ah 8 fun A h=> ?_;refine jZ _ _ rfl (cs:=#[.string sg,.iface D (.pointer O)]) ?bkb ?_
    case bkb=>
     simp only[wa,vo,v6];exact xi sg D (.pointer O)
    refine ao h ?_;clear h A;refine ah 9 fun A h=> ?_;refine bU _ _ _ rfl (v:= .slice (some ⟨z.1.size,0,none⟩) 1 1) (w':=z.alloc (.cells [.string sg,.iface D (.pointer O)].toArray 239)) ?bsb ?_
    case bsb=>
     simp only[wa,vo,v6];exact fq mc t7 (.agg #[.string sg,.iface D (.pointer O)]) [.string sg,.iface D (.pointer O)] rfl rfl z
    refine h.out _ _ (fun _=>⟨(((Bn z.1.size z).alloc t1 _).cell (p:=⟨d,0,none⟩) (show d<z.1.size by omega)).trans U.1,(((Bn z.1.size z).alloc t1 _).cell (p:=⟨d,1,none⟩) (show d<z.1.size by omega)).trans U.2⟩) ?_;clear h A;have I:=iA o.out.1.row (fun k a1=>E.out.1.block k (cE o.out.1.row k a1).2 (fun e=>by have cW:=(cE o.out.1.row k a1).1;rcases e with e|e|e;exact absurd (ba.out k e) t7;omega;omega));rw[V]at I;refine ah 10 fun A h=> ?_;refine gW _ _ mc rfl w.1.size a i c (kdF us) rfl I [.string sg,.iface D (.pointer O)] rfl (by simp[Value.oneCell']) rfl t7 t7 t7 ?_;intro cM cS c8 a2 bf aX bd;refine ao h ?_;clear h A;rw[<-V]at a2 aX;have bc:=KdI.more T (KdI.below T o.out.1 (wr':=J.drew) ⟨rfl,rfl,rfl,t1,fun _ _=>rfl⟩) E.out.1 b6 b1 (ba.out) E.out.2.1 E.out.2.2.1 E.out.2.2.2.1 E.out.2.2.2.2.1 E.out.2.2.2.2.2.1 (s:=sg) a2 aX bd;have bb:wkK (wkT P f (steps:Nat)) ls true C x=(wkK (wkT P f (steps:Nat)) (ls.drop (i+1)) (i+1==0) K af).map fun L=>(dw (Z++[(sg,t)]) L.1,L.2):=by
     rw[aT.out,E.out.2.2.2.2.2.2];show Option.map _ (Option.map _ (wkK (wkT P f (steps:Nat)) (ls.drop (i+1)) false K af))=Option.map _ (wkK (wkT P f (steps:Nat)) (ls.drop (i+1)) false K af);generalize wkK (wkT P f (steps:Nat)) (ls.drop (i+1)) false K af=r;cases r with
     |none=>rfl
     |some L=>simp[ue]
    have ag:=t6 bc bb;clear bc bb a2 aX bf I E o aT U;refine ah 11 fun A h=> ?_;go_wp2_with fail;refine ao h ?_;clear h A;refine bi ?_;clear q;go_wp2;go_roundw
    case rel=>exact⟨i+1,_,_,_,_,_,_,_,by rw[u7,V];rfl,by go_num,t7,ag.out.1,ag.out.2⟩
    case measure=>simp[intOf];omega
   ·have cg:(0:Int)< (i:Int):=t7;have ac:(i==0)=false:=by rw[C8];omega
    have cb:R.cell? ⟨d,0,none⟩=some (.string sg):=aB.cell 0;have cc:R.cell? ⟨g,3,none⟩=some (.string F.1):=Q.wk.blk.cell 3;have cR:R.cell? ⟨g,4,none⟩=some (.string F.2):=Q.wk.blk.cell 4;have cP:=Q.wk.blk.free 4;have bR:=t6 Q aB;clear Q aB;go_upto_region 6 with fail
    cases bg:sl F.1 sg with
    |false=>
     have bY:=(mA sg F.1).trans bg;have b3:Hid (KdP P S b4 B0 g m N aS f steps l C x M w (.panicked bI) R.drew):=⟨bR.out.1.fr.drew,u4 ⟨by rw[a3.out,ak.out,ac,BX (by rw[bg];decide)];rfl,rfl⟩⟩;refine az (fun u=>u.cell? ⟨d,0,none⟩=some (.string sg)/\u.cell? ⟨g,3,none⟩=some (.string F.1)) (fun k=>decide (7<=k)) uA ?_;have cs:R.drew.cell? ⟨d,0,none⟩=some (.string sg)/\R.drew.cell? ⟨g,3,none⟩=some (.string F.1):=⟨cb,cc⟩;refine ai 0 cs ?_;refine ai 1 cs ?_;refine ai 2 cs ?_;refine ai 3 cs ?_;refine ai 4 cs ?_;refine ai 5 cs ?_;refine ai 6 cs ?_;refine ah 7 fun A h=> ?_;go_wp2_with fail;refine(fi _).mono ?_;rintro e w' ⟨rfl,rfl⟩;go_wp2;exact⟨rfl,b3.out⟩
    |true=>
     have bY:=(mA sg F.1).trans bg;obtain⟨ae,W⟩:∃ae:LSg,ae=(F.1,sg):=⟨_,rfl⟩;have aT:Hid (wkK (wkT P f (steps:Nat)) ls true C x=((wkT P f (steps:Nat) H ae id).bind fun y=>(wkK (wkT P f (steps:Nat)) (ls.drop (i+1)) false y.2.1 y.2.2).map fun L=>(.cons sg y.1 L.1,L.2)).map fun L=>(dw Z L.1,L.2)):=by
      have:=ak.out;rw[ac,BC (u4 bg),BX Bool.false_ne_true]at this;rw[W];exact this
     go_quiet (first|(go_at_call 145;exact Calls.quiet_of_same (ez _)))
     have bk:=bR.out.1.below T (gx t2 nq);have bl:=bk.sign T b6 sg;rw[<-W]at bl;have b2:=Blk.only (show Blk (R.drewN nq) 197 d [.string sg,.int .i64 id]from bR.out.2) (ax (R.drewN nq) g 4 (.string sg)) (DX a0);have c9:((R.drewN nq).setCell ⟨g,4,none⟩ (.string sg)).1.size=d+1:=by rw[<-cD];simp
     have o:=t6 bl b2;clear bl b2 bk ak bR bY ac;go_upto_region 8 with fail
     generalize (R.drewN nq).setCell ⟨g,4,none⟩ (.string sg)=J at*;clear cb cc cP cR W bg;have an:=ca steps id H ae J.drew (o.out.1.wk.below T ⟨rfl,rfl,rfl,t1,fun _ _=>rfl⟩) (by have:=o.out.1.sn;omega) (u9 cq o.out.1.sn) t7 t7;have q:J.drew.cell? ⟨d,0,none⟩=some (.string sg)/\J.drew.cell? ⟨d,1,none⟩=some (.int .i64 id):=⟨Blk.cell o.out.2 0,Blk.cell o.out.2 1⟩;refine az (fun u=>u.cell? ⟨d,0,none⟩=some (.string sg)/\u.cell? ⟨d,1,none⟩=some (.int .i64 id)) (fun k=>decide (10<=k)) uA ?_;refine ai 0 q ?_;refine ai 1 q ?_;refine ai 2 q ?_;refine ai 3 q ?_;refine ai 4 q ?_;refine ai 5 q ?_;refine ai 6 q ?_;refine ah 7 fun A h=> ?_;go_wp2_with fail;refine BV an ?_;rintro e z ⟨Y,⟨t,K,af,G,D,O,aA,rfl,bE,bC,bA,bB,bF⟩|⟨ad,rfl⟩⟩
     rotate_left
     ·have br:=(o.out.1.fr.drew).transN Y (fun k a1 e=>by rcases e with e|e|e;exact u5 e;exact u4 (u5 e);exact u4 (u4 (u5 e)));go_wp2;exact⟨rfl,br,u4 ⟨by rw[a3.out,aT.out,ad];rfl,rfl⟩⟩
     clear an;have X:=Blk.onlyS (show Blk J.drew 197 d [.string sg,.int .i64 id]from o.out.2) Y (fun e=>by rcases e with e|e|e;exact absurd (ba.out d e) t7;exact a0 e.symm;exact bu e.symm);have U:z.cell? ⟨d,0,none⟩=some (.string sg)/\z.cell? ⟨d,1,none⟩=some (.int .i64 id):=⟨Blk.cell X 0,Blk.cell X 1⟩;have cv:J.1.size<=z.1.size:=Y.size;have E:=t6 Y (u2 bE (u2 bC (u2 bA (u2 bB (u2 bF aA)))));clear Y bE bC bA bB bF aA X;go_wp2_with fail;refine ao h ?_;clear h A;refine ah 8 fun A h=> ?_;refine jZ _ _ rfl (cs:=#[.string sg,.iface D (.pointer O)]) ?bkc ?_
     case bkc=>
      simp only[wa,vo,v6];exact xi sg D (.pointer O)
     refine ao h ?_;clear h A;refine ah 9 fun A h=> ?_;refine bU _ _ _ rfl (v:= .slice (some ⟨z.1.size,0,none⟩) 1 1) (w':=z.alloc (.cells [.string sg,.iface D (.pointer O)].toArray 239)) ?bsc ?_
     case bsc=>
      simp only[wa,vo,v6];exact fq mc t7 (.agg #[.string sg,.iface D (.pointer O)]) [.string sg,.iface D (.pointer O)] rfl rfl z
     refine h.out _ _ (fun _=>⟨(((Bn z.1.size z).alloc t1 _).cell (p:=⟨d,0,none⟩) (show d<z.1.size by omega)).trans U.1,(((Bn z.1.size z).alloc t1 _).cell (p:=⟨d,1,none⟩) (show d<z.1.size by omega)).trans U.2⟩) ?_;clear h A;have I:=iA o.out.1.row (fun k a1=>E.out.1.block k (cE o.out.1.row k a1).2 (fun e=>by have cW:=(cE o.out.1.row k a1).1;rcases e with e|e|e;exact absurd (ba.out k e) t7;omega;omega));rw[V]at I;refine ah 10 fun A h=> ?_;refine gW _ _ mc rfl w.1.size a i c (kdF us) rfl I [.string sg,.iface D (.pointer O)] rfl (by simp[Value.oneCell']) rfl t7 t7 t7 ?_;intro cM cS c8 a2 bf aX bd;refine ao h ?_;clear h A;rw[<-V]at a2 aX;have bc:=KdI.more T (KdI.below T o.out.1 (wr':=J.drew) ⟨rfl,rfl,rfl,t1,fun _ _=>rfl⟩) E.out.1 b6 b1 (ba.out) E.out.2.1 E.out.2.2.1 E.out.2.2.2.1 E.out.2.2.2.2.1 E.out.2.2.2.2.2.1 (s:=sg) a2 aX bd;have bb:wkK (wkT P f (steps:Nat)) ls true C x=(wkK (wkT P f (steps:Nat)) (ls.drop (i+1)) (i+1==0) K af).map fun L=>(dw (Z++[(sg,t)]) L.1,L.2):=by
      rw[aT.out,E.out.2.2.2.2.2.2];show Option.map _ (Option.map _ (wkK (wkT P f (steps:Nat)) (ls.drop (i+1)) false K af))=Option.map _ (wkK (wkT P f (steps:Nat)) (ls.drop (i+1)) false K af);generalize wkK (wkT P f (steps:Nat)) (ls.drop (i+1)) false K af=r;cases r with
      |none=>rfl
      |some L=>simp[ue]
     have ag:=t6 bc bb;clear bc bb a2 aX bf I E o aT U;refine ah 11 fun A h=> ?_;go_wp2_with fail;refine ao h ?_;clear h A;refine bi ?_;clear q;go_wp2;go_roundw
     case rel=>exact⟨i+1,_,_,_,_,_,_,_,by rw[u7,V];rfl,by go_num,t7,ag.out.1,ag.out.2⟩
     case measure=>simp[intOf];omega
  ·have cm:i=ls.length:=t7;have b5:Hid (((inP l).bind fun ls=>wkK (wkT P f (steps:Nat)) ls true C x)=some (dw Z .nil,H,F)):=by
    show((inP l).bind fun ls=>wkK (wkT P f (steps:Nat)) ls true C x)=some (dw Z .nil,H,F);rw[a3.out,a5,cm,List.drop_length,wkK]
    rfl
   clear ap a5 V;go_wp2_with fail;go_ret;exact⟨am.out.fr,u5 ⟨_,_,_,cL,us,a,c,b5.out,rfl,am.out.row,am.out.rep,am.out.nd,am.out.hi,am.out.wk,am.out.sn⟩⟩
