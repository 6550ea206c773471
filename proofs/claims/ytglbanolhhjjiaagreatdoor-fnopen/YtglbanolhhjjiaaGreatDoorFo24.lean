import Derived.Test.YtglbanolhhjjiaaGreatDoorFo22
import Derived.Test.YtglbanolhhjjiaaGreatDoorFo9
namespace Go.Proofs.YtglbanolhhjjiaaGreatDoor
open Go.Proofs.Tryz
open Go.RowKit
set_option linter.unusedVariables false
set_option maxRecDepth 100000
set_option maxHeartbeats 32000000
def pgO:Option Tr->List Int
 |none=>[]
 |some T=>ar T
noncomputable def tpB(K:DK)(root:Int):Bool:=(ldT K root).isSome
noncomputable def tpL(K:DK)(root:Int):List Int:=match ldT K root with|none=>[]|some x=>mkd (pgO x) (nPg K)
theorem wW(g mb N w):Calls prog 106 #[.pointer (some ⟨g,0,none⟩),.int .i64 (-1),.slice (some ⟨mb,0,none⟩) N N] w fun e w'=>e= .returned (.tuple #[])/\w'=w:=by
 go_enter func106,ntmps106;go_wp2_with fail;exact B3 (v:= .tuple #[]) (by simp[results,results106]) rfl ⟨rfl,rfl⟩
theorem wY(d K b w)(h:RDisk w d K):
 Calls prog 65 #[av d K,.int .i64 b] w fun e w'=> ∃a c,e= .returned (.tuple #[.slice a (tpL K b).length c,.bool (tpB K b)])/\Below w.1.size w w'/\Own1 3 w.1.size w' a (tpL K b).length c (on (tpL K b)):=by
 have U:=bAl w (.cells #[.slice d.sa K.n d.sc,.slice d.pa K.m d.pc] 35);have bd:=aq w 35 #[.slice d.sa K.n d.sc,.slice d.pa K.m d.pc];have bu:(w.alloc (.cells #[.slice d.sa K.n d.sc,.slice d.pa K.m d.pc] 35)).1.size=w.1.size+1:=by simp
 have a1:(prog.info? 35).map (·.size)=some (#[Value.slice d.sa K.n d.sc,Value.slice d.pa K.m d.pc]:Array Value).size:=gD;have bg:Hid _:=h;unfold av;go_enter func65,ntmps65;go_upto_region 1 with fail
 change Code.wp _ _ _ _ (w.alloc (.cells #[.slice d.sa K.n d.sc,.slice d.pa K.m d.pc] 35));have ag:=wK d K b _ (h.below U);generalize w.alloc (.cells #[.slice d.sa K.n d.sc,.slice d.pa K.m d.pc] 35)=bl at*;have L:Blk bl 35 w.1.size [.slice d.sa K.n d.sc,.slice d.pa K.m d.pc]:=bd;unfold av at ag;clear bd bu;go_wp2_with (refine B5 rfl 35 _ rfl w.1.size rfl 35 #[.slice d.sa K.n d.sc,.slice d.pa K.m d.pc] (0,0) _ L underlying35 rfl a1 ?_);refine ag.mono ?_;rintro e w1 bm;obtain⟨an,cs,Z,I,S⟩:=bm;have ae:=L.below an;have aB:=U.trans (an.mono U.size);have V:=bAl w1 (.cells cs.toArray 116);have bc:=aq w1 116 cs.toArray;have a0:(prog.info? 116).map (·.size)=some cs.toArray.size:=by rw[wA,Z];exact ou
 have R:trz.toArray.size=cs.toArray.size:=by rw[wA,wA,Z];rfl
 have a5:=aB.trans (V.mono aB.size);have j:=ae.below V;have ad:Blk (w1.alloc (.cells cs.toArray 116)) 116 w1.1.size cs:=by
  have:Blk (w1.alloc (.cells cs.toArray 116)) 116 w1.1.size cs.toArray.toList:=bc;simpa using this
 have f:=uv a5 (vJ j (vJ ad V));clear ag L ae an aB a5 j bc ad V U;rcases S with⟨g,rfl⟩|⟨g,u,rfl⟩|⟨T,g,a6,rfl⟩
 ·have t:Hid (tpL K b=[]):=by show tpL K b=[];unfold tpL;rw[g]
  have s:Hid (tpB K b=false):=by show tpB K b=false;unfold tpB;rw[g];rfl
  go_upto_region 2 with(refine bt rfl 116 _ _ rfl w1 trz.toArray cs.toArray 116 rfl rfl a0 R (df I) ?_)
  change Code.wp _ _ _ _ (w1.alloc (.cells cs.toArray 116));generalize w1.alloc (.cells cs.toArray 116)=B at*;generalize m:w1.1.size=n at*;clear m;have bf:=bAl B (.cells #[] 3);have q:=uv (f.out.1.trans (bf.mono f.out.1.size)) (fU 3 w.1.size B f.out.1.size);clear bf f;go_wp2_with fail
  go_ret2
  rw[t.out,s.out];exact⟨_,0,rfl,q.out.1,q.out.2⟩
 ·have a3:Hid _:=u;clear u;have t:Hid (tpL K b=mkd [] (nPg K)):=by show tpL K b= _;unfold tpL;rw[g];rfl
  have s:Hid (tpB K b=true):=by show tpB K b=true;unfold tpB;rw[g];rfl
  have H:K.n<=4096:=by
   cases J:aR K with
   |true=>exact(gK J).1.2.1
   |false=>unfold ldT at g;rw[J]at g;cases g
  go_upto_region 2 with(refine bt rfl 116 _ _ rfl w1 trz.toArray cs.toArray 116 rfl rfl a0 R (df I) ?_)
  change Code.wp _ _ _ _ (w1.alloc (.cells cs.toArray 116));generalize w1.alloc (.cells cs.toArray 116)=B at*;generalize m:w1.1.size=n at*;clear m;have k:=kQ d K B H;unfold av at k;have j:=f.out.2.1;go_wp2_with (refine B5 rfl 35 _ rfl w.1.size rfl 35 #[.slice d.sa K.n d.sc,.slice d.pa K.m d.pc] (0,0) _ j underlying35 rfl a1 ?_);refine k.mono ?_;rintro e i ⟨rfl,l⟩;have X:nPg K<=1024:=by unfold nPg;omega
  have ak:=jG (nPg K) uA i;have Q:=bAl i (.cells (madeCells #[.bool false] (nPg K)) 4);have M:=jH 0 (nPg K) uA i (wa _);have u4:=l.trans (Q.mono l.size);have C:=f.out.2.2.1.below u4;have y:=f.out.1.trans (u4.mono f.out.1.size);have ba:=f.out.1.size;have bb:=l.size;clear k l Q j;go_upto_region 5 with fail
  generalize i.alloc (.cells (madeCells #[.bool false] (nPg K)) 4)=r at*;generalize a8:i.1.size=mb at*;clear ak;have ap:r.cell? ⟨n,1,none⟩=some (.int .i64 (-1)):=(C.cell 1).trans (by rw[a3.out];rfl);have A:Calls prog 106 #[.pointer (some ⟨n,0,none⟩),.int .i64 (-1),.slice (some ⟨mb,0,none⟩) (nPg K) (nPg K)] r fun e w'=>e= .returned (.tuple #[])/\OnlyB mb r w'/\Own1 4 0 w' (some ⟨mb,0,none⟩) (nPg K) (nPg K) (mkB [] (nPg K)):=(wW n mb (nPg K) r).mono (fun e w' bn=>by obtain⟨rfl,rfl⟩:=bn;exact⟨rfl,OnlyB.refl _ _,M⟩);clear M;go_wp2_with fail;refine A.mono ?_;rintro e a2 ⟨rfl,O,N⟩;clear A ap;have G:=y.trans (O.below uA y.size);have D:=og 0 mb (nPg K) _ a2 uA N;have v:Hid _:=G;clear y G O N u4 C;go_wp2_with fail;refine D.mono ?_;rintro e bs ⟨am,aA,rfl,F,P⟩;have q:=uv (v.out.trans (F.mono v.out.size)) (P.mono v.out.size);clear D F P;go_wp2_with fail
  go_ret2
  rw[t.out,s.out];exact⟨am,aA,rfl,q.out.1,q.out.2⟩
 ·have t:Hid (tpL K b=mkd (ar T) (nPg K)):=by show tpL K b= _;unfold tpL;rw[g];rfl
  have s:Hid (tpB K b=true):=by show tpB K b=true;unfold tpB;rw[g];rfl
  have bk:Hid _:=a6;have W:Hid (dOk K):=by
   cases J:aR K with
   |true=>exact gK J
   |false=>unfold ldT at g;rw[J]at g;cases g
  have H:=W.out.1.2.1;clear a6;go_upto_region 2 with(refine bt rfl 116 _ _ rfl w1 trz.toArray cs.toArray 116 rfl rfl a0 R (df I) ?_)
  change Code.wp _ _ _ _ (w1.alloc (.cells cs.toArray 116));generalize w1.alloc (.cells cs.toArray 116)=B at*;generalize m:w1.1.size=n at*;have z:Hid (w1.1.size=n):=m;clear m;obtain⟨ns,nv,na,nc,seen,tall,sb,p,u,aS,Y,ab,ac⟩:=bk.out.ex;have a9:ns.length<=1048576:=by unfold nPg at aS;omega
  have o:=uv u (vJ Y (vJ ab ac));clear u Y ab ac;have k:=kQ d K B H;unfold av at k;have j:=f.out.2.1;go_wp2_with (refine B5 rfl 35 _ rfl w.1.size rfl 35 #[.slice d.sa K.n d.sc,.slice d.pa K.m d.pc] (0,0) _ j underlying35 rfl a1 ?_);refine k.mono ?_;rintro e i ⟨rfl,l⟩;have br:sb<i.1.size:=by
   have a7:Below w1.1.size w1 i:=by rw[z.out];exact f.out.2.2.2.trans (l.mono (by have:=f.out.2.2.2.size;have:=z.out;omega))
   exact(o.out.2.2.2 n i (f.out.2.2.1.below l) a7).mks.lt rfl
  have X:nPg K<=1024:=by unfold nPg;omega
  have ak:=jG (nPg K) uA i;have Q:=bAl i (.cells (madeCells #[.bool false] (nPg K)) 4);have M:=jH 0 (nPg K) uA i (wa _);have u4:=l.trans (Q.mono l.size);have C:=f.out.2.2.1.below u4;have y:=f.out.1.trans (u4.mono f.out.1.size);have ba:=f.out.1.size;have bb:=l.size;clear k l Q j;go_upto_region 5 with fail
  generalize i.alloc (.cells (madeCells #[.bool false] (nPg K)) 4)=r at*;generalize a8:i.1.size=mb at*;clear ak;have af:=o.out.2.2.2 n r C (by rw[z.out];exact f.out.2.2.2.trans (u4.mono (by have:=f.out.2.2.2.size;have:=z.out;omega)));have aT:=W.out;have a4:=kO bg.out aT;have E:=iW a4 _ _ _ _ _ _ o.out.2.2.1;have aX:mb≠sb:=uA;have ap:r.cell? ⟨n,1,none⟩=some (.int .i64 p):=(C.cell 1).trans (by rw[o.out.1];rfl);have A:=(n9 (mb:=mb) aX a9 X T).1 E.isT E.full E.sm p [] r af M o.out.2.1 (fun x hx=>by have:=E.pgs x hx;exact⟨uA,this.2⟩);rw[wP]at A;clear af a4 E;clear M;go_wp2_with fail;refine A.mono ?_;rintro e a2 ⟨rfl,O,N⟩;clear A ap;have G:=y.trans (O.below uA y.size);have D:=og 0 mb (nPg K) _ a2 uA N;have v:Hid _:=G;clear y G O N u4 C;go_wp2_with fail;refine D.mono ?_;rintro e bs ⟨am,aA,rfl,F,P⟩;have q:=uv (v.out.trans (F.mono v.out.size)) (P.mono v.out.size);clear D F P;go_wp2_with fail
  go_ret2
  rw[t.out,s.out];exact⟨am,aA,rfl,q.out.1,q.out.2⟩
theorem iF{w1 f rest o b A}(k:o.guard=none)(so xo){t e bytes C}(T:ElT t e 1 C bytes)(y:o.op= .call {callee:= .builtin .append,args:=#[so,xo],argTypes:=#[t,t]})(B a n c xs)(z:b.eval so= .slice a n c)(i:Own1 e B w1 a n c xs)(x)(l:x.oneCell'=true)(hx:b.eval xo= .slice (some ⟨w1.1.size,0,none⟩) 1 1)(w:n<=1048576)(j:bytes<=1048576)(s:B<=w1.1.size)(v:∀g d w',Own1 e B w' (some ⟨g,0,none⟩) (n+1) d (xs++[x])->Below B w1 w'->(w1.alloc (.cells #[x] e)).grownBy w' (Value.slice a n c).ownBlock->(a=some ⟨g,0,none⟩\/w1.1.size<g)->wpList prog f A rest (b.put o.dst (.slice (some ⟨g,0,none⟩) (n+1) d)) w'):
 wpList prog f A (o::rest) b (w1.alloc (.cells #[x] e)):=
 DR k fun _ u=>je so xo T y B a n c xs z i x l hx w j s fun g d w' m p q r=>u _ _ (v g d w' m p q r)
def dN(l:List Int)(i:Nat):Int:=low ((l.drop (4*i)).take 4)
def frA:List Int->List Int->Option (List Int)
 |[],free=>some free
 |x::xs,free=>if free≠[]/\x<=free.getLastD 0 then none else frA xs (free++[x])
def cG(l:List Int)(i:Nat):List Int:=((List.range (l.length/4)).drop i).map (dN l)
theorem wZ{l i}(h:l.length/4<=i):cG l i=[]:=by
 unfold cG;rw[List.drop_eq_nil_of_le (by simpa using h)]
 rfl
theorem xe{l i}(h:i<l.length/4):cG l i=dN l i::cG l (i+1):=by
 unfold cG;rw[yv (by simpa using h)];simp
def eZ(P:Pg)(own:List Int)(id:Int):Bool:=P.ok id&&(P.kd id==4)&& !own.contains id&&decide (4<=(P.bd id).length)&&((P.bd id).length%4==0)
theorem kY{P own id}:eZ P own id=true↔P.ok id=true/\P.kd id=4/\id∉own/\4<=(P.bd id).length/\(P.bd id).length%4=0:=by
 simp[eZ,and_assoc]
def flR(P:Pg):Nat->Int->List Int->List Int->Option (List Int×List Int)
 |0,id,own,free=>if id=0 then some (free,own)else none
 |f+1,id,own,free=>if id=0 then some (free,own)else if eZ P own id=true then(frA (cG (P.bd id) 1) free).bind fun free'=>flR P f (dN (P.bd id) 0) (own++[id]) free' else none
theorem xf{P}(f own a):flR P f 0 own a=some (a,own):=by cases f<;>simp[flR]
theorem xg{P f id own a}(b:id≠0)(h:eZ P own id=false):flR P (f+1) id own a=none:=by rw[flR,CH b,CH (by rw[h];decide)]
theorem oH{P f id own a}(c:id≠0)(h:eZ P own id=true):flR P (f+1) id own a=(frA (cG (P.bd id) 1) a).bind fun b=>flR P f (dN (P.bd id) 0) (own++[id]) b:=by rw[flR,CH c,B4 h]
noncomputable def flT(K:DK)(id:Int):Option (List Int×List Int):=match aR K with|false=>none|true=>flR (pgD K) (nPg K+1) id [] []
section
structure Ftq(w:World)(d:DV)(K:DK)(gv cv vb sb:Nat)(free own:List Int)(a a2:Option Addr)(c c2:Nat)(wr:World):Prop where
 b:Below w.1.size w wr
 f:Own1 3 w.1.size wr a free.length c (on free)
 o:Own1 3 w.1.size wr a2 own.length c2 (on own)
 m:Own1 4 w.1.size wr (some ⟨sb,0,none⟩) (nPg K) (nPg K) (mkB own (nPg K))
 v:VRow wr d K gv
 gvt:∃cs,wr.heap[gv]?=some (.cells cs 56 (0,0))
 k:Blk wr 136 vb [.slice (some ⟨gv,0,none⟩) K.n cv]
 sep:∀g,a2=some ⟨g,0,none⟩->a≠some ⟨g,0,none⟩
variable {w wr wr':World} {d:DV} {K:DK} {gv cv vb sb:Nat} {free own:List Int} {a a2:Option Addr} {c c2:Nat}
theorem Ftq.below(h:Ftq w d K gv cv vb sb free own a a2 c c2 wr)(b:Below wr.1.size wr wr'):Ftq w d K gv cv vb sb free own a a2 c c2 wr':=
 ⟨h.b.trans (b.mono h.b.size),h.f.below b,h.o.below b,h.m.below b,h.v.below b,by obtain⟨cs,e⟩:=h.gvt;exact⟨cs,(b.block gv h.v.1).trans e⟩,h.k.below b,h.sep⟩
theorem VRow.keepT(h:VRow wr d K gv)(a:∃cs,wr.heap[gv]?=some (.cells cs 56 (0,0)))(c:KeepT 56 wr wr'):VRow wr' d K gv:=by
 obtain⟨cs,b⟩:=a;exact⟨wQ h.1 c.size,fun t a=>(C5 (w:=wr) ((c.block gv cs _ b).trans b.symm)).trans (h.2 t a)⟩
theorem Ftq.kept(h:Ftq w d K gv cv vb sb free own a a2 c c2 wr)(e:Below w.1.size wr wr')(b:KeepT 56 wr wr')(g:KeepT 136 wr wr'):Below w.1.size w wr'/\VRow wr' d K gv/\(∃cs,wr'.heap[gv]?=some (.cells cs 56 (0,0)))/\Blk wr' 136 vb [.slice (some ⟨gv,0,none⟩) K.n cv]:=
 ⟨h.b.trans e,h.v.keepT h.gvt b,by obtain⟨cs,f⟩:=h.gvt;exact⟨cs,b.block gv cs _ f⟩,g.block vb _ _ h.k⟩
theorem Ftq.appO(h:Ftq w d K gv cv vb sb free own a a2 c c2 wr){i g p}(C:i<nPg K){w'}(D:Own1 3 w.1.size w' (some ⟨g,0,none⟩) (own.length+1) p (on own++[.int .i64 (i:Nat)]))(m:((wr.setCell ⟨sb,i,none⟩ (.bool true)).alloc (.cells #[.int .i64 (i:Nat)] 3)).grownBy w' (Value.slice a2 own.length c2).ownBlock)(u:a2=some ⟨g,0,none⟩\/wr.1.size<g):Ftq w d K gv cv vb sb free (own++[(i:Int)]) a (some ⟨g,0,none⟩) c p w':=by
 obtain⟨L,e0,s,J,⟨I,l⟩,_⟩:=h.m.at_ uA;cases e0;have z:=ax wr sb i (.bool true);have q:Below (wr.setCell ⟨sb,i,none⟩ (.bool true)).1.size (wr.setCell ⟨sb,i,none⟩ (.bool true)) ((wr.setCell ⟨sb,i,none⟩ (.bool true)).alloc (.cells #[.int .i64 (i:Nat)] 3)):=bAl _ _;have v:=h.b.size;have f:∀t,4≠t->KeepT t wr (wr.setCell ⟨sb,i,none⟩ (.bool true)):=fun t n=>cx z l n;have f1:=(h.f.keep (f _ uB)).below q;have j:=(h.o.keep (f _ uB)).below q;have y:=(h.m.set i (.bool true)).below q;rw[iT _ _ _ C]at y;have o:∀t,3≠t->KeepT t ((wr.setCell ⟨sb,i,none⟩ (.bool true)).alloc (.cells #[.int .i64 (i:Nat)] 3)) w':=fun t n=>bD j m n;have A:=((z.below s v).trans (q.mono (by simpa using v))).trans (t7.grown m (by simp;omega) (fun k e=>(Ct h.o k e).1));obtain⟨E,F,G,H⟩:=h.kept A (((f _ uB).trans (aV q)).trans (o _ uB)) (((f _ uB).trans (aV q)).trans (o _ uB));refine⟨E,f1.grown j m h.sep,?_,?_,F,G,H,?_⟩
 ·rw[wb,<-fv];exact D
 ·rw[mu (b:=(i:Int)::own) _ (fun x=>by simp[or_comm])];exact y.keep (o _ uB)
 ·intro M B r;cases B;rcases u with e|e
  ·exact h.sep g e r
  ·have:=h.f.lt r;omega
theorem Ftq.appF(h:Ftq w d K gv cv vb sb free own a a2 c c2 wr){x g m w'}(p:Own1 3 w.1.size w' (some ⟨g,0,none⟩) (free.length+1) m (on free++[.int .i64 x]))(j:(wr.alloc (.cells #[.int .i64 x] 3)).grownBy w' (Value.slice a free.length c).ownBlock)(o:a=some ⟨g,0,none⟩\/wr.1.size<g):Ftq w d K gv cv vb sb (free++[x]) own (some ⟨g,0,none⟩) a2 m c2 w':=by
 have q:=bAl wr (.cells #[.int .i64 x] 3);have b:=h.below q;have z:=b.b.size;have l:∀t,3≠t->KeepT t (wr.alloc (.cells #[.int .i64 x] 3)) w':=fun t r=>bD b.f j r;obtain⟨s,u,v,y⟩:=b.kept (t7.grown j uA (fun k e=>(Ct h.f k e).1)) (l _ uB) (l _ uB);refine⟨s,?_,b.o.grown b.f j (fun n f i=>b.sep n i f),b.m.keep (l _ uB),u,v,y,?_⟩
 ·rw[wb,<-fv];exact p
 ·intro n f i;cases i;rcases o with e|e
  ·exact h.sep g f e
  ·have:=h.o.lt f;omega
end
section
structure BsT(w:World)(a:Option Addr)(n c:Nat)(l:List Int):Prop where
 bs:Bs w a n c l
 ty:0<n->∃b off cs fr,a=some ⟨b,off,none⟩/\w.heap[b]?=some (.cells cs 5 fr)
theorem BsT.keep{w w' a n c l}(h:BsT w a n c l)(m:KeepT 5 w w'):BsT w' a n c l:=
 ⟨⟨h.bs.len_eq,h.bs.le,h.bs.le',h.bs.nil,fun j=>by
  obtain⟨b,o,e,r,p⟩:=h.bs.at_ j;obtain⟨k,d,cs,fr,f,g⟩:=h.ty j;rw[e]at f;cases f;exact⟨b,o,e,wQ r m.size,fun i q=>(C5 (w:=w) ((m.block b cs fr g).trans g.symm)).trans (p i q)⟩,h.bs.byte⟩,fun j=>by
  obtain⟨k,d,cs,fr,f,g⟩:=h.ty j;exact⟨k,d,cs,fr,f,m.block k cs fr g⟩⟩
def EI(P:Pg)(S:World->Prop)(X:Nat->Prop)(u:World)(id:Int)(e:Ending)(w':World):Prop:=
 S w'/\OnlyS X u w'/\((P.ok id=true/\∃a c,e= .returned (.tuple #[.int .i64 (P.kd id),.slice a (P.bd id).length c,.nilIface])/\BsT w' a (P.bd id).length c (P.bd id))\/
  (P.ok id=false/\∃(k:Int)(a:Option Addr)(n c:Nat)(ad:Addr),e= .returned (.tuple #[.int .i64 k,.slice a n c,errV ad])))
structure Src(P:Pg)(B0 ty fn:Nat)(v:Value)(S:World->Prop)(X:Nat->Prop):Prop where
 low:∀k,X k->k<B0
 meth:∀w,(Go.method 428 ty v "loop.example/s01906/impl.page").run prog w= .ok (fn,v) w
 ent:∀args w,(callFunc fn args).run prog w= .ok (.enter fn args) w
 keep:∀u u',S u->Below B0 u u'->KeepT 5 u u'->S u'
 page:∀u id,S u->0<=id->id<4294967296->Calls prog fn #[v,.int .i64 id] u (EI P S X u id)
structure Wk(S:World->Prop)(B0 g m N:Nat)(src:Value)(w:World)(st:St)(x:LSg):Prop where
 blk:Blk w 234 g (wkc src m st.tall x)
 set:SetI w m st.seen
 src:S w
 gB:B0<=g
 mB:B0<=m
 ok:SeenOk st.seen N
theorem EM{P k R}{w w':World}{b n}{D:DataW Nat}(h:w.ownsMap P k R b n D)(d:w'.heap[b]?=w.heap[b]?):w'.ownsMap P k R b n D:=by
 obtain⟨es,a,c,r⟩:=h;exact⟨es,a,d.trans c,r⟩
theorem SetI.lt{w m seen}(h:SetI w m seen):m<w.1.size:=by obtain⟨D,h,_⟩:=h;exact h.lt
theorem SetI.same{w w' m seen}(h:SetI w m seen)(c:w'.heap[m]?=w.heap[m]?):SetI w' m seen:=by
 obtain⟨D,a,b⟩:=h;exact⟨D,EM a c,b⟩
theorem SetI.obj{w m seen}(h:SetI w m seen):∃es c,w.heap[m]?=some (.map es c):=by
 obtain⟨D,⟨es,a,b,_⟩,_⟩:=h;exact⟨es,a,b⟩
variable {S:World->Prop} {X:Nat->Prop} {B0 g m N ty fn:Nat} {src v:Value} {P:Pg} {st:St} {x:LSg} {w w':World}
theorem Wk.gm(h:Wk S B0 g m N src w st x):g≠m:=by
 intro e;subst e;obtain⟨es,c,b⟩:=h.set.obj;have a:=h.blk;unfold Blk at a;rw[b]at a;cases a
theorem Wk.keep(b:Src P B0 ty fn v S X)(h:Wk S B0 g m N src w st x){Z}(a:OnlyS Z w w')(c:¬Z g)(e:¬Z m)(f:∀k,Z k->B0<=k)(d:KeepT 5 w w'):Wk S B0 g m N src w' st x:=
 ⟨h.blk.onlyS a c,h.set.same (a.block m h.set.lt e),b.keep w w' h.src (a.below (by have:=h.blk.lt;have:=h.gB;omega) f) d,h.gB,h.mB,h.ok⟩
theorem Wk.below(b:Src P B0 ty fn v S X)(h:Wk S B0 g m N src w st x)(a:Below w.1.size w w'):Wk S B0 g m N src w' st x:=
 h.keep b (Z:=fun _=>False) (OnlyS.ofBelow a) (fun e=>e) (fun e=>e) (fun _ e=>e.elim) (aV a)
theorem Wk.ofPage(h:Wk S B0 g m N src w st x)(c:S w')(b:OnlyS X w w')(a:∀k,X k->k<B0):Wk S B0 g m N src w' st x:=
 ⟨h.blk.onlyS b (fun e=>by have:=a _ e;have:=h.gB;omega),h.set.same (b.block m h.set.lt (fun e=>by have:=a _ e;have:=h.mB;omega)),c,h.gB,h.mB,h.ok⟩
theorem Wk.put(f:Src P B0 ty fn v S X)(h:Wk S B0 g m N src w st x){a d}(b:OnlyB g w w')(i:Blk w' 234 g (wkc src m a.tall d))(c:a.seen=st.seen):Wk S B0 g m N src w' a d:=
 ⟨i,by rw[c];exact h.set.same (b.block m h.set.lt (ED h.gm)),f.keep w w' h.src (OnlyS.below (OnlyS.ofB b) (by have:=h.blk.lt;have:=h.gB;omega) (fun k e=>by subst e;exact h.gB)) (aw b h.blk uB),h.gB,h.mB,by rw[c];exact h.ok⟩
theorem xh{t m w w' es c}(b:w.grownBy w' (some m))(d:w.heap[m]?=some (.map es c)):KeepT t w w':=
 ⟨b.size,fun k cs fr a=>by
  rw[b.block k (wy.1 a).1 (fun e=>by cases e;rw[d]at a;cases a)];exact a⟩
theorem Wk.see(d:Src P B0 ty fn v S X)(h:Wk S B0 g m N src w st x){id}(f:0<=id)(i:id< (N:Int))(j:id∉st.seen)(n:SetI w' m (id::st.seen))(a:w.grownBy w' (some m)):Wk S B0 g m N src w' ⟨id::st.seen,st.tall⟩ x:=by
 obtain⟨es,c,l⟩:=h.set.obj;have b:=OnlyS.ofGrown a;exact⟨h.blk.onlyS b (fun e=>by cases e;exact h.gm rfl),n,d.keep w w' h.src (b.below (by have:=h.blk.lt;have:=h.gB;omega) (fun k e=>by cases e;exact h.mB)) (xh a l),h.gB,h.mB,h.ok.cons f i j⟩
end
section
def NdP(P:Pg)(S:World->Prop)(X:Nat->Prop)(B0 g m N:Nat)(src:Value)(f steps:Nat)(st:St)(x:LSg)(id:Int)(w:World)(e:Ending)(w':World):Prop:=
 OnlyS (fun k=>X k\/k=g\/k=m) w w'/\((∃t st' z F ty p,wkT P f (steps:Nat) st x id=some (t,st',z)/\e= .returned (.iface ty (.pointer p))/\IRep w' t F [(strOfNums [],.iface ty (.pointer p))]/\F.Nodup/\(∀k∈F,w.1.size<=k)/\Wk S B0 g m N src w' st' z/\st.seen.length<=st'.seen.length)\/(wkT P f (steps:Nat) st x id=none/\e= .panicked bI))
def NdC(P:Pg)(S:World->Prop)(X:Nat->Prop)(B0 g m N:Nat)(src:Value)(f:Nat):Prop:= ∀(steps:Nat)(id:Int)(st:St)(x:LSg)(w:World),Wk S B0 g m N src w st x->N<f+st.seen.length->steps<=st.seen.length->0<=id->id<4294967296->
 Calls prog 144 #[.pointer (some ⟨g,0,none⟩),.int .i64 id,.int .i64 (steps:Nat)] w (NdP P S X B0 g m N src f steps st x id w)
def KdP(P:Pg)(S:World->Prop)(X:Nat->Prop)(B0 g m N:Nat)(src:Value)(f steps:Nat)(l:List Int)(st:St)(x:LSg)(gc:Nat)(w:World)(e:Ending)(w':World):Prop:=
 OnlyS (fun k=>X k\/k=g\/k=m\/k=gc) w w'/\((∃t st' z F us a c,((inP l).bind fun ls=>wkK (wkT P f (steps:Nat)) ls true st x)=some (t,st',z)/\e= .returned (.slice a us.length c)/\ORow 239 2 w.1.size w' a us.length c (kdF us)/\IRep w' t F us/\(rb a++F).Nodup/\(∀k∈F,w.1.size<=k)/\Wk S B0 g m N src w' st' z/\st.seen.length<=st'.seen.length)\/(((inP l).bind fun ls=>wkK (wkT P f (steps:Nat)) ls true st x)=none/\e= .panicked bI))
theorem xi(s)(a:Nat)(p):prog.built 239 [(0,.string s),(1,.iface a p)]=some #[.string s,.iface a p]:=vk
theorem EO:(prog.info? 197).map (·.size)=some 2:=vk
theorem ER(es n):IsRow 2 (lnF es) n:=⟨fun _ _=>rfl,fun i _ u a=>by simp[lnF]at a;rcases a with rfl|rfl<;>rfl⟩
theorem xj:∀(n:Nat)(l:List Int)(ls:List (ByteArray×Int)),IsB l->l.length<=n->lnP l=some ls->∀e∈ls,0<=e.2/\e.2<4294967296
 |0,l,r,_,h,e=>by rw[gZ uA]at e;cases e;simp
 |n+1,l,r,c,h,e=>by
  by_cases b:l.length=0
  ·rw[gZ b]at e;cases e;simp
  ·cases a:eJ l with
   |false=>rw[ji b a]at e;cases e
   |true=>
    rw[j4 a]at e;obtain⟨i,d,rfl⟩:=x5.1 e;have k:=gJ.1 a;have:=xj n (l.drop (5+lfK l)) i (fun j=>by have:=c (5+lfK l+j);simpa [List.getD]using this) (by rw[wi];omega) d;intro x hx;rcases w3.1 hx with rfl|hx
    ·have f:IsB (l.drop (1+lfK l)):=fun j=>by have:=c (1+lfK l+j);simpa [List.getD]using this
     have:=gX (gR f 4);have g:((l.drop (1+lfK l)).take 4).length=4:=by rw[wR,wi];omega
     rw[g]at this;exact this
    ·exact this x hx
theorem ET{l ls}(b:IsB l)(h:inP l=some ls):∀e∈ls,0<=e.2/\e.2<4294967296:=by
 unfold inP at h;by_cases a:4<=l.length
 ·rw[B4 a]at h;obtain⟨r,c,rfl⟩:=x5.1 h;have:=xj _ _ r (fun j=>by have:=b (4+j);simpa [List.getD]using this) t6 c;intro x hx;rcases w3.1 hx with rfl|hx
  ·have:=gX (gR b 4);have d:(l.take 4).length=4:=by rw[wR];omega
   rw[d]at this;exact this
  ·exact this x hx
 ·rw[CH a]at h;cases h
structure KdI(P:Pg)(S:World->Prop)(X:Nat->Prop)(B0 g m N:Nat)(src:Value)(f steps:Nat)(st:St)(x:LSg)(gc:Nat)(w:World)(ls:List (ByteArray×Int))(la:Option Addr)(lc:Nat)(i:Nat)(a:Option Addr)(c:Nat)(us:List (ByteArray×Value))(ts:List (ByteArray×Tr))(F:List Nat)(st1:St)(x1:LSg)(wr:World):Prop where
 len:us.length=i
 fr:OnlyS (fun k=>X k\/k=g\/k=m\/k=gc) w wr
 wk:Wk S B0 g m N src wr st1 x1
 row:ORow 239 2 w.1.size wr a us.length c (kdF us)
 rep:IRep wr (dw ts .nil) F us
 nd:(rb a++F).Nodup
 hi:∀k∈F,w.1.size<=k
 lnk:ORow 197 2 w.1.size wr la ls.length lc (lnF ls)
 sn:st.seen.length<=st1.seen.length
variable {S:World->Prop} {X:Nat->Prop} {B0 g m N ty fn:Nat} {src v:Value} {P:Pg} {st st1:St} {x x1:LSg} {w wr wr':World} {f steps gc lc i c:Nat} {ls:List (ByteArray×Int)} {la a:Option Addr} {us:List (ByteArray×Value)} {ts:List (ByteArray×Tr)} {F:List Nat}
theorem KdI.below(d:Src P B0 ty fn v S X)(h:KdI P S X B0 g m N src f steps st x gc w ls la lc i a c us ts F st1 x1 wr)(b:Below wr.1.size wr wr'):KdI P S X B0 g m N src f steps st x gc w ls la lc i a c us ts F st1 x1 wr':=
 ⟨h.len,h.fr.trans (OnlyS.ofBelow b),h.wk.below d b,h.row.below b,h.rep.below b,h.nd,h.hi,h.lnk.below b,h.sn⟩
theorem KdI.sign(j:Src P B0 ty fn v S X)(h:KdI P S X B0 g m N src f steps st x gc w ls la lc i a c us ts F st1 x1 wr)(d:g<w.1.size)(s):KdI P S X B0 g m N src f steps st x gc w ls la lc i a c us ts F st1 (x1.1,s) (wr.setCell ⟨g,4,none⟩ (.string s)):=by
 have b:=ax wr g 4 (.string s);have n:=h.wk.blk.set 4 (.string s);exact⟨h.len,h.fr.transN (OnlyS.ofB b) (fun k _ e=>v6 (v7 e)),h.wk.put j b n rfl,h.row.onlyN b d,h.rep.onlyS (OnlyS.ofB b) (fun k l e=>by subst e;have:=h.hi _ l;omega),h.nd,h.hi,h.lnk.onlyN b d,h.sn⟩
theorem EU{e m s F B r n E c t w a j f A}(h:ORow e s B w a n c f)(C:ORow m F r w j E t A)(D:e≠m):∀k∈rb a,∀q∈rb j,k≠q:=by
 intro k i q b z;subst z;rcases h.2 with⟨g,_⟩|⟨I,u,x,g,G,d,_⟩
 ·cases g;simp[rb]at i
 ·rcases C.2 with⟨l,_⟩|⟨J,v,y,o,H,p,_⟩
  ·cases l;simp[rb]at b
  ·cases g;cases o;simp[rb]at i b;subst i;rw[b,p]at d;cases d;exact D rfl
theorem xk{a n c}:∀k,(Value.slice a n c).ownBlock=some k->k∈rb a:=by
 intro k h;cases a with
 |none=>simp[Value.ownBlock]at h
 |some b=>simp[Value.ownBlock]at h;simp[rb,h]
theorem KdI.more(W:Src P B0 ty fn v S X)(h:KdI P S X B0 g m N src f steps st x gc w ls la lc i a c us ts F st1 x1 wr){n B t A V G u s o M}(y:OnlyS (fun k=>X k\/k=g\/k=m) wr n)(Q:g<w.1.size)(R:m<w.1.size)(Y:∀k,X k->k<w.1.size)(U:IRep n t G [(strOfNums [],u)])(ae:G.Nodup)(I:∀k∈G,wr.1.size<=k)(T:Wk S B0 g m N src n A V)(ag:st1.seen.length<=A.seen.length){cs}(af:ORow 239 2 w.1.size B (some ⟨o,0,none⟩) (us.length+1) M (cH (kdF us) us.length [.string s,u]))(O:(n.alloc (.cells cs 239)).grownBy B (Value.slice a us.length c).ownBlock)(L:a=some ⟨o,0,none⟩\/n.1.size<o):
 KdI P S X B0 g m N src f steps st x gc w ls la lc (i+1) (some ⟨o,0,none⟩) M (us++[(s,u)]) (ts++[(s,t)]) (F++G) A V B:=by
 have d:∀k,(X k\/k=g\/k=m)->k<w.1.size:=fun k e=>by
  rcases e with e|rfl|rfl
  ·exact Y k e
  ·exact Q
  ·exact R
 have ak:=h.fr.size;have am:=y.size;have J:=bAl n (.cells cs 239);have ow:=(OnlyS.ofBelow J).transN (OnlyS.ofGrown O) (fun k _ e=>xk k e);have z:=iA h.row (fun k b=>y.block k (cE h.row k b).2 (fun e=>by have:=d k e;have:=(cE h.row k b).1;omega));have l:=iA h.lnk (fun k b=>y.block k (cE h.lnk k b).2 (fun e=>by have:=d k e;have:=(cE h.lnk k b).1;omega));have K:=h.rep.onlyS y (fun k b e=>by have:=d k e;have:=h.hi k b;omega);have r:=h.rep.lt;have E:=U.lt;have C:∀k∈F,k∉rb a:=fun k b H=>(z8.1 h.nd).2.2 k H k b rfl;have D:∀k∈G,k∉rb a:=fun k b H=>by have:=I k b;have:=(cE h.row k H).2;omega
 have ad:KeepT 5 n B:=(aV J).trans (bD (bQ z J) O uB);refine⟨by simp[h.len],(h.fr.transN y (fun k b e=>by rcases e with e|e|e;exact v7 e;exact v6 (v7 e);exact v6 (v6 (v7 e)))).transN ow (fun k b e=>by have:=(cE h.row k e).1;omega),T.keep W ow (fun e=>by have:=(cE h.row _ e).1;omega) (fun e=>by have:=(cE h.row _ e).1;omega) (fun k e=>by have:=(cE h.row _ e).1;have:=T.gB;omega) ad,?_,?_,?_,?_,?_,wg h.sn ag⟩
 ·rw[wb];exact af.congr (fun j Z=>CB us (s,u) j Z)
 ·exact IRep.snoc (U.onlyS ow (fun k b e=>D k b e)) (K.onlyS ow (fun k b e=>C k b e))
 ·rw[rb,List.singleton_append,zz];refine⟨fun b=> ?_,?_⟩
  ·change o∈F++G at b;rcases L with e|e
   ·rcases w6.1 b with b|b
    ·exact C _ b (by rw[e];simp[rb])
    ·exact D _ b (by rw[e];simp[rb])
   ·rcases w6.1 b with b|b
    ·have:=r _ b;omega
    ·have:=E _ b;omega
  ·rw[z8];refine⟨(z8.1 h.nd).2.1,ae,fun p ab q ac e=> ?_⟩;subst e;have:=r _ ab;have:=I _ ac;omega
 ·intro k b;rcases w6.1 b with b|b
  ·exact h.hi k b
  ·have:=I k b;omega
 ·exact iA l (fun k b=>ow.block k (cE l k b).2 (fun e=>EU z l uB k e k b rfl))
end
theorem EW(P B0 c8 cW v S b5)(U:Src P B0 c8 cW v S b5)(g m N aT f)(cb:NdC P S b5 B0 g m N aT f)(steps l O B D x w)(bA:Wk S B0 g m N aT w D x)(bT:Cur w O B l)(c0:B<=w.1.size)(c1:l.length<=1048576)(cl:O≠g)(cm:O≠m)(ck:B0<=O)(dr:N<f+D.seen.length)(cr:steps<=D.seen.length):
 Calls prog 167 #[.pointer (some ⟨g,0,none⟩),.pointer (some ⟨O,0,none⟩),.int .i64 (steps:Nat)] w (KdP P S b5 B0 g m N aT f steps l D x O w):=by
 have db:=CA O B l w bT c0 c1;have b7:=bA.blk.lt;have b2:=bA.set.lt;have cj:∀k,b5 k->k<w.1.size:=fun k e=>by have:=U.low k e;have:=bA.gB;omega
 have b0:=bT.byte;have a8:∃xs,Blk w 192 O xs:=by
  obtain⟨a,n,c,h⟩:=bT;exact⟨_,h.blk⟩
 obtain⟨xs,a8⟩:=a8;have bR:=uv bA (vJ b0 cj);have bY:Hid (Blk w 192 O xs):=a8;clear bT bA a8 b0 cj;go_enter func167,ntmps167;go_wp2_with fail;refine db.mono ?_;rintro e w1 ⟨bW,cp⟩;clear db;have b9:=bR.out.1.keep U (OnlyS.ofB bW) (fun e=>cl e.symm) (fun e=>cm e.symm) (fun k e=>by subst e;exact ck) (aw bW (show Blk w 192 O xs from bY.out) uB);have ca:=(OnlyS.ofB bW).mono (Z2:=(fun k=>b5 k\/k=g\/k=m\/k=O)) (fun k _ e=>v6 (v6 (v6 e)));clear bW bY;rcases cp with⟨ls,c5,c6,a7,rfl,cq⟩|⟨ae,rfl⟩
 rotate_left
 ·have b8:((inP l).bind fun ls=>wkK (wkT P f (steps:Nat)) ls true D x)=none:=by rw[ae];rfl
  clear ae b9;go_wp2;exact⟨rfl,ca,v6 ⟨b8,rfl⟩⟩
 have bz:((inP l).bind fun ls=>wkK (wkT P f (steps:Nat)) ls true D x)=wkK (wkT P f (steps:Nat)) ls true D x:=by rw[a7];rfl
 have c2:=qU a7;have bu:=ET bR.out.2.1 a7;have bb:Hid _:=bR.out.2.2;have ba:=uv b9 (vJ ca (vJ cq (vJ bz bu)));clear a7 b9 ca cq bz bu bR;go_wp2_with fail;go_loopw [7,13] (fun c7 cD wr=> ∃(i:Nat)(a:Option Addr)(c:Nat)(us:List (ByteArray×Value))(ab:List (ByteArray×Tr))(cM:List Nat)(I:St)(H:LSg),c7= .slice a us.length c/\cD= .int .i64 (i:Nat)/\i<=ls.length/\KdI P S b5 B0 g m N aT f steps D x O w ls c5 c6 i a c us ab cM I H wr/\wkK (wkT P f (steps:Nat)) ls true D x=(wkK (wkT P f (steps:Nat)) (ls.drop i) (i==0) I H).map fun M=>(dw ab M.1,M.2)) (fun _ s _=>ls.length-(intOf s).toNat)
 case atStart=>
  refine⟨0,none,0,[],[],[],D,x,rfl,by rfl,uA,⟨rfl,ba.out.2.1,ba.out.1,lJ _ _ _ _ _,?_,by simp[rb],vo,ba.out.2.2.1,t6⟩,?_⟩
  ·show IRep w1 .nil [] [];rw[IRep];exact⟨rfl,rfl⟩
  ·show _=Option.map _ (wkK (wkT P f (steps:Nat)) ls true D x);generalize wkK (wkT P f (steps:Nat)) ls true D x=r;cases r<;>rfl
 case round=>
  obtain⟨i,a,c,us,ab,cM,I,H,rfl,rfl,ds,aA,a6⟩:=hrel;obtain⟨ac,cv⟩:=aa wr;subst cv;have dl:=aA.fr.size;have a4:Hid _:=ba.out.2.2.2.1;have bX:Hid _:=ba.out.2.2.2.2;clear ba;have W:=aA.len;have an:Hid _:=aA;by_cases a9:i<ls.length
  ·have c3:(i:Int)< (ls.length:Int):=uA;obtain⟨b,rfl,dc,dd⟩:=oy aA.lnk uA;have a5:=fun j v c4=>(aA.lnk.reads (ER ls _)).cells i a9 j v c4;rw[show lnF ls i=[.string (ls.getD i l0).1,.int .i64 (ls.getD i l0).2]from rfl]at a5;have b1:ls.drop i=ls.getD i l0::ls.drop (i+1):=by
    rw[yv a9];simp[List.getD,a9]
   have bx:ls.getD i l0∈ls:=by
    have:ls.getD i l0=ls[i]:=by simp[List.getD,a9]
    rw[this];exact za _
   obtain⟨dp,dq⟩:=bX.out _ bx;generalize ls.getD i l0=cV at*;obtain⟨sg,id⟩:=cV;have cf:ac.cell? ⟨b,i*2,none⟩=some (.string sg):=by have:=a5 0 _ rfl;simpa using this
   have cg:ac.cell? ⟨b,i*2+1,none⟩=some (.int .i64 id):=by have:=a5 1 _ rfl;simpa using this
   have br:wkK (wkT P f (steps:Nat)) ls true D x=(if(i==0)=true\/sl H.1 sg=true then(wkT P f (steps:Nat) I (H.1,if(i==0)=true then H.2 else sg) id).bind fun y=>(wkK (wkT P f (steps:Nat)) (ls.drop (i+1)) false y.2.1 y.2.2).map fun M=>(.cons sg y.1 M.1,M.2)else none).map fun M=>(dw ab M.1,M.2):=by rw[a6,b1,wkK]
   have cA:=aq ac 197 #[.string sg,.int .i64 id];have cB:=bAl ac (.cells #[.string sg,.int .i64 id] 197);have cL:(ac.alloc (.cells #[.string sg,.int .i64 id] 197)).1.size=ac.1.size+1:=by simp
   have R:=aA.below U cB;have am:Hid _:=br;clear a5 b1 bx a6 br cB an aA;go_upto_region 5 with(first|(refine bt rfl 197 _ _ rfl ac #[.string (strOfNums []),.int .i64 0] #[.string sg,.int .i64 id] 197 rfl rfl EO rfl rfl ?_))
   change Code.wp _ _ _ _ (ac.alloc (.cells #[.string sg,.int .i64 id] 197));generalize ac.alloc (.cells #[.string sg,.int .i64 id] 197)=T at*;generalize dk:ac.1.size=d at*;have aS:Blk T 197 d [.string sg,.int .i64 id]:=cA;clear cA cf cg bX;have a1:g≠d:=uA;have bv:m≠d:=uA;rcases Nat.eq_zero_or_pos i with h0|h0
   ·have ch:¬(0:Int)< (i:Int):=uA;have ad:(i==0)=true:=by rw[h0];rfl
    clear h0;obtain⟨af,X⟩:∃af:LSg,af=H:=⟨_,rfl⟩;have aX:Hid (wkK (wkT P f (steps:Nat)) ls true D x=((wkT P f (steps:Nat) I af id).bind fun y=>(wkK (wkT P f (steps:Nat)) (ls.drop (i+1)) false y.2.1 y.2.2).map fun M=>(.cons sg y.1 M.1,M.2)).map fun M=>(dw ab M.1,M.2)):=by
     have:=am.out;rw[ad,B4 (v7 rfl),B4 rfl]at this;rw[X];exact this
    rw[<-X]at R;have q:=uv R aS;clear R aS am X ad;obtain⟨K,bn⟩:=aa T;have da:K.1.size=d+1:=by rw[bn];exact cL
    rw[<-bn]at q;subst bn;go_upto_region 8 with fail
    have ap:=cb steps id I af K.drew (q.out.1.wk.below U ⟨rfl,rfl,rfl,t6,fun _ _=>rfl⟩) (by have:=q.out.1.sn;omega) (wg cr q.out.1.sn) uA uA;have z:K.drew.cell? ⟨d,0,none⟩=some (.string sg)/\K.drew.cell? ⟨d,1,none⟩=some (.int .i64 id):=⟨Blk.cell q.out.2 0,Blk.cell q.out.2 1⟩;refine az (fun u=>u.cell? ⟨d,0,none⟩=some (.string sg)/\u.cell? ⟨d,1,none⟩=some (.int .i64 id)) (fun k=>decide (10<=k)) vk ?_;refine ai 0 z ?_;refine ai 1 z ?_;refine ai 2 z ?_;refine ai 3 z ?_;refine ai 4 z ?_;refine ai 5 z ?_;refine ai 6 z ?_;refine ah 7 fun C o=> ?_;go_wp2_with fail;refine CC ap ?_;rintro e A ⟨Z,⟨t,L,ag,G,E,Q,aB,rfl,bF,bE,bB,bC,bP⟩|⟨ae,rfl⟩⟩
    rotate_left
    ·have bs:=(q.out.1.fr.drew).transN Z (fun k a2 e=>by rcases e with e|e|e;exact v7 e;exact v6 (v7 e);exact v6 (v6 (v7 e)));go_wp2;exact⟨rfl,bs,v6 ⟨by rw[a4.out,aX.out,ae];rfl,rfl⟩⟩
    clear ap;have Y:=Blk.onlyS (show Blk K.drew 197 d [.string sg,.int .i64 id]from q.out.2) Z (fun e=>by rcases e with e|e|e;exact absurd (bb.out d e) uA;exact a1 e.symm;exact bv e.symm);have V:A.cell? ⟨d,0,none⟩=some (.string sg)/\A.cell? ⟨d,1,none⟩=some (.int .i64 id):=⟨Blk.cell Y 0,Blk.cell Y 1⟩;have cz:K.1.size<=A.1.size:=Z.size;have F:=uv Z (vJ bF (vJ bE (vJ bB (vJ bC (vJ bP aB)))));clear Z bF bE bB bC bP aB Y;go_wp2_with fail;refine ao o ?_;clear o C;refine ah 8 fun C o=> ?_;refine jZ _ _ rfl (cs:=#[.string sg,.iface E (.pointer Q)]) ?bkb ?_
    case bkb=>
     simp only[wB,ws,wz];exact xi sg E (.pointer Q)
    refine ao o ?_;clear o C;refine ah 9 fun C o=> ?_;refine bU _ _ _ rfl (v:= .slice (some ⟨A.1.size,0,none⟩) 1 1) (w':=A.alloc (.cells [.string sg,.iface E (.pointer Q)].toArray 239)) ?bsb ?_
    case bsb=>
     simp only[wB,ws,wz];exact fq mc uA (.agg #[.string sg,.iface E (.pointer Q)]) [.string sg,.iface E (.pointer Q)] rfl rfl A
    refine o.out _ _ (fun _=>⟨(((B2 A.1.size A).alloc t6 _).cell (p:=⟨d,0,none⟩) (show d<A.1.size by omega)).trans V.1,(((B2 A.1.size A).alloc t6 _).cell (p:=⟨d,1,none⟩) (show d<A.1.size by omega)).trans V.2⟩) ?_;clear o C;have J:=iA q.out.1.row (fun k a2=>F.out.1.block k (cE q.out.1.row k a2).2 (fun e=>by have cX:=(cE q.out.1.row k a2).1;rcases e with e|e|e;exact absurd (bb.out k e) uA;omega;omega));rw[W]at J;refine ah 10 fun C o=> ?_;refine gW _ _ mc rfl w.1.size a i c (kdF us) rfl J [.string sg,.iface E (.pointer Q)] rfl (by simp[Value.oneCell']) rfl uA uA uA ?_;intro cP cT c9 a3 bg a0 bf;refine ao o ?_;clear o C;rw[<-W]at a3 a0;have bd:=KdI.more U (KdI.below U q.out.1 (wr':=K.drew) ⟨rfl,rfl,rfl,t6,fun _ _=>rfl⟩) F.out.1 b7 b2 (bb.out) F.out.2.1 F.out.2.2.1 F.out.2.2.2.1 F.out.2.2.2.2.1 F.out.2.2.2.2.2.1 (s:=sg) a3 a0 bf;have bc:wkK (wkT P f (steps:Nat)) ls true D x=(wkK (wkT P f (steps:Nat)) (ls.drop (i+1)) (i+1==0) L ag).map fun M=>(dw (ab++[(sg,t)]) M.1,M.2):=by
     rw[aX.out,F.out.2.2.2.2.2.2];show Option.map _ (Option.map _ (wkK (wkT P f (steps:Nat)) (ls.drop (i+1)) false L ag))=Option.map _ (wkK (wkT P f (steps:Nat)) (ls.drop (i+1)) false L ag);generalize wkK (wkT P f (steps:Nat)) (ls.drop (i+1)) false L ag=r;cases r with
     |none=>rfl
     |some M=>simp[ue]
    have ak:=uv bd bc;clear bd bc a3 a0 bg J F q aX V;refine ah 11 fun C o=> ?_;go_wp2_with fail;refine ao o ?_;clear o C;refine bi ?_;clear z;go_wp2;go_roundw
    case rel=>exact⟨i+1,_,_,_,_,_,_,_,by rw[wb,W];rfl,by go_num,uA,ak.out.1,ak.out.2⟩
    case measure=>simp[intOf];omega
   ·have ch:(0:Int)< (i:Int):=uA;have ad:(i==0)=false:=by rw[D2];omega
    have cc:T.cell? ⟨d,0,none⟩=some (.string sg):=aS.cell 0;have ce:T.cell? ⟨g,3,none⟩=some (.string H.1):=R.wk.blk.cell 3;have cS:T.cell? ⟨g,4,none⟩=some (.string H.2):=R.wk.blk.cell 4;have cR:=R.wk.blk.free 4;have bS:=uv R aS;clear R aS;go_upto_region 6 with fail
    cases bk:sl H.1 sg with
    |false=>
     have bZ:=(mA sg H.1).trans bk;have b4:Hid (KdP P S b5 B0 g m N aT f steps l D x O w (.panicked bI) T.drew):=⟨bS.out.1.fr.drew,v6 ⟨by rw[a4.out,am.out,ad,CH (by rw[bk];decide)];rfl,rfl⟩⟩;refine az (fun u=>u.cell? ⟨d,0,none⟩=some (.string sg)/\u.cell? ⟨g,3,none⟩=some (.string H.1)) (fun k=>decide (7<=k)) vk ?_;have cs:T.drew.cell? ⟨d,0,none⟩=some (.string sg)/\T.drew.cell? ⟨g,3,none⟩=some (.string H.1):=⟨cc,ce⟩;refine ai 0 cs ?_;refine ai 1 cs ?_;refine ai 2 cs ?_;refine ai 3 cs ?_;refine ai 4 cs ?_;refine ai 5 cs ?_;refine ai 6 cs ?_;refine ah 7 fun C o=> ?_;go_wp2_with fail;refine(fi _).mono ?_;rintro e w' ⟨rfl,rfl⟩;go_wp2;exact⟨rfl,b4.out⟩
    |true=>
     have bZ:=(mA sg H.1).trans bk;obtain⟨af,X⟩:∃af:LSg,af=(H.1,sg):=⟨_,rfl⟩;have aX:Hid (wkK (wkT P f (steps:Nat)) ls true D x=((wkT P f (steps:Nat) I af id).bind fun y=>(wkK (wkT P f (steps:Nat)) (ls.drop (i+1)) false y.2.1 y.2.2).map fun M=>(.cons sg y.1 M.1,M.2)).map fun M=>(dw ab M.1,M.2)):=by
      have:=am.out;rw[ad,B4 (v6 bk),CH Bool.false_ne_true]at this;rw[X];exact this
     go_quiet (first|(go_at_call 145;exact Calls.quiet_of_same (ez _)))
     have bl:=bS.out.1.below U (gx t7 nq);have bm:=bl.sign U b7 sg;rw[<-X]at bm;have b3:=Blk.only (show Blk (T.drewN nq) 197 d [.string sg,.int .i64 id]from bS.out.2) (ax (T.drewN nq) g 4 (.string sg)) (ED a1);have da:((T.drewN nq).setCell ⟨g,4,none⟩ (.string sg)).1.size=d+1:=by rw[<-cL];simp
     have q:=uv bm b3;clear bm b3 bl am bS bZ ad;go_upto_region 8 with fail
     generalize (T.drewN nq).setCell ⟨g,4,none⟩ (.string sg)=K at*;clear cc ce cR cS X bk;have ap:=cb steps id I af K.drew (q.out.1.wk.below U ⟨rfl,rfl,rfl,t6,fun _ _=>rfl⟩) (by have:=q.out.1.sn;omega) (wg cr q.out.1.sn) uA uA;have z:K.drew.cell? ⟨d,0,none⟩=some (.string sg)/\K.drew.cell? ⟨d,1,none⟩=some (.int .i64 id):=⟨Blk.cell q.out.2 0,Blk.cell q.out.2 1⟩;refine az (fun u=>u.cell? ⟨d,0,none⟩=some (.string sg)/\u.cell? ⟨d,1,none⟩=some (.int .i64 id)) (fun k=>decide (10<=k)) vk ?_;refine ai 0 z ?_;refine ai 1 z ?_;refine ai 2 z ?_;refine ai 3 z ?_;refine ai 4 z ?_;refine ai 5 z ?_;refine ai 6 z ?_;refine ah 7 fun C o=> ?_;go_wp2_with fail;refine CC ap ?_;rintro e A ⟨Z,⟨t,L,ag,G,E,Q,aB,rfl,bF,bE,bB,bC,bP⟩|⟨ae,rfl⟩⟩
     rotate_left
     ·have bs:=(q.out.1.fr.drew).transN Z (fun k a2 e=>by rcases e with e|e|e;exact v7 e;exact v6 (v7 e);exact v6 (v6 (v7 e)));go_wp2;exact⟨rfl,bs,v6 ⟨by rw[a4.out,aX.out,ae];rfl,rfl⟩⟩
     clear ap;have Y:=Blk.onlyS (show Blk K.drew 197 d [.string sg,.int .i64 id]from q.out.2) Z (fun e=>by rcases e with e|e|e;exact absurd (bb.out d e) uA;exact a1 e.symm;exact bv e.symm);have V:A.cell? ⟨d,0,none⟩=some (.string sg)/\A.cell? ⟨d,1,none⟩=some (.int .i64 id):=⟨Blk.cell Y 0,Blk.cell Y 1⟩;have cz:K.1.size<=A.1.size:=Z.size;have F:=uv Z (vJ bF (vJ bE (vJ bB (vJ bC (vJ bP aB)))));clear Z bF bE bB bC bP aB Y;go_wp2_with fail;refine ao o ?_;clear o C;refine ah 8 fun C o=> ?_;refine jZ _ _ rfl (cs:=#[.string sg,.iface E (.pointer Q)]) ?bkc ?_
     case bkc=>
      simp only[wB,ws,wz];exact xi sg E (.pointer Q)
     refine ao o ?_;clear o C;refine ah 9 fun C o=> ?_;refine bU _ _ _ rfl (v:= .slice (some ⟨A.1.size,0,none⟩) 1 1) (w':=A.alloc (.cells [.string sg,.iface E (.pointer Q)].toArray 239)) ?bsc ?_
     case bsc=>
      simp only[wB,ws,wz];exact fq mc uA (.agg #[.string sg,.iface E (.pointer Q)]) [.string sg,.iface E (.pointer Q)] rfl rfl A
     refine o.out _ _ (fun _=>⟨(((B2 A.1.size A).alloc t6 _).cell (p:=⟨d,0,none⟩) (show d<A.1.size by omega)).trans V.1,(((B2 A.1.size A).alloc t6 _).cell (p:=⟨d,1,none⟩) (show d<A.1.size by omega)).trans V.2⟩) ?_;clear o C;have J:=iA q.out.1.row (fun k a2=>F.out.1.block k (cE q.out.1.row k a2).2 (fun e=>by have cX:=(cE q.out.1.row k a2).1;rcases e with e|e|e;exact absurd (bb.out k e) uA;omega;omega));rw[W]at J;refine ah 10 fun C o=> ?_;refine gW _ _ mc rfl w.1.size a i c (kdF us) rfl J [.string sg,.iface E (.pointer Q)] rfl (by simp[Value.oneCell']) rfl uA uA uA ?_;intro cP cT c9 a3 bg a0 bf;refine ao o ?_;clear o C;rw[<-W]at a3 a0;have bd:=KdI.more U (KdI.below U q.out.1 (wr':=K.drew) ⟨rfl,rfl,rfl,t6,fun _ _=>rfl⟩) F.out.1 b7 b2 (bb.out) F.out.2.1 F.out.2.2.1 F.out.2.2.2.1 F.out.2.2.2.2.1 F.out.2.2.2.2.2.1 (s:=sg) a3 a0 bf;have bc:wkK (wkT P f (steps:Nat)) ls true D x=(wkK (wkT P f (steps:Nat)) (ls.drop (i+1)) (i+1==0) L ag).map fun M=>(dw (ab++[(sg,t)]) M.1,M.2):=by
      rw[aX.out,F.out.2.2.2.2.2.2];show Option.map _ (Option.map _ (wkK (wkT P f (steps:Nat)) (ls.drop (i+1)) false L ag))=Option.map _ (wkK (wkT P f (steps:Nat)) (ls.drop (i+1)) false L ag);generalize wkK (wkT P f (steps:Nat)) (ls.drop (i+1)) false L ag=r;cases r with
      |none=>rfl
      |some M=>simp[ue]
     have ak:=uv bd bc;clear bd bc a3 a0 bg J F q aX V;refine ah 11 fun C o=> ?_;go_wp2_with fail;refine ao o ?_;clear o C;refine bi ?_;clear z;go_wp2;go_roundw
     case rel=>exact⟨i+1,_,_,_,_,_,_,_,by rw[wb,W];rfl,by go_num,uA,ak.out.1,ak.out.2⟩
     case measure=>simp[intOf];omega
  ·have cn:i=ls.length:=uA;have b6:Hid (((inP l).bind fun ls=>wkK (wkT P f (steps:Nat)) ls true D x)=some (dw ab .nil,I,H)):=by
    show((inP l).bind fun ls=>wkK (wkT P f (steps:Nat)) ls true D x)=some (dw ab .nil,I,H);rw[a4.out,a6,cn,List.drop_length,wkK]
    rfl
   clear aA a6 W;go_wp2_with fail;go_ret;exact⟨an.out.fr,v7 ⟨_,_,_,cM,us,a,c,b6.out,rfl,an.out.row,an.out.rep,an.out.nd,an.out.hi,an.out.wk,an.out.sn⟩⟩
