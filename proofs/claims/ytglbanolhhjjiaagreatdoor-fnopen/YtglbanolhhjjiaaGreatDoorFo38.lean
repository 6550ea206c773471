import Derived.Test.YtglbanolhhjjiaaGreatDoorFo35
import Derived.Test.YtglbanolhhjjiaaGreatDoorFo36
import Derived.Test.YtglbanolhhjjiaaGreatDoorFo23
import Derived.Test.YtglbanolhhjjiaaGreatDoorFo15
namespace Go.Proofs.YtglbanolhhjjiaaGreatDoor
open Go.Proofs.Tryz
open Go.RowKit
set_option linter.unusedVariables false
set_option maxRecDepth 100000
set_option maxHeartbeats 32000000
theorem yo{r}(e:∀b id t a,b.seen.Nodup->r b id=some (t,a)->a.seen.Nodup):∀(ls:List (ByteArray×Int))(b:St)(t:Tr)(a:St),b.seen.Nodup->rdK r ls b=some (t,a)->a.seen.Nodup
 |[],b,t,a,c,d=>by rw[rdK]at d;cases d;exact c
 |(s,id)::ls,b,t,a,c,d=>by
  rw[rdK]at d;obtain⟨x,f,g⟩:=w3.1 d;obtain⟨y,h,i⟩:=w3.1 g;cases i;exact yo e ls x.2 y.1 y.2 (e b id x.1 x.2 c f) h
theorem yp{P}:∀(f:Nat)(steps:Int)(a:St)(id:Int)(t:Tr)(b:St),a.seen.Nodup->rdT P f steps a id=some (t,b)->b.seen.Nodup
 |0,steps,a,id,t,b,_,c=>by rw[rdT]at c;cases c
 |f+1,steps,a,id,t,b,n,c=>by
  rw[rdT]at c;cases e:dQ P a id with
  |false=>rw[BX (by rw[e];decide)]at c;cases c
  |true=>
   rw[BC e]at c;have i:=y1.2 ⟨(fO.1 e).2.2.1,n⟩;by_cases h:P.kd id=2
   ·rw[BC h]at c;by_cases j:a.tall<0\/a.tall=steps
    ·rw[BC j]at c;obtain⟨es,k,d⟩:=w3.1 c;by_cases g:es.isEmpty=true
     ·rw[BC g]at d;cases d
     ·rw[BX g]at d;cases d;exact i
    ·rw[BX j]at c;cases c
   ·rw[BX h]at c;obtain⟨ls,k,d⟩:=w3.1 c;obtain⟨y,l,m⟩:=xr.1 d;cases m;exact yo (fun a id t b=>yp f (steps+1) a id t b) ls ⟨id::a.seen,a.tall⟩ y.1 y.2 i l
theorem Gz{K}(c:aR K=true)(e:PgW (pgD K) (nPg K))(a):ldT K a=rtO (pgD K) (nPg K) a:=by
 unfold ldT rtO;rw[c];show(if a=0 then _ else _)= _;by_cases b:a=0
 ·rw[BC b,BC b]
 ·rw[BX b,BX b];unfold wkT;cases g:rdT (pgD K) (nPg K+1) 0 ⟨[], -1⟩ a with
  |none=>rfl
  |some y=>
   have d:=iW e (nPg K+1) 0 ⟨[], -1⟩ a y.1 y.2 g;have f:=AJ d.full d.keys;show(if okT y.1 true (strOfNums []) (strOfNums [])=true then some (some y.1)else none)=Option.map _ ((orT y.1 true x00).map _);rw[f];show(if(orT y.1 true x00).isSome=true then _ else _)= _;cases orT y.1 true x00<;>rfl
theorem GC{K}(f:aR K=true)(i:PgW (pgD K) (nPg K)){a o}(b:ldT K a=some o):(pgO o).Nodup/\∀x∈pgO o,0<=x/\x< ((nPg K:Nat):Int):=by
 unfold ldT at b;rw[f]at b;change (if a=0 then _ else _)= _ at b;by_cases d:a=0
 ·rw[BC d]at b;cases b;exact⟨ya,fun x hx=>by simp[pgO]at hx⟩
 ·rw[BX d]at b;obtain⟨y,h,c⟩:=w3.1 b;have g:=iW i (nPg K+1) 0 ⟨[], -1⟩ a y.1 y.2 h;have j:=yp (nPg K+1) 0 ⟨[], -1⟩ a y.1 y.2 ya h;split at c
  ·cases c;have e:=g.seen.nodup_iff.1 j;rw[wi]at e;exact⟨e,fun x hx=>by have:=g.pgs x hx;omega⟩
  ·cases c
theorem GD(o):(cN o).Perm (pgO o):=by
 cases o with
 |none=>exact List.Perm.refl _
 |some T=>exact lg T
theorem GE{w d K}(n:RDisk w d K)(e a c b):whS K e a c b=whB K e a c b:=by
 unfold whS whB;cases f:aR K with
 |false=>rfl
 |true=>
  have h:=kO n (gK f);show(true&&bG e a c b&&decide (c<=((nPg K:Nat):Int))&&iG K a b c.toNat)=hoB (pgD K) (nPg K) ((nPg K:Nat):Int) e a c b;unfold hoB;rw[yv];congr 1;unfold iG hoR;rw[<-Gz f h a,show flT K b=flR (pgD K) (nPg K+1) b [] []by unfold flT;rw[f]];cases m:flR (pgD K) (nPg K+1) b [] []with
  |none=>cases ldT K a<;>rfl
  |some p=>
   cases g:ldT K a with
   |none=>
    show(tpB K a&&_)=false;unfold tpB;rw[g];rfl
   |some o=>
    obtain⟨k,l⟩:=GC f h g;show(tpB K a&&mrk c.toNat (tpL K a) p.1 p.2)=eS (srt (cN o)++(p.1++p.2)) c.toNat;have i:tpB K a=true:=by unfold tpB;rw[g];rfl
    have j:tpL K a=mkd (pgO o) (nPg K):=by unfold tpL;rw[g]
    rw[i,j,yv];exact Ez (((oE _).trans (GD o)).trans (ru l k).symm)
noncomputable def opC(K:DK):Int:=match aR K with|false=>1|true=>match bsB K with|false=>2|true=>match whB K (bsN sG K) (bsN sR K) (bsN sU K) (bsN sF K)with|false=>3|true=>0
noncomputable def opK(K:DK):DK:= @ite _ (opC K=0) (Classical.propDecidable _) K (bV 0)
noncomputable def opN(f:List Int->Int)(K:DK):Int:= @ite _ (opC K=0) (Classical.propDecidable _) (bsN f K) 0
def OpP(d:DV)(K:DK)(w:World)(e:Ending)(w':World):Prop:=Below w.1.size w w'/\∃d',e= .returned (.tuple #[.agg (stV d' (opK K) (opN sG K) (opN sR K) (opN sU K) (opN sF K)).toArray,.int .i64 (opC K)])/\ODisk w.1.size w' d' (opK K)/\Small d' (opK K)
theorem GF:Small l6 (bV 0):=⟨u6 _,u6 _,fun i a=>absurd a (w8 _),fun i a=>absurd a (w8 _),by show(1:Int)<=1099511627776;omega⟩
theorem lq{d:DV}{K:DK}{w w':World}{c:Int}(k:Below w.1.size w w')(g:opC K=c)(j:c≠0:=by decide):OpP d K w (.returned (.tuple #[.agg stZ.toArray,.int .i64 c])) w':=by
 have b:¬opC K=0:=by rw[g];exact j
 have e:opK K=bV 0:=by unfold opK;rw[BX b]
 have a:∀f,opN f K=0:=fun f=>by unfold opN;rw[BX b]
 refine⟨k,l6,?_,?_,?_⟩
 ·rw[e,a,a,a,a,g];rfl
 ·rw[e];exact⟨jU _ _ _ _ _ _ _ _ _,jU _ _ _ _ _ _ _ _ _,fun i l _ h=>absurd h (w8 _)⟩
 ·rw[e];exact GF
theorem yq{d a K w w' sg j k i}(n:Below w.1.size w w')(e:opC K=0)(b:bsN sG K=sg/\bsN sR K=j/\bsN sU K=k/\bsN sF K=i)(h:Small d K)(o:ODisk w.1.size w' a K)(l:a.sN=d.sN)(m:a.pN=d.pN):OpP d K w (.returned (.tuple #[.agg (stV a K sg j k i).toArray,.int .i64 0])) w':=by
 have g:opK K=K:=by unfold opK;rw[BC e]
 have c:∀f,opN f K=bsN f K:=fun f=>by unfold opN;rw[BC e]
 refine⟨n,a,?_,?_,?_⟩
 ·rw[g,c,c,c,c,e,b.1,b.2.1,b.2.2.1,b.2.2.2]
 ·rw[g];exact o
 ·rw[g];exact h.congr l m
theorem GH(d K w)(an:RDisk w d K)(a6:Small d K):
 Calls prog 13 #[av d K] w (OpP d K w):=by
 obtain⟨D,x⟩:=aa (w.alloc (.cells #[.slice d.sa K.n d.sc,.slice d.pa K.m d.pc] 35));obtain⟨E,H⟩:=aa (D.alloc (.cells stZ.toArray 38));have aB:Below w.1.size w D:=by rw[x];exact bAl _ _
 have aS:Below D.1.size D E:=by rw[H];exact bAl _ _
 have ba:D.1.size=w.1.size+1:=by rw[x];simp
 have T:=(by rw[x];exact aq w _ _:Blk D 35 w.1.size [.slice d.sa K.n d.sc,.slice d.pa K.m d.pc]).below aS;have aA:Blk E 38 (w.1.size+1) stZ:=by rw[H,<-ba];exact aq D _ _
 have q:=aB.trans (aS.mono aB.size);have aT:(prog.info? 35).map (·.size)=some (#[Value.slice d.sa K.n d.sc,Value.slice d.pa K.m d.pc]:Array Value).size:=gD;have af:Hid (∀u,Below E.1.size E u->RDisk u d K):=fun u p=>an.below (q.trans (p.mono q.size));have r:Hid (∀u,Below E.1.size E u->Below w.1.size w u):=fun u p=>q.trans (p.mono q.size);have B:=t6 T aA;have bf:=aA.lt;have ad:=jt d K E (an.below q);unfold av at ad ⊢;clear aB aS ba q aA;go_enter func13,ntmps13;go_upto_region 1 with fail
 change Code.wp _ _ _ _ ((w.alloc (.cells #[.slice d.sa K.n d.sc,.slice d.pa K.m d.pc] 35)).alloc (.cells stZ.toArray 38));rw[<-x,<-H];clear x H;go_wp2_with (refine BD rfl 35 _ rfl w.1.size rfl 35 #[.slice d.sa K.n d.sc,.slice d.pa K.m d.pc] (0,0) _ T underlying35 rfl aT ?_);refine ad.mono ?_;rintro e aX ⟨rfl,t⟩;have Z:=T.below t;have N:=B.out.2.below t;clear ad T;cases l:aR K with
 |false=>
  have a:opC K=1:=by unfold opC;rw[l]
  clear l;have F:=N.setRow stZ;have n:=du aX (w.1.size+1) stZ.toArray;have i:=(r.out _ t).trans (n.below t7 (r.out _ t).size);have h:Hid (OpP d K w (.returned (.tuple #[.agg stZ.toArray,.int .i64 1])) (aX.setRow (w.1.size+1) stZ.toArray)):=lq i a;clear i n a;go_wp2_with (refine BO rfl 38 _ _ rfl (w.1.size+1) stZ.toArray rfl rfl 38 _ N dY rfl (df ku) ?_);refine BB (v:= .tuple #[.agg stZ.toArray,.int .i64 1]) ?_ rfl h.out;exact cI results13 _ _ (w.1.size+1) 38 stZ.toArray _ rfl F underlying38 rfl dY rfl
 |true=>
  have P:=EA d K aX (af.out _ t);unfold bsV aG at P;unfold av at P;clear N;go_wp2_with (refine BD rfl 35 _ rfl w.1.size rfl 35 #[.slice d.sa K.n d.sc,.slice d.pa K.m d.pc] (0,0) _ Z underlying35 rfl aT ?_);refine P.mono ?_;rintro e I ⟨rfl,a3⟩;have ak:=t.trans (a3.mono t.size);clear P a3 Z t;have a9:=bAl I (.cells #[.int .i64 (bsN sG K),.int .i64 (bsN sR K),.int .i64 (bsN sU K),.int .i64 (bsN sF K)] 36);have s:=ak.trans (a9.mono ak.size);have m:=aq I 36 #[.int .i64 (bsN sG K),.int .i64 (bsN sR K),.int .i64 (bsN sU K),.int .i64 (bsN sF K)];have G:=t6 s m;clear a9 ak s m;go_upto_region 4 with(refine bt rfl 36 _ _ rfl I #[.int .i64 0,.int .i64 0,.int .i64 0,.int .i64 0] #[.int .i64 (bsN sG K),.int .i64 (bsN sR K),.int .i64 (bsN sU K),.int .i64 (bsN sF K)] 36 rfl rfl bj rfl rfl ?_)
  change Code.wp _ _ _ _ (I.alloc (.cells #[.int .i64 (bsN sG K),.int .i64 (bsN sR K),.int .i64 (bsN sU K),.int .i64 (bsN sF K)] 36));generalize I.alloc (.cells #[.int .i64 (bsN sG K),.int .i64 (bsN sR K),.int .i64 (bsN sU K),.int .i64 (bsN sF K)] 36)=Q at*;generalize I.1.size=sb at*;have O:=B.out.2.below G.out.1;have M:=B.out.1.below G.out.1;have m:Blk Q 36 sb (al (bsN sG K) (bsN sR K) (bsN sU K) (bsN sF K)):=G.out.2;have s:=G.out.1;cases y:bsB K with
  |false=>
   have a:opC K=2:=by unfold opC;rw[l,y]
   clear l y M m;have F:=O.setRow stZ;have n:=du Q (w.1.size+1) stZ.toArray;have i:=(r.out _ s).trans (n.below t7 (r.out _ s).size);have h:Hid (OpP d K w (.returned (.tuple #[.agg stZ.toArray,.int .i64 2])) (Q.setRow (w.1.size+1) stZ.toArray)):=lq i a;clear i n a;go_wp2_with (refine BO rfl 38 _ _ rfl (w.1.size+1) stZ.toArray rfl rfl 38 _ O dY rfl (df ku) ?_);refine BB (v:= .tuple #[.agg stZ.toArray,.int .i64 2]) ?_ rfl h.out;exact cI results13 _ _ (w.1.size+1) 38 stZ.toArray _ rfl F underlying38 rfl dY rfl
  |true=>
  have R:=yk d K (bsN sG K) (bsN sR K) (bsN sU K) (bsN sF K) Q (af.out _ s);rw[GE an]at R;have bc:(prog.info? 36).map (·.size)=some (al (bsN sG K) (bsN sR K) (bsN sU K) (bsN sF K)).toArray.size:=bj;have bb:Hid (whB K (bsN sG K) (bsN sR K) (bsN sU K) (bsN sF K)=false->opC K=3):=fun ap=>by unfold opC;rw[l,y];show(match whB K (bsN sG K) (bsN sR K) (bsN sU K) (bsN sF K)with|false=>(3:Int)|true=>0)=3;rw[ap]
  have a1:Hid (whB K (bsN sG K) (bsN sR K) (bsN sU K) (bsN sF K)=true->opC K=0):=fun ap=>by unfold opC;rw[l,y];show(match whB K (bsN sG K) (bsN sR K) (bsN sU K) (bsN sF K)with|false=>(3:Int)|true=>0)=0;rw[ap]
  generalize W:bsN sG K=sg at*;generalize X:bsN sR K=c at*;generalize Y:bsN sU K=f at*;generalize V:bsN sF K=b at*;have a2:Hid (bsN sG K=sg/\bsN sR K=c/\bsN sU K=f/\bsN sF K=b):=⟨W,X,Y,V⟩;unfold av at R;generalize whB K sg c f b=bd at*;clear l y O W X Y V;go_wp2_with (first|(refine BD rfl 35 _ rfl w.1.size rfl 35 #[.slice d.sa K.n d.sc,.slice d.pa K.m d.pc] (0,0) _ M underlying35 rfl aT ?_)|(refine BD rfl 36 _ rfl sb rfl 36 (al sg c f b).toArray (0,0) _ m underlying36 rfl bc ?_));refine R.mono ?_;rintro e A ⟨rfl,ag⟩;have g:=s.trans (ag.mono s.size);have ab:=B.out.2.below g;have z:=m.below ag;have bg:=g.size;clear R ag M m s;cases bd with
  |false=>
   have a:=bb.out rfl;clear z;have F:=ab.setRow stZ;have n:=du A (w.1.size+1) stZ.toArray;have i:=(r.out _ g).trans (n.below t7 (r.out _ g).size);have h:Hid (OpP d K w (.returned (.tuple #[.agg stZ.toArray,.int .i64 3])) (A.setRow (w.1.size+1) stZ.toArray)):=lq i a;clear i n a;go_wp2_with (refine BO rfl 38 _ _ rfl (w.1.size+1) stZ.toArray rfl rfl 38 _ ab dY rfl (df ku) ?_);refine BB (v:= .tuple #[.agg stZ.toArray,.int .i64 3]) ?_ rfl h.out;exact cI results13 _ _ (w.1.size+1) 38 stZ.toArray _ rfl F underlying38 rfl dY rfl
  |true=>
  have a:=a1.out rfl;have U:Hid (∀u,Below A.1.size A u->u.cell? ⟨w.1.size,0,none⟩=some (.slice d.sa K.n d.sc)/\u.cell? ⟨w.1.size,1,none⟩=some (.slice d.pa K.m d.pc)/\u.cell? ⟨sb,0,none⟩=some (.int .i64 sg)/\u.cell? ⟨sb,1,none⟩=some (.int .i64 c)/\u.cell? ⟨sb,2,none⟩=some (.int .i64 f)/\u.cell? ⟨sb,3,none⟩=some (.int .i64 b)):=fun u p=>⟨Blk.cell (B.out.1.below (g.trans (p.mono g.size))) 0,Blk.cell (B.out.1.below (g.trans (p.mono g.size))) 1,Blk.cell (z.below p) 0,Blk.cell (z.below p) 1,Blk.cell (z.below p) 2,Blk.cell (z.below p) 3⟩;go_upto_region 8 with fail
  have am:=bDr A;have cs:=U.out A.drew am;have ae:=mq d K A.drew (af.out _ (g.trans (am.mono g.size))) a6;unfold av at ae;refine az (fun u=>u.cell? ⟨w.1.size,0,none⟩=some (.slice d.sa K.n d.sc)/\u.cell? ⟨w.1.size,1,none⟩=some (.slice d.pa K.m d.pc)/\u.cell? ⟨sb,0,none⟩=some (.int .i64 sg)/\u.cell? ⟨sb,1,none⟩=some (.int .i64 c)/\u.cell? ⟨sb,2,none⟩=some (.int .i64 f)/\u.cell? ⟨sb,3,none⟩=some (.int .i64 b)) (fun k=>decide (4<=k)) uA ?_;refine nk 0 23 cs ?_;simp only[Act.put,fx,List.set];refine nk 2 25 cs ?_;simp only[Act.put,fx,List.set];refine on1 1 fun C j=> ?_;go_wp2_with fail;refine ae.mono ?_;rintro e a0 ⟨o,rfl,a4,a8,a7,a5⟩;have J:=am.trans a4;have L:=U.out a0 J;have S:=g.trans (J.mono g.size);have ac:=B.out.2.below S;have n:=du a0 (w.1.size+1) (stV o K sg c f b).toArray;have F:=ac.setRow (stV o K sg c f b);have i:=(r.out _ S).trans (n.below t7 (r.out _ S).size);have h:Hid (OpP d K w (.returned (.tuple #[.agg (stV o K sg c f b).toArray,.int .i64 0])) (a0.setRow (w.1.size+1) (stV o K sg c f b).toArray)):=yq i a a2.out a6 (uT a8 (r.out _ g).size (show w.1.size+1<A.1.size by omega)) a7 a5;clear ae a4 a8 J S n i;go_wp2_with fail;refine j.out _ _ (fun _=>L) ?_;clear j C;refine on1 3 fun C j=> ?_;refine jZ _ _ rfl (cs:=(stV o K sg c f b).toArray) ?bk ?_
  case bk=>
   simp only[wa,vo,v6];exact uR o K sg c f b
  refine j.out _ _ (fun _=>L) ?_;clear j C;refine on1 4 fun C j=> ?_;refine wp_store_row 38 _ _ rfl (w.1.size+1) (stV o K sg c f b).toArray rfl rfl 38 _ ac dY rfl (df (nK o K sg c f b)) ?_;refine j.out _ _ (fun an=>absurd an uv) ?_;clear j C;refine on1 5 fun C j=> ?_;go_wp2_with fail;refine j.out _ _ (fun an=>absurd an uv) ?_;clear j C;refine j5 uA ?_ _;clear cs L;go_wp2_with fail;refine BB (v:= .tuple #[.agg (stV o K sg c f b).toArray,.int .i64 0]) ?_ rfl h.out;exact cI results13 _ _ (w.1.size+1) 38 (stV o K sg c f b).toArray _ rfl F underlying38 rfl dY rfl
theorem GI(S T d K w)(a3:RDisk w d K)(ba:Small d K)(a8:Errs w S T):
 Calls prog 15 #[av d K] w (OpP d K w):=by
 obtain⟨E,y⟩:=aa (w.alloc (.cells #[.slice d.sa K.n d.sc,.slice d.pa K.m d.pc] 35));obtain⟨t,H⟩:=aa (E.alloc (.cells stZ.toArray 38));have aT:Below w.1.size w E:=by rw[y];exact bAl _ _
 have aX:Below E.1.size E t:=by rw[H];exact bAl _ _
 have bf:E.1.size=w.1.size+1:=by rw[y];simp
 have U:=(by rw[y];exact aq w _ _:Blk E 35 w.1.size [.slice d.sa K.n d.sc,.slice d.pa K.m d.pc]).below aX;have aS:Blk t 38 (w.1.size+1) stZ:=by rw[H,<-bf];exact aq E _ _
 have h:=aT.trans (aX.mono aT.size);have a0:(prog.info? 35).map (·.size)=some (#[Value.slice d.sa K.n d.sc,Value.slice d.pa K.m d.pc]:Array Value).size:=gD;have ak:Hid (∀u,Below t.1.size t u->RDisk u d K):=fun u i=>a3.below (h.trans (i.mono h.size));have s:Hid (∀u,Below t.1.size t u->Below w.1.size w u):=fun u i=>h.trans (i.mono h.size);have W:Hid (∀u,Below t.1.size t u->Errs u S T):=fun u i=>a8.below (h.trans (i.mono h.size));have C:=t6 U aS;have bn:=aS.lt;have af:=uw d K t (a3.below h);unfold av at af ⊢;clear aT aX bf h aS a8;go_enter func15,ntmps15;go_upto_region 1 with fail
 change Code.wp _ _ _ _ ((w.alloc (.cells #[.slice d.sa K.n d.sc,.slice d.pa K.m d.pc] 35)).alloc (.cells stZ.toArray 38));rw[<-y,<-H];clear y H;go_wp2_with (refine BD rfl 35 _ rfl w.1.size rfl 35 #[.slice d.sa K.n d.sc,.slice d.pa K.m d.pc] (0,0) _ U underlying35 rfl a0 ?_);refine af.mono ?_;rintro e a1 ⟨rfl,x⟩;have ac:=U.below x;have N:=C.out.2.below x;clear af U;cases n:aR K with
 |false=>
  have a:opC K=1:=by unfold opC;rw[n]
  clear n;have F:=N.setRow stZ;have p:=du a1 (w.1.size+1) stZ.toArray;have l:=(s.out _ x).trans (p.below t7 (s.out _ x).size);have j:Hid (OpP d K w (.returned (.tuple #[.agg stZ.toArray,.int .i64 1])) (a1.setRow (w.1.size+1) stZ.toArray)):=lq l a;clear l p a;go_wp2_with (refine BO rfl 38 _ _ rfl (w.1.size+1) stZ.toArray rfl rfl 38 _ N dY rfl (df ku) ?_);refine BB (v:= .tuple #[.agg stZ.toArray,.int .i64 1]) ?_ rfl j.out;exact cI results15 _ _ (w.1.size+1) 38 stZ.toArray _ rfl F underlying38 rfl dY rfl
 |true=>
  have P:=EH S T d K a1 (ak.out _ x) (W.out _ x);unfold bsV aG at P;unfold av at P;clear N;go_wp2_with (refine BD rfl 35 _ rfl w.1.size rfl 35 #[.slice d.sa K.n d.sc,.slice d.pa K.m d.pc] (0,0) _ ac underlying35 rfl a0 ?_);refine P.mono ?_;rintro e I ⟨rfl,a6⟩;have ap:=x.trans (a6.mono x.size);clear P a6 ac x;have bd:=bAl I (.cells #[.int .i64 (bsN sG K),.int .i64 (bsN sR K),.int .i64 (bsN sU K),.int .i64 (bsN sF K)] 36);have r:=ap.trans (bd.mono ap.size);have o:=aq I 36 #[.int .i64 (bsN sG K),.int .i64 (bsN sR K),.int .i64 (bsN sU K),.int .i64 (bsN sF K)];have G:=t6 r o;clear bd ap r o;go_upto_region 4 with(refine bt rfl 36 _ _ rfl I #[.int .i64 0,.int .i64 0,.int .i64 0,.int .i64 0] #[.int .i64 (bsN sG K),.int .i64 (bsN sR K),.int .i64 (bsN sU K),.int .i64 (bsN sF K)] 36 rfl rfl bj rfl rfl ?_)
  change Code.wp _ _ _ _ (I.alloc (.cells #[.int .i64 (bsN sG K),.int .i64 (bsN sR K),.int .i64 (bsN sU K),.int .i64 (bsN sF K)] 36));generalize I.alloc (.cells #[.int .i64 (bsN sG K),.int .i64 (bsN sR K),.int .i64 (bsN sU K),.int .i64 (bsN sF K)] 36)=Q at*;generalize I.1.size=sb at*;have O:=C.out.2.below G.out.1;have M:=C.out.1.below G.out.1;have o:Blk Q 36 sb (al (bsN sG K) (bsN sR K) (bsN sU K) (bsN sF K)):=G.out.2;have r:=G.out.1;cases z:bsB K with
  |false=>
   have a:opC K=2:=by unfold opC;rw[n,z]
   clear n z M o;have F:=O.setRow stZ;have p:=du Q (w.1.size+1) stZ.toArray;have l:=(s.out _ r).trans (p.below t7 (s.out _ r).size);have j:Hid (OpP d K w (.returned (.tuple #[.agg stZ.toArray,.int .i64 2])) (Q.setRow (w.1.size+1) stZ.toArray)):=lq l a;clear l p a;go_wp2_with (refine BO rfl 38 _ _ rfl (w.1.size+1) stZ.toArray rfl rfl 38 _ O dY rfl (df ku) ?_);refine BB (v:= .tuple #[.agg stZ.toArray,.int .i64 2]) ?_ rfl j.out;exact cI results15 _ _ (w.1.size+1) 38 stZ.toArray _ rfl F underlying38 rfl dY rfl
  |true=>
  have am:=yl S T d K (bsN sG K) (bsN sR K) (bsN sU K) (bsN sF K) Q (ak.out _ r) (W.out _ r);have bl:(prog.info? 36).map (·.size)=some (al (bsN sG K) (bsN sR K) (bsN sU K) (bsN sF K)).toArray.size:=bj;have bg:Hid (whB K (bsN sG K) (bsN sR K) (bsN sU K) (bsN sF K)=false->opC K=3):=fun aB=>by unfold opC;rw[n,z];show(match whB K (bsN sG K) (bsN sR K) (bsN sU K) (bsN sF K)with|false=>(3:Int)|true=>0)=3;rw[aB]
  have a4:Hid (whB K (bsN sG K) (bsN sR K) (bsN sU K) (bsN sF K)=true->opC K=0):=fun aB=>by unfold opC;rw[n,z];show(match whB K (bsN sG K) (bsN sR K) (bsN sU K) (bsN sF K)with|false=>(3:Int)|true=>0)=0;rw[aB]
  generalize Y:bsN sG K=sg at*;generalize Z:bsN sR K=c at*;generalize ab:bsN sU K=f at*;generalize X:bsN sF K=b at*;have a5:Hid (bsN sG K=sg/\bsN sR K=c/\bsN sU K=f/\bsN sF K=b):=⟨Y,Z,ab,X⟩;unfold av at am;generalize whB K sg c f b=bm at*;clear n z O Y Z ab X;go_wp2_with (first|(refine BD rfl 35 _ rfl w.1.size rfl 35 #[.slice d.sa K.n d.sc,.slice d.pa K.m d.pc] (0,0) _ M underlying35 rfl a0 ?_)|(refine BD rfl 36 _ rfl sb rfl 36 (al sg c f b).toArray (0,0) _ o underlying36 rfl bl ?_));refine am.mono ?_;rintro e B ⟨rfl,an⟩;have g:=r.trans (an.mono r.size);have ad:=C.out.2.below g;have A:=o.below an;have br:=g.size;clear am an M o r;cases bm with
  |false=>
   have a:=bg.out rfl;clear A;have F:=ad.setRow stZ;have p:=du B (w.1.size+1) stZ.toArray;have l:=(s.out _ g).trans (p.below t7 (s.out _ g).size);have j:Hid (OpP d K w (.returned (.tuple #[.agg stZ.toArray,.int .i64 3])) (B.setRow (w.1.size+1) stZ.toArray)):=lq l a;clear l p a;go_wp2_with (refine BO rfl 38 _ _ rfl (w.1.size+1) stZ.toArray rfl rfl 38 _ ad dY rfl (df ku) ?_);refine BB (v:= .tuple #[.agg stZ.toArray,.int .i64 3]) ?_ rfl j.out;exact cI results15 _ _ (w.1.size+1) 38 stZ.toArray _ rfl F underlying38 rfl dY rfl
  |true=>
  have a:=a4.out rfl;have V:Hid (∀u,Below B.1.size B u->u.cell? ⟨w.1.size,0,none⟩=some (.slice d.sa K.n d.sc)/\u.cell? ⟨w.1.size,1,none⟩=some (.slice d.pa K.m d.pc)/\u.cell? ⟨sb,0,none⟩=some (.int .i64 sg)/\u.cell? ⟨sb,1,none⟩=some (.int .i64 c)/\u.cell? ⟨sb,2,none⟩=some (.int .i64 f)/\u.cell? ⟨sb,3,none⟩=some (.int .i64 b)):=fun u i=>⟨Blk.cell (C.out.1.below (g.trans (i.mono g.size))) 0,Blk.cell (C.out.1.below (g.trans (i.mono g.size))) 1,Blk.cell (A.below i) 0,Blk.cell (A.below i) 1,Blk.cell (A.below i) 2,Blk.cell (A.below i) 3⟩;go_upto_region 8 with fail
  have aA:=bDr B;have cs:=V.out B.drew aA;have ag:=BP d K B.drew (ak.out _ (g.trans (aA.mono g.size))) ba;unfold av at ag;refine az (fun u=>u.cell? ⟨w.1.size,0,none⟩=some (.slice d.sa K.n d.sc)/\u.cell? ⟨w.1.size,1,none⟩=some (.slice d.pa K.m d.pc)/\u.cell? ⟨sb,0,none⟩=some (.int .i64 sg)/\u.cell? ⟨sb,1,none⟩=some (.int .i64 c)/\u.cell? ⟨sb,2,none⟩=some (.int .i64 f)/\u.cell? ⟨sb,3,none⟩=some (.int .i64 b)) (fun k=>decide (4<=k)) uA ?_;refine nk 0 23 cs ?_;simp only[Act.put,fx,List.set];refine nk 2 25 cs ?_;simp only[Act.put,fx,List.set];refine on1 1 fun D m=> ?_;go_wp2_with fail;refine ag.mono ?_;rintro e a2 ⟨q,rfl,a7,bc,bb,a9⟩;have J:=aA.trans a7;have L:=V.out a2 J;have R:=g.trans (J.mono g.size);have ae:=C.out.2.below R;have p:=du a2 (w.1.size+1) (stV q K sg c f b).toArray;have F:=ae.setRow (stV q K sg c f b);have l:=(s.out _ R).trans (p.below t7 (s.out _ R).size);have j:Hid (OpP d K w (.returned (.tuple #[.agg (stV q K sg c f b).toArray,.int .i64 0])) (a2.setRow (w.1.size+1) (stV q K sg c f b).toArray)):=yq l a a5.out ba (uT bc (s.out _ g).size (show w.1.size+1<B.1.size by omega)) bb a9;clear ag a7 bc J R p l;go_wp2_with fail;refine m.out _ _ (fun _=>L) ?_;clear m D;refine on1 3 fun D m=> ?_;refine jZ _ _ rfl (cs:=(stV q K sg c f b).toArray) ?bk ?_
  case bk=>
   simp only[wa,vo,v6];exact uR q K sg c f b
  refine m.out _ _ (fun _=>L) ?_;clear m D;refine on1 4 fun D m=> ?_;refine wp_store_row 38 _ _ rfl (w.1.size+1) (stV q K sg c f b).toArray rfl rfl 38 _ ae dY rfl (df (nK q K sg c f b)) ?_;refine m.out _ _ (fun a3=>absurd a3 uv) ?_;clear m D;refine on1 5 fun D m=> ?_;go_wp2_with fail;refine m.out _ _ (fun a3=>absurd a3 uv) ?_;clear m D;refine j5 uA ?_ _;clear cs L;go_wp2_with fail;refine BB (v:= .tuple #[.agg (stV q K sg c f b).toArray,.int .i64 0]) ?_ rfl j.out;exact cI results15 _ _ (w.1.size+1) 38 (stV q K sg c f b).toArray _ rfl F underlying38 rfl dY rfl
