import Derived.Test.YtglbanolhhjjiaaGreatDoorFo35
import Derived.Test.YtglbanolhhjjiaaGreatDoorFo36
import Derived.Test.YtglbanolhhjjiaaGreatDoorFo23
import Derived.Test.YtglbanolhhjjiaaGreatDoorFo15
namespace Go.Proofs.YtglbanolhhjjiaaGreatDoor
open Go.Proofs.Tryz
open Go.RowKit
set_option linter.unusedVariables false
set_option maxRecDepth 100000
set_option maxHeartbeats 32000000
theorem yo{r}(d:∀b id t a,b.seen.Nodup->r b id=some (t,a)->a.seen.Nodup):∀(ls:List (ByteArray×Int))(b:St)(t:Tr)(a:St),b.seen.Nodup->rdK r ls b=some (t,a)->a.seen.Nodup
 |[],b,t,a,c,h=>by rw[rdK]at h;cases h;exact c
 |(s,id)::ls,b,t,a,c,h=>by
  rw[rdK]at h;obtain⟨x,e,f⟩:=xc.1 h;obtain⟨y,g,i⟩:=xc.1 f;cases i;exact yo d ls x.2 y.1 y.2 (d b id x.1 x.2 c e) g
theorem yp{P}:∀(f:Nat)(steps:Int)(a:St)(id:Int)(t:Tr)(b:St),a.seen.Nodup->rdT P f steps a id=some (t,b)->b.seen.Nodup
 |0,steps,a,id,t,b,_,h=>by rw[rdT]at h;cases h
 |f+1,steps,a,id,t,b,n,h=>by
  rw[rdT]at h;cases d:dQ P a id with
  |false=>rw[CH (by rw[d];decide)]at h;cases h
  |true=>
   rw[B4 d]at h;have i:=zz.2 ⟨(fO.1 d).2.2.1,n⟩;by_cases g:P.kd id=2
   ·rw[B4 g]at h;by_cases j:a.tall<0\/a.tall=steps
    ·rw[B4 j]at h;obtain⟨es,k,c⟩:=xc.1 h;by_cases e:es.isEmpty=true
     ·rw[B4 e]at c;cases c
     ·rw[CH e]at c;cases c;exact i
    ·rw[CH j]at h;cases h
   ·rw[CH g]at h;obtain⟨ls,k,c⟩:=xc.1 h;obtain⟨y,l,m⟩:=x5.1 c;cases m;exact yo (fun a id t b=>yp f (steps+1) a id t b) ls ⟨id::a.seen,a.tall⟩ y.1 y.2 i l
theorem Gz{K}(c:aR K=true)(e:PgW (pgD K) (nPg K))(a):ldT K a=rtO (pgD K) (nPg K) a:=by
 unfold ldT rtO;rw[c];show(if a=0 then _ else _)= _;by_cases b:a=0
 ·rw[B4 b,B4 b]
 ·rw[CH b,CH b];unfold wkT;cases g:rdT (pgD K) (nPg K+1) 0 ⟨[], -1⟩ a with
  |none=>rfl
  |some y=>
   have d:=iW e (nPg K+1) 0 ⟨[], -1⟩ a y.1 y.2 g;have f:=AJ d.full d.keys;show(if okT y.1 true (strOfNums []) (strOfNums [])=true then some (some y.1)else none)=Option.map _ ((orT y.1 true x00).map _);rw[f];show(if(orT y.1 true x00).isSome=true then _ else _)= _;cases orT y.1 true x00<;>rfl
theorem GC{K}(e:aR K=true)(i:PgW (pgD K) (nPg K)){a o}(h:ldT K a=some o):(pgO o).Nodup/\∀x∈pgO o,0<=x/\x< ((nPg K:Nat):Int):=by
 unfold ldT at h;rw[e]at h;change (if a=0 then _ else _)= _ at h;by_cases c:a=0
 ·rw[B4 c]at h;cases h;exact⟨y6,fun x hx=>by simp[pgO]at hx⟩
 ·rw[CH c]at h;obtain⟨y,g,b⟩:=xc.1 h;have f:=iW i (nPg K+1) 0 ⟨[], -1⟩ a y.1 y.2 g;have j:=yp (nPg K+1) 0 ⟨[], -1⟩ a y.1 y.2 y6 g;split at b
  ·cases b;have d:=f.seen.nodup_iff.1 j;rw[wP]at d;exact⟨d,fun x hx=>by have:=f.pgs x hx;omega⟩
  ·cases b
theorem GD(o):(cN o).Perm (pgO o):=by
 cases o with
 |none=>exact List.Perm.refl _
 |some T=>exact lg T
theorem GE{w d K}(h:RDisk w d K)(e a c b):whS K e a c b=whB K e a c b:=by
 unfold whS whB;cases f:aR K with
 |false=>rfl
 |true=>
  have i:=kO h (gK f);show(true&&bG e a c b&&decide (c<=((nPg K:Nat):Int))&&iG K a b c.toNat)=hoB (pgD K) (nPg K) ((nPg K:Nat):Int) e a c b;unfold hoB;rw[zd];congr 1;unfold iG hoR;rw[<-Gz f i a,show flT K b=flR (pgD K) (nPg K+1) b [] []by unfold flT;rw[f]];cases n:flR (pgD K) (nPg K+1) b [] []with
  |none=>cases ldT K a<;>rfl
  |some p=>
   cases g:ldT K a with
   |none=>
    show(tpB K a&&_)=false;unfold tpB;rw[g];rfl
   |some o=>
    obtain⟨l,m⟩:=GC f i g;show(tpB K a&&mrk c.toNat (tpL K a) p.1 p.2)=eS (srt (cN o)++(p.1++p.2)) c.toNat;have j:tpB K a=true:=by unfold tpB;rw[g];rfl
    have k:tpL K a=mkd (pgO o) (nPg K):=by unfold tpL;rw[g]
    rw[j,k,zd];exact Ez (((oE _).trans (GD o)).trans (ru m l).symm)
noncomputable def opC(K:DK):Int:=match aR K with|false=>1|true=>match bsB K with|false=>2|true=>match whB K (bsN sG K) (bsN sR K) (bsN sU K) (bsN sF K)with|false=>3|true=>0
noncomputable def opK(K:DK):DK:= @ite _ (opC K=0) (Classical.propDecidable _) K (bV 0)
noncomputable def opN(f:List Int->Int)(K:DK):Int:= @ite _ (opC K=0) (Classical.propDecidable _) (bsN f K) 0
def OpP(d:DV)(K:DK)(w:World)(e:Ending)(w':World):Prop:=Below w.1.size w w'/\∃d',e= .returned (.tuple #[.agg (stV d' (opK K) (opN sG K) (opN sR K) (opN sU K) (opN sF K)).toArray,.int .i64 (opC K)])/\ODisk w.1.size w' d' (opK K)/\Small d' (opK K)
theorem GF:Small l6 (bV 0):=⟨wa _,wa _,fun i a=>absurd a (xN _),fun i a=>absurd a (xN _),by show(1:Int)<=1099511627776;omega⟩
theorem lq{d:DV}{K:DK}{w w':World}{c:Int}(l:Below w.1.size w w')(g:opC K=c)(k:c≠0:=by decide):OpP d K w (.returned (.tuple #[.agg stZ.toArray,.int .i64 c])) w':=by
 have b:¬opC K=0:=by rw[g];exact k
 have e:opK K=bV 0:=by unfold opK;rw[CH b]
 have a:∀f,opN f K=0:=fun f=>by unfold opN;rw[CH b]
 refine⟨l,l6,?_,?_,?_⟩
 ·rw[e,a,a,a,a,g];rfl
 ·rw[e];exact⟨jU _ _ _ _ _ _ _ _ _,jU _ _ _ _ _ _ _ _ _,fun i m _ j=>absurd j (xN _)⟩
 ·rw[e];exact GF
theorem yq{d a K w w' sg k l j}(o:Below w.1.size w w')(e:opC K=0)(b:bsN sG K=sg/\bsN sR K=k/\bsN sU K=l/\bsN sF K=j)(i:Small d K)(p:ODisk w.1.size w' a K)(m:a.sN=d.sN)(n:a.pN=d.pN):OpP d K w (.returned (.tuple #[.agg (stV a K sg k l j).toArray,.int .i64 0])) w':=by
 have g:opK K=K:=by unfold opK;rw[B4 e]
 have c:∀f,opN f K=bsN f K:=fun f=>by unfold opN;rw[B4 e]
 refine⟨o,a,?_,?_,?_⟩
 ·rw[g,c,c,c,c,e,b.1,b.2.1,b.2.2.1,b.2.2.2]
 ·rw[g];exact p
 ·rw[g];exact i.congr m n
theorem GH(d K w)(h:RDisk w d K)(a6:Small d K):
 Calls prog 13 #[av d K] w (OpP d K w):=by
 obtain⟨E,y⟩:=aa (w.alloc (.cells #[.slice d.sa K.n d.sc,.slice d.pa K.m d.pc] 35));obtain⟨F,I⟩:=aa (E.alloc (.cells stZ.toArray 38));have aB:Below w.1.size w E:=by rw[y];exact bAl _ _
 have aS:Below E.1.size E F:=by rw[I];exact bAl _ _
 have ba:E.1.size=w.1.size+1:=by rw[y];simp
 have U:=(by rw[y];exact aq w _ _:Blk E 35 w.1.size [.slice d.sa K.n d.sc,.slice d.pa K.m d.pc]).below aS;have aA:Blk F 38 (w.1.size+1) stZ:=by rw[I,<-ba];exact aq E _ _
 have r:=aB.trans (aS.mono aB.size);have aT:(prog.info? 35).map (·.size)=some (#[Value.slice d.sa K.n d.sc,Value.slice d.pa K.m d.pc]:Array Value).size:=gD;have ag:Hid (∀u,Below F.1.size F u->RDisk u d K):=fun u q=>h.below (r.trans (q.mono r.size));have s:Hid (∀u,Below F.1.size F u->Below w.1.size w u):=fun u q=>r.trans (q.mono r.size);have C:=uv U aA;have bf:=aA.lt;have ae:=jt d K F (h.below r);unfold av at ae ⊢;clear aB aS ba r aA;go_enter func13,ntmps13;go_upto_region 1 with fail
 change Code.wp _ _ _ _ ((w.alloc (.cells #[.slice d.sa K.n d.sc,.slice d.pa K.m d.pc] 35)).alloc (.cells stZ.toArray 38));rw[<-y,<-I];clear y I;go_wp2_with (refine B5 rfl 35 _ rfl w.1.size rfl 35 #[.slice d.sa K.n d.sc,.slice d.pa K.m d.pc] (0,0) _ U underlying35 rfl aT ?_);refine ae.mono ?_;rintro e aX ⟨rfl,x⟩;have ab:=U.below x;have O:=C.out.2.below x;clear ae U;cases m:aR K with
 |false=>
  have a:opC K=1:=by unfold opC;rw[m]
  clear m;have G:=O.setRow stZ;have o:=du aX (w.1.size+1) stZ.toArray;have j:=(s.out _ x).trans (o.below uA (s.out _ x).size);have i:Hid (OpP d K w (.returned (.tuple #[.agg stZ.toArray,.int .i64 1])) (aX.setRow (w.1.size+1) stZ.toArray)):=lq j a;clear j o a;go_wp2_with (refine B8 rfl 38 _ _ rfl (w.1.size+1) stZ.toArray rfl rfl 38 _ O dY rfl (df ku) ?_);refine B3 (v:= .tuple #[.agg stZ.toArray,.int .i64 1]) ?_ rfl i.out;exact cI results13 _ _ (w.1.size+1) 38 stZ.toArray _ rfl G underlying38 rfl dY rfl
 |true=>
  have Q:=EA d K aX (ag.out _ x);unfold bsV aG at Q;unfold av at Q;clear O;go_wp2_with (refine B5 rfl 35 _ rfl w.1.size rfl 35 #[.slice d.sa K.n d.sc,.slice d.pa K.m d.pc] (0,0) _ ab underlying35 rfl aT ?_);refine Q.mono ?_;rintro e J ⟨rfl,a3⟩;have am:=x.trans (a3.mono x.size);clear Q a3 ab x;have a9:=bAl J (.cells #[.int .i64 (bsN sG K),.int .i64 (bsN sR K),.int .i64 (bsN sU K),.int .i64 (bsN sF K)] 36);have t:=am.trans (a9.mono am.size);have n:=aq J 36 #[.int .i64 (bsN sG K),.int .i64 (bsN sR K),.int .i64 (bsN sU K),.int .i64 (bsN sF K)];have H:=uv t n;clear a9 am t n;go_upto_region 4 with(refine bt rfl 36 _ _ rfl J #[.int .i64 0,.int .i64 0,.int .i64 0,.int .i64 0] #[.int .i64 (bsN sG K),.int .i64 (bsN sR K),.int .i64 (bsN sU K),.int .i64 (bsN sF K)] 36 rfl rfl bj rfl rfl ?_)
  change Code.wp _ _ _ _ (J.alloc (.cells #[.int .i64 (bsN sG K),.int .i64 (bsN sR K),.int .i64 (bsN sU K),.int .i64 (bsN sF K)] 36));generalize J.alloc (.cells #[.int .i64 (bsN sG K),.int .i64 (bsN sR K),.int .i64 (bsN sU K),.int .i64 (bsN sF K)] 36)=R at*;generalize J.1.size=sb at*;have P:=C.out.2.below H.out.1;have N:=C.out.1.below H.out.1;have n:Blk R 36 sb (al (bsN sG K) (bsN sR K) (bsN sU K) (bsN sF K)):=H.out.2;have t:=H.out.1;cases z:bsB K with
  |false=>
   have a:opC K=2:=by unfold opC;rw[m,z]
   clear m z N n;have G:=P.setRow stZ;have o:=du R (w.1.size+1) stZ.toArray;have j:=(s.out _ t).trans (o.below uA (s.out _ t).size);have i:Hid (OpP d K w (.returned (.tuple #[.agg stZ.toArray,.int .i64 2])) (R.setRow (w.1.size+1) stZ.toArray)):=lq j a;clear j o a;go_wp2_with (refine B8 rfl 38 _ _ rfl (w.1.size+1) stZ.toArray rfl rfl 38 _ P dY rfl (df ku) ?_);refine B3 (v:= .tuple #[.agg stZ.toArray,.int .i64 2]) ?_ rfl i.out;exact cI results13 _ _ (w.1.size+1) 38 stZ.toArray _ rfl G underlying38 rfl dY rfl
  |true=>
  have S:=yk d K (bsN sG K) (bsN sR K) (bsN sU K) (bsN sF K) R (ag.out _ t);rw[GE h]at S;have bc:(prog.info? 36).map (·.size)=some (al (bsN sG K) (bsN sR K) (bsN sU K) (bsN sF K)).toArray.size:=bj;have bb:Hid (whB K (bsN sG K) (bsN sR K) (bsN sU K) (bsN sF K)=false->opC K=3):=fun ap=>by unfold opC;rw[m,z];show(match whB K (bsN sG K) (bsN sR K) (bsN sU K) (bsN sF K)with|false=>(3:Int)|true=>0)=3;rw[ap]
  have a1:Hid (whB K (bsN sG K) (bsN sR K) (bsN sU K) (bsN sF K)=true->opC K=0):=fun ap=>by unfold opC;rw[m,z];show(match whB K (bsN sG K) (bsN sR K) (bsN sU K) (bsN sF K)with|false=>(3:Int)|true=>0)=0;rw[ap]
  generalize X:bsN sG K=sg at*;generalize Y:bsN sR K=c at*;generalize Z:bsN sU K=f at*;generalize W:bsN sF K=b at*;have a2:Hid (bsN sG K=sg/\bsN sR K=c/\bsN sU K=f/\bsN sF K=b):=⟨X,Y,Z,W⟩;unfold av at S;generalize whB K sg c f b=bd at*;clear m z P X Y Z W;go_wp2_with (first|(refine B5 rfl 35 _ rfl w.1.size rfl 35 #[.slice d.sa K.n d.sc,.slice d.pa K.m d.pc] (0,0) _ N underlying35 rfl aT ?_)|(refine B5 rfl 36 _ rfl sb rfl 36 (al sg c f b).toArray (0,0) _ n underlying36 rfl bc ?_));refine S.mono ?_;rintro e B ⟨rfl,ak⟩;have g:=t.trans (ak.mono t.size);have ac:=C.out.2.below g;have A:=n.below ak;have bg:=g.size;clear S ak N n t;cases bd with
  |false=>
   have a:=bb.out rfl;clear A;have G:=ac.setRow stZ;have o:=du B (w.1.size+1) stZ.toArray;have j:=(s.out _ g).trans (o.below uA (s.out _ g).size);have i:Hid (OpP d K w (.returned (.tuple #[.agg stZ.toArray,.int .i64 3])) (B.setRow (w.1.size+1) stZ.toArray)):=lq j a;clear j o a;go_wp2_with (refine B8 rfl 38 _ _ rfl (w.1.size+1) stZ.toArray rfl rfl 38 _ ac dY rfl (df ku) ?_);refine B3 (v:= .tuple #[.agg stZ.toArray,.int .i64 3]) ?_ rfl i.out;exact cI results13 _ _ (w.1.size+1) 38 stZ.toArray _ rfl G underlying38 rfl dY rfl
  |true=>
  have a:=a1.out rfl;have V:Hid (∀u,Below B.1.size B u->u.cell? ⟨w.1.size,0,none⟩=some (.slice d.sa K.n d.sc)/\u.cell? ⟨w.1.size,1,none⟩=some (.slice d.pa K.m d.pc)/\u.cell? ⟨sb,0,none⟩=some (.int .i64 sg)/\u.cell? ⟨sb,1,none⟩=some (.int .i64 c)/\u.cell? ⟨sb,2,none⟩=some (.int .i64 f)/\u.cell? ⟨sb,3,none⟩=some (.int .i64 b)):=fun u q=>⟨Blk.cell (C.out.1.below (g.trans (q.mono g.size))) 0,Blk.cell (C.out.1.below (g.trans (q.mono g.size))) 1,Blk.cell (A.below q) 0,Blk.cell (A.below q) 1,Blk.cell (A.below q) 2,Blk.cell (A.below q) 3⟩;go_upto_region 8 with fail
  have an:=bDr B;have cs:=V.out B.drew an;have af:=mq d K B.drew (ag.out _ (g.trans (an.mono g.size))) a6;unfold av at af;refine az (fun u=>u.cell? ⟨w.1.size,0,none⟩=some (.slice d.sa K.n d.sc)/\u.cell? ⟨w.1.size,1,none⟩=some (.slice d.pa K.m d.pc)/\u.cell? ⟨sb,0,none⟩=some (.int .i64 sg)/\u.cell? ⟨sb,1,none⟩=some (.int .i64 c)/\u.cell? ⟨sb,2,none⟩=some (.int .i64 f)/\u.cell? ⟨sb,3,none⟩=some (.int .i64 b)) (fun k=>decide (4<=k)) vk ?_;refine nk 0 23 cs ?_;simp only[Act.put,fx,List.set];refine nk 2 25 cs ?_;simp only[Act.put,fx,List.set];refine on1 1 fun D l=> ?_;go_wp2_with fail;refine af.mono ?_;rintro e a0 ⟨p,rfl,a4,a8,a7,a5⟩;have L:=an.trans a4;have M:=V.out a0 L;have T:=g.trans (L.mono g.size);have ad:=C.out.2.below T;have o:=du a0 (w.1.size+1) (stV p K sg c f b).toArray;have G:=ad.setRow (stV p K sg c f b);have j:=(s.out _ T).trans (o.below uA (s.out _ T).size);have i:Hid (OpP d K w (.returned (.tuple #[.agg (stV p K sg c f b).toArray,.int .i64 0])) (a0.setRow (w.1.size+1) (stV p K sg c f b).toArray)):=yq j a a2.out a6 (uT a8 (s.out _ g).size (show w.1.size+1<B.1.size by omega)) a7 a5;clear af a4 a8 L T o j;go_wp2_with fail;refine l.out _ _ (fun _=>M) ?_;clear l D;refine on1 3 fun D l=> ?_;refine jZ _ _ rfl (cs:=(stV p K sg c f b).toArray) ?bk ?_
  case bk=>
   simp only[wB,ws,wz];exact uR p K sg c f b
  refine l.out _ _ (fun _=>M) ?_;clear l D;refine on1 4 fun D l=> ?_;refine wp_store_row 38 _ _ rfl (w.1.size+1) (stV p K sg c f b).toArray rfl rfl 38 _ ad dY rfl (df (nK p K sg c f b)) ?_;refine l.out _ _ (fun h=>absurd h uB) ?_;clear l D;refine on1 5 fun D l=> ?_;go_wp2_with fail;refine l.out _ _ (fun h=>absurd h uB) ?_;clear l D;refine j5 vk ?_ _;clear cs M;go_wp2_with fail;refine B3 (v:= .tuple #[.agg (stV p K sg c f b).toArray,.int .i64 0]) ?_ rfl i.out;exact cI results13 _ _ (w.1.size+1) 38 (stV p K sg c f b).toArray _ rfl G underlying38 rfl dY rfl
theorem GI(T U d K w)(h:RDisk w d K)(ba:Small d K)(a8:Errs w T U):
 Calls prog 15 #[av d K] w (OpP d K w):=by
 obtain⟨F,z⟩:=aa (w.alloc (.cells #[.slice d.sa K.n d.sc,.slice d.pa K.m d.pc] 35));obtain⟨x,I⟩:=aa (F.alloc (.cells stZ.toArray 38));have aX:Below w.1.size w F:=by rw[z];exact bAl _ _
 have a0:Below F.1.size F x:=by rw[I];exact bAl _ _
 have bf:F.1.size=w.1.size+1:=by rw[z];simp
 have V:=(by rw[z];exact aq w _ _:Blk F 35 w.1.size [.slice d.sa K.n d.sc,.slice d.pa K.m d.pc]).below a0;have aT:Blk x 38 (w.1.size+1) stZ:=by rw[I,<-bf];exact aq F _ _
 have i:=aX.trans (a0.mono aX.size);have a1:(prog.info? 35).map (·.size)=some (#[Value.slice d.sa K.n d.sc,Value.slice d.pa K.m d.pc]:Array Value).size:=gD;have am:Hid (∀u,Below x.1.size x u->RDisk u d K):=fun u j=>h.below (i.trans (j.mono i.size));have t:Hid (∀u,Below x.1.size x u->Below w.1.size w u):=fun u j=>i.trans (j.mono i.size);have X:Hid (∀u,Below x.1.size x u->Errs u T U):=fun u j=>a8.below (i.trans (j.mono i.size));have D:=uv V aT;have bn:=aT.lt;have ag:=uw d K x (h.below i);unfold av at ag ⊢;clear aX a0 bf i aT a8;go_enter func15,ntmps15;go_upto_region 1 with fail
 change Code.wp _ _ _ _ ((w.alloc (.cells #[.slice d.sa K.n d.sc,.slice d.pa K.m d.pc] 35)).alloc (.cells stZ.toArray 38));rw[<-z,<-I];clear z I;go_wp2_with (refine B5 rfl 35 _ rfl w.1.size rfl 35 #[.slice d.sa K.n d.sc,.slice d.pa K.m d.pc] (0,0) _ V underlying35 rfl a1 ?_);refine ag.mono ?_;rintro e a2 ⟨rfl,y⟩;have ad:=V.below y;have O:=D.out.2.below y;clear ag V;cases o:aR K with
 |false=>
  have a:opC K=1:=by unfold opC;rw[o]
  clear o;have G:=O.setRow stZ;have q:=du a2 (w.1.size+1) stZ.toArray;have m:=(t.out _ y).trans (q.below uA (t.out _ y).size);have l:Hid (OpP d K w (.returned (.tuple #[.agg stZ.toArray,.int .i64 1])) (a2.setRow (w.1.size+1) stZ.toArray)):=lq m a;clear m q a;go_wp2_with (refine B8 rfl 38 _ _ rfl (w.1.size+1) stZ.toArray rfl rfl 38 _ O dY rfl (df ku) ?_);refine B3 (v:= .tuple #[.agg stZ.toArray,.int .i64 1]) ?_ rfl l.out;exact cI results15 _ _ (w.1.size+1) 38 stZ.toArray _ rfl G underlying38 rfl dY rfl
 |true=>
  have Q:=EH T U d K a2 (am.out _ y) (X.out _ y);unfold bsV aG at Q;unfold av at Q;clear O;go_wp2_with (refine B5 rfl 35 _ rfl w.1.size rfl 35 #[.slice d.sa K.n d.sc,.slice d.pa K.m d.pc] (0,0) _ ad underlying35 rfl a1 ?_);refine Q.mono ?_;rintro e J ⟨rfl,a6⟩;have aA:=y.trans (a6.mono y.size);clear Q a6 ad y;have bd:=bAl J (.cells #[.int .i64 (bsN sG K),.int .i64 (bsN sR K),.int .i64 (bsN sU K),.int .i64 (bsN sF K)] 36);have s:=aA.trans (bd.mono aA.size);have p:=aq J 36 #[.int .i64 (bsN sG K),.int .i64 (bsN sR K),.int .i64 (bsN sU K),.int .i64 (bsN sF K)];have H:=uv s p;clear bd aA s p;go_upto_region 4 with(refine bt rfl 36 _ _ rfl J #[.int .i64 0,.int .i64 0,.int .i64 0,.int .i64 0] #[.int .i64 (bsN sG K),.int .i64 (bsN sR K),.int .i64 (bsN sU K),.int .i64 (bsN sF K)] 36 rfl rfl bj rfl rfl ?_)
  change Code.wp _ _ _ _ (J.alloc (.cells #[.int .i64 (bsN sG K),.int .i64 (bsN sR K),.int .i64 (bsN sU K),.int .i64 (bsN sF K)] 36));generalize J.alloc (.cells #[.int .i64 (bsN sG K),.int .i64 (bsN sR K),.int .i64 (bsN sU K),.int .i64 (bsN sF K)] 36)=R at*;generalize J.1.size=sb at*;have P:=D.out.2.below H.out.1;have N:=D.out.1.below H.out.1;have p:Blk R 36 sb (al (bsN sG K) (bsN sR K) (bsN sU K) (bsN sF K)):=H.out.2;have s:=H.out.1;cases A:bsB K with
  |false=>
   have a:opC K=2:=by unfold opC;rw[o,A]
   clear o A N p;have G:=P.setRow stZ;have q:=du R (w.1.size+1) stZ.toArray;have m:=(t.out _ s).trans (q.below uA (t.out _ s).size);have l:Hid (OpP d K w (.returned (.tuple #[.agg stZ.toArray,.int .i64 2])) (R.setRow (w.1.size+1) stZ.toArray)):=lq m a;clear m q a;go_wp2_with (refine B8 rfl 38 _ _ rfl (w.1.size+1) stZ.toArray rfl rfl 38 _ P dY rfl (df ku) ?_);refine B3 (v:= .tuple #[.agg stZ.toArray,.int .i64 2]) ?_ rfl l.out;exact cI results15 _ _ (w.1.size+1) 38 stZ.toArray _ rfl G underlying38 rfl dY rfl
  |true=>
  have an:=yl T U d K (bsN sG K) (bsN sR K) (bsN sU K) (bsN sF K) R (am.out _ s) (X.out _ s);have bl:(prog.info? 36).map (·.size)=some (al (bsN sG K) (bsN sR K) (bsN sU K) (bsN sF K)).toArray.size:=bj;have bg:Hid (whB K (bsN sG K) (bsN sR K) (bsN sU K) (bsN sF K)=false->opC K=3):=fun aS=>by unfold opC;rw[o,A];show(match whB K (bsN sG K) (bsN sR K) (bsN sU K) (bsN sF K)with|false=>(3:Int)|true=>0)=3;rw[aS]
  have a4:Hid (whB K (bsN sG K) (bsN sR K) (bsN sU K) (bsN sF K)=true->opC K=0):=fun aS=>by unfold opC;rw[o,A];show(match whB K (bsN sG K) (bsN sR K) (bsN sU K) (bsN sF K)with|false=>(3:Int)|true=>0)=0;rw[aS]
  generalize Z:bsN sG K=sg at*;generalize ab:bsN sR K=c at*;generalize ac:bsN sU K=f at*;generalize Y:bsN sF K=b at*;have a5:Hid (bsN sG K=sg/\bsN sR K=c/\bsN sU K=f/\bsN sF K=b):=⟨Z,ab,ac,Y⟩;unfold av at an;generalize whB K sg c f b=bm at*;clear o A P Z ab ac Y;go_wp2_with (first|(refine B5 rfl 35 _ rfl w.1.size rfl 35 #[.slice d.sa K.n d.sc,.slice d.pa K.m d.pc] (0,0) _ N underlying35 rfl a1 ?_)|(refine B5 rfl 36 _ rfl sb rfl 36 (al sg c f b).toArray (0,0) _ p underlying36 rfl bl ?_));refine an.mono ?_;rintro e C ⟨rfl,ap⟩;have g:=s.trans (ap.mono s.size);have ae:=D.out.2.below g;have B:=p.below ap;have br:=g.size;clear an ap N p s;cases bm with
  |false=>
   have a:=bg.out rfl;clear B;have G:=ae.setRow stZ;have q:=du C (w.1.size+1) stZ.toArray;have m:=(t.out _ g).trans (q.below uA (t.out _ g).size);have l:Hid (OpP d K w (.returned (.tuple #[.agg stZ.toArray,.int .i64 3])) (C.setRow (w.1.size+1) stZ.toArray)):=lq m a;clear m q a;go_wp2_with (refine B8 rfl 38 _ _ rfl (w.1.size+1) stZ.toArray rfl rfl 38 _ ae dY rfl (df ku) ?_);refine B3 (v:= .tuple #[.agg stZ.toArray,.int .i64 3]) ?_ rfl l.out;exact cI results15 _ _ (w.1.size+1) 38 stZ.toArray _ rfl G underlying38 rfl dY rfl
  |true=>
  have a:=a4.out rfl;have W:Hid (∀u,Below C.1.size C u->u.cell? ⟨w.1.size,0,none⟩=some (.slice d.sa K.n d.sc)/\u.cell? ⟨w.1.size,1,none⟩=some (.slice d.pa K.m d.pc)/\u.cell? ⟨sb,0,none⟩=some (.int .i64 sg)/\u.cell? ⟨sb,1,none⟩=some (.int .i64 c)/\u.cell? ⟨sb,2,none⟩=some (.int .i64 f)/\u.cell? ⟨sb,3,none⟩=some (.int .i64 b)):=fun u j=>⟨Blk.cell (D.out.1.below (g.trans (j.mono g.size))) 0,Blk.cell (D.out.1.below (g.trans (j.mono g.size))) 1,Blk.cell (B.below j) 0,Blk.cell (B.below j) 1,Blk.cell (B.below j) 2,Blk.cell (B.below j) 3⟩;go_upto_region 8 with fail
  have aB:=bDr C;have cs:=W.out C.drew aB;have ak:=BP d K C.drew (am.out _ (g.trans (aB.mono g.size))) ba;unfold av at ak;refine az (fun u=>u.cell? ⟨w.1.size,0,none⟩=some (.slice d.sa K.n d.sc)/\u.cell? ⟨w.1.size,1,none⟩=some (.slice d.pa K.m d.pc)/\u.cell? ⟨sb,0,none⟩=some (.int .i64 sg)/\u.cell? ⟨sb,1,none⟩=some (.int .i64 c)/\u.cell? ⟨sb,2,none⟩=some (.int .i64 f)/\u.cell? ⟨sb,3,none⟩=some (.int .i64 b)) (fun k=>decide (4<=k)) vk ?_;refine nk 0 23 cs ?_;simp only[Act.put,fx,List.set];refine nk 2 25 cs ?_;simp only[Act.put,fx,List.set];refine on1 1 fun E n=> ?_;go_wp2_with fail;refine ak.mono ?_;rintro e a3 ⟨r,rfl,a7,bc,bb,a9⟩;have L:=aB.trans a7;have M:=W.out a3 L;have S:=g.trans (L.mono g.size);have af:=D.out.2.below S;have q:=du a3 (w.1.size+1) (stV r K sg c f b).toArray;have G:=af.setRow (stV r K sg c f b);have m:=(t.out _ S).trans (q.below uA (t.out _ S).size);have l:Hid (OpP d K w (.returned (.tuple #[.agg (stV r K sg c f b).toArray,.int .i64 0])) (a3.setRow (w.1.size+1) (stV r K sg c f b).toArray)):=yq m a a5.out ba (uT bc (t.out _ g).size (show w.1.size+1<C.1.size by omega)) bb a9;clear ak a7 bc L S q m;go_wp2_with fail;refine n.out _ _ (fun _=>M) ?_;clear n E;refine on1 3 fun E n=> ?_;refine jZ _ _ rfl (cs:=(stV r K sg c f b).toArray) ?bk ?_
  case bk=>
   simp only[wB,ws,wz];exact uR r K sg c f b
  refine n.out _ _ (fun _=>M) ?_;clear n E;refine on1 4 fun E n=> ?_;refine wp_store_row 38 _ _ rfl (w.1.size+1) (stV r K sg c f b).toArray rfl rfl 38 _ af dY rfl (df (nK r K sg c f b)) ?_;refine n.out _ _ (fun h=>absurd h uB) ?_;clear n E;refine on1 5 fun E n=> ?_;go_wp2_with fail;refine n.out _ _ (fun h=>absurd h uB) ?_;clear n E;refine j5 vk ?_ _;clear cs M;go_wp2_with fail;refine B3 (v:= .tuple #[.agg (stV r K sg c f b).toArray,.int .i64 0]) ?_ rfl l.out;exact cI results15 _ _ (w.1.size+1) 38 (stV r K sg c f b).toArray _ rfl G underlying38 rfl dY rfl
