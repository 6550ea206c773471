import Derived.Test.YtglbanolhhjjiaaGreatDoorFo51
import Derived.Test.YtglbanolhhjjiaaGreatDoorFo38
namespace Go.Proofs.YtglbanolhhjjiaaGreatDoor
open Go.Proofs.Tryz
open Go.RowKit
set_option linter.unusedVariables false
set_option maxRecDepth 100000
set_option maxHeartbeats 32000000
theorem IT{K}(h:opC K=0):whB (opK K) (opN sG K) (opN sR K) (opN sU K) (opN sF K)=true:=by
 have b:opK K=K:=by unfold opK;rw[B4 h]
 have a:∀f,opN f K=bsN f K:=fun f=>by unfold opN;rw[B4 h]
 rw[b,a,a,a,a];unfold opC at h;split at h
 ·cases h
 split at h
 ·cases h
 split at h
 ·cases h
 ·assumption
theorem IU{K}(h:opC K≠0):(opK K).n=0:=by unfold opK;rw[CH h];rfl
theorem yZ{w q d K g r u f}(h:Blk w 38 q (stV d K g r u f)):w.cell? ⟨q,0,none⟩=some (.slice d.sa K.n d.sc)/\w.cell? ⟨q,1,none⟩=some (.slice d.pa K.m d.pc)/\w.cell? ⟨q,2,none⟩=some (.int .i64 g)/\w.cell? ⟨q,3,none⟩=some (.int .i64 r)/\w.cell? ⟨q,4,none⟩=some (.int .i64 u)/\w.cell? ⟨q,5,none⟩=some (.int .i64 f):=
 ⟨h.cell 0,h.cell 1,h.cell 2,h.cell 3,h.cell 4,h.cell 5⟩
theorem IV(K L a n c l w)(h:Bs w a n c l)(a0:Errs w K L):
 Calls prog 6 #[.slice a n c] w fun e w'=>e= .returned (.bool true)/\Below w.1.size w w':=by
 have aB:Hid (∀v,Below w.1.size w v->Errs v K L):=fun v b=>a0.below b;have a2:=wg h.le h.le';unfold maxLen at a2;obtain⟨m,a1⟩:=aa (sY (l.take 1000) (min n 1000) 0);have am:Hid (∀v,Below w.1.size w v->Calls prog 25 #[.slice a n c] v fun e w'=> ∃d,e= .returned (av d m)/\Below v.1.size v w'/\RDisk w' d m/\dt m):=fun v b=>IS a n c l v (h.below b) m a1;have W:=fun d w h ab=>GH d m w h ab;have V:=fun d w h ab bd=>GI K L d m w h ab bd;unfold OpP at W V;have T:Hid (opC m=0->whB (opK m) (opN sG m) (opN sR m) (opN sU m) (opN sF m)=true):=IT;have U:Hid (opC m≠0->(opK m).n=0):=IU;generalize opN sG m=i at*;generalize opN sR m=j at*;generalize opN sU m=k at*;generalize opN sF m=g at*;generalize opK m=f at*;generalize opC m=p at*;have a7:Hid _:=W;have a6:Hid _:=V;have bv:(p !=p)=false:=by simp
 clear W V a1 a0 h;go_enter func6,ntmps6;by_cases bA:(1048576:Int)< (n:Int)
 ·go_wp2;go_ret;exact⟨rfl,t7⟩
 go_wp2_with fail;refine(am.out w t7).mono ?_;rintro e w1 ⟨d,rfl,Y,E,R⟩;have ae:=bAl w1 (.cells #[.slice d.sa m.n d.sc,.slice d.pa m.m d.pc] 35);have ak:=nz w1 d m;have ap:Hid (Below w.1.size w (w1.alloc (.cells #[.slice d.sa m.n d.sc,.slice d.pa m.m d.pc] 35))):=Y.trans (ae.mono Y.size);have X:=a7.out d _ (E.below ae) (px E R);unfold av at X ⊢;clear Y E R ae;go_upto_region 4 with fail
 generalize w1.alloc (.cells #[.slice d.sa m.n d.sc,.slice d.pa m.m d.pc] 35)=bz at*;generalize w1.1.size=bC at*;have ba:=ak.c0;have bb:=ak.c1;go_wp2_with fail;refine X.mono ?_;rintro e r ⟨aT,q,rfl,a5,br⟩;have C:=ap.out.trans (aT.mono ap.out.size);have af:=bAl r (.cells (stV q f i j k g).toArray 38);have Q:Blk (r.alloc (.cells (stV q f i j k g).toArray 38)) 38 r.1.size (stV q f i j k g):=aq r _ _;have t:=uv (C.trans (af.mono C.size)) (vJ Q (a5.below af).reads);clear X aT a5 br af Q C ba bb ak;go_upto_region 5 with(refine bt rfl 38 _ _ rfl r stZ.toArray (stV q f i j k g).toArray 38 rfl rfl dY rfl (df (nK q f i j k g)) ?_)
 change Code.wp _ _ _ _ (r.alloc (.cells (stV q f i j k g).toArray 38));generalize r.alloc (.cells (stV q f i j k g).toArray 38)=a8 at*;generalize r.1.size=sb at*;go_wp2_with fail;refine(am.out a8 t.out.1).mono ?_;rintro e bs ⟨bc,rfl,H,F,S⟩;have A:=t.out.1.trans (H.mono t.out.1.size);have Ioq:=a6.out bc bs F (px F S) (aB.out _ A);have y:=uv A (vJ (t.out.2.1.below H) (t.out.2.2.below H));unfold av at Ioq ⊢;clear F S A t H;go_wp2_with fail;refine Ioq.mono ?_;rintro e s ⟨I,o,rfl,a4,u⟩;have B:=y.out.1.trans (I.mono y.out.1.size);have D:=bAl s (.cells (stV o f i j k g).toArray 38);have P:Blk (s.alloc (.cells (stV o f i j k g).toArray 38)) 38 s.1.size (stV o f i j k g):=aq s _ _;have aA:=uv (B.trans (D.mono B.size)) (vJ P (vJ (a4.below D).reads (vJ ((y.out.2.1.below I).below D) (vJ ((y.out.2.2.below I).below D) u))));clear Ioq I a4 D u P B y;go_upto_region 6 with(refine bt rfl 38 _ _ rfl s stZ.toArray (stV o f i j k g).toArray 38 rfl rfl dY rfl (df (nK o f i j k g)) ?_)
 change Code.wp _ _ _ _ (s.alloc (.cells (stV o f i j k g).toArray 38));generalize s.alloc (.cells (stV o f i j k g).toArray 38)=a9 at*;generalize s.1.size=bn at*;obtain⟨M,kI,rI,ad,ag,u⟩:=aA.out;clear aA;by_cases N:p=0
 ·have O:=T.out N;subst N;have aS:=Ci o q f i j k g a9 rI ag u;have z:=uv M (vJ kI rI);clear M rI ag u T U;go_wp2_with (first|(refine B5 rfl 38 _ rfl bn rfl 38 (stV o f i j k g).toArray (0,0) _ kI underlying38 rfl dY ?_)|(refine B5 rfl 38 _ rfl sb rfl 38 (stV q f i j k g).toArray (0,0) _ ad underlying38 rfl dY ?_));refine aS.mono ?_;rintro e bu ⟨rfl,J⟩;clear aS kI ad;have Z:=z.out.1.trans (J.mono z.out.1.size);have G:=yl K L o f i j k g bu (z.out.2.2.below J) (aB.out _ Z);rw[O]at G;obtain⟨ac,bf,bg,bk,bl,bm⟩:=yZ (z.out.2.1.below J);have an:Hid _:=Z;unfold av al at G;clear J Z z O;go_wp2_with fail;refine G.mono ?_;rintro e bB ⟨rfl,aX⟩;have x:Hid _:=an.out.trans (aX.mono an.out.size);clear G aX ac bf bg bk bl bm;go_wp2;go_ret;exact⟨rfl,x.out⟩
 ·have a3:=U.out N;have bx:(p !=0)=true:=by simp[N]
  have ac:=(yZ kI).1;rw[a3]at ac;have x:Hid _:=M;clear M kI rI ad ag u T U a3;go_wp2;go_ret;exact⟨rfl,x.out⟩
