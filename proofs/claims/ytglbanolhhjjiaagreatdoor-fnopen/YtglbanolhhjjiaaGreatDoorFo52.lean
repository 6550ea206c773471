import Derived.Test.YtglbanolhhjjiaaGreatDoorFo51
import Derived.Test.YtglbanolhhjjiaaGreatDoorFo38
namespace Go.Proofs.YtglbanolhhjjiaaGreatDoor
open Go.Proofs.Tryz
open Go.RowKit
set_option linter.unusedVariables false
set_option maxRecDepth 100000
set_option maxHeartbeats 32000000
theorem IT{K}(a:opC K=0):whB (opK K) (opN sG K) (opN sR K) (opN sU K) (opN sF K)=true:=by
 have c:opK K=K:=by unfold opK;rw[BC a]
 have b:∀f,opN f K=bsN f K:=fun f=>by unfold opN;rw[BC a]
 rw[c,b,b,b,b];unfold opC at a;split at a
 ·cases a
 split at a
 ·cases a
 split at a
 ·cases a
 ·assumption
theorem IU{K}(a:opC K≠0):(opK K).n=0:=by unfold opK;rw[BX a];rfl
theorem yZ{w q d K g r u f}(a:Blk w 38 q (stV d K g r u f)):w.cell? ⟨q,0,none⟩=some (.slice d.sa K.n d.sc)/\w.cell? ⟨q,1,none⟩=some (.slice d.pa K.m d.pc)/\w.cell? ⟨q,2,none⟩=some (.int .i64 g)/\w.cell? ⟨q,3,none⟩=some (.int .i64 r)/\w.cell? ⟨q,4,none⟩=some (.int .i64 u)/\w.cell? ⟨q,5,none⟩=some (.int .i64 f):=
 ⟨a.cell 0,a.cell 1,a.cell 2,a.cell 3,a.cell 4,a.cell 5⟩
theorem IV(J K a n c l w)(N:Bs w a n c l)(a0:Errs w J K):
 Calls prog 6 #[.slice a n c] w fun e w'=>e= .returned (.bool true)/\Below w.1.size w w':=by
 have aB:Hid (∀v,Below w.1.size w v->Errs v J K):=fun v b=>a0.below b;have a2:=u9 N.le N.le';unfold maxLen at a2;obtain⟨k,a1⟩:=aa (sY (l.take 1000) (min n 1000) 0);have am:Hid (∀v,Below w.1.size w v->Calls prog 25 #[.slice a n c] v fun e w'=> ∃d,e= .returned (av d k)/\Below v.1.size v w'/\RDisk w' d k/\dt k):=fun v b=>IS a n c l v (N.below b) k a1;have W:=fun d w N ab=>GH d k w N ab;have V:=fun d w N ab bd=>GI J K d k w N ab bd;unfold OpP at W V;have T:Hid (opC k=0->whB (opK k) (opN sG k) (opN sR k) (opN sU k) (opN sF k)=true):=IT;have U:Hid (opC k≠0->(opK k).n=0):=IU;generalize opN sG k=h at*;generalize opN sR k=i at*;generalize opN sU k=j at*;generalize opN sF k=g at*;generalize opK k=f at*;generalize opC k=o at*;have a7:Hid _:=W;have a6:Hid _:=V;have bv:(o !=o)=false:=by simp
 clear W V a1 a0 N;go_enter func6,ntmps6;by_cases bA:(1048576:Int)< (n:Int)
 ·go_wp2;go_ret;exact⟨rfl,t2⟩
 go_wp2_with fail;refine(am.out w t2).mono ?_;rintro e w1 ⟨d,rfl,Y,D,R⟩;have ae:=bAl w1 (.cells #[.slice d.sa k.n d.sc,.slice d.pa k.m d.pc] 35);have ak:=nz w1 d k;have ap:Hid (Below w.1.size w (w1.alloc (.cells #[.slice d.sa k.n d.sc,.slice d.pa k.m d.pc] 35))):=Y.trans (ae.mono Y.size);have X:=a7.out d _ (D.below ae) (px D R);unfold av at X ⊢;clear Y D R ae;go_upto_region 4 with fail
 generalize w1.alloc (.cells #[.slice d.sa k.n d.sc,.slice d.pa k.m d.pc] 35)=bz at*;generalize w1.1.size=bC at*;have ba:=ak.c0;have bb:=ak.c1;go_wp2_with fail;refine X.mono ?_;rintro e q ⟨aT,p,rfl,a5,br⟩;have B:=ap.out.trans (aT.mono ap.out.size);have af:=bAl q (.cells (stV p f h i j g).toArray 38);have Q:Blk (q.alloc (.cells (stV p f h i j g).toArray 38)) 38 q.1.size (stV p f h i j g):=aq q _ _;have s:=t6 (B.trans (af.mono B.size)) (u2 Q (a5.below af).reads);clear X aT a5 br af Q B ba bb ak;go_upto_region 5 with(refine bt rfl 38 _ _ rfl q stZ.toArray (stV p f h i j g).toArray 38 rfl rfl dY rfl (df (nK p f h i j g)) ?_)
 change Code.wp _ _ _ _ (q.alloc (.cells (stV p f h i j g).toArray 38));generalize q.alloc (.cells (stV p f h i j g).toArray 38)=a8 at*;generalize q.1.size=sb at*;go_wp2_with fail;refine(am.out a8 s.out.1).mono ?_;rintro e bs ⟨bc,rfl,G,E,S⟩;have z:=s.out.1.trans (G.mono s.out.1.size);have IO:=a6.out bc bs E (px E S) (aB.out _ z);have x:=t6 z (u2 (s.out.2.1.below G) (s.out.2.2.below G));unfold av at IO ⊢;clear E S z s G;go_wp2_with fail;refine IO.mono ?_;rintro e r ⟨H,m,rfl,a4,t⟩;have A:=x.out.1.trans (H.mono x.out.1.size);have C:=bAl r (.cells (stV m f h i j g).toArray 38);have P:Blk (r.alloc (.cells (stV m f h i j g).toArray 38)) 38 r.1.size (stV m f h i j g):=aq r _ _;have aA:=t6 (A.trans (C.mono A.size)) (u2 P (u2 (a4.below C).reads (u2 ((x.out.2.1.below H).below C) (u2 ((x.out.2.2.below H).below C) t))));clear IO H a4 C t P A x;go_upto_region 6 with(refine bt rfl 38 _ _ rfl r stZ.toArray (stV m f h i j g).toArray 38 rfl rfl dY rfl (df (nK m f h i j g)) ?_)
 change Code.wp _ _ _ _ (r.alloc (.cells (stV m f h i j g).toArray 38));generalize r.alloc (.cells (stV m f h i j g).toArray 38)=a9 at*;generalize r.1.size=bn at*;obtain⟨L,kI,rI,ad,ag,t⟩:=aA.out;clear aA;by_cases M:o=0
 ·have O:=T.out M;subst M;have aS:=Ci m p f h i j g a9 rI ag t;have y:=t6 L (u2 kI rI);clear L rI ag t T U;go_wp2_with (first|(refine BD rfl 38 _ rfl bn rfl 38 (stV m f h i j g).toArray (0,0) _ kI underlying38 rfl dY ?_)|(refine BD rfl 38 _ rfl sb rfl 38 (stV p f h i j g).toArray (0,0) _ ad underlying38 rfl dY ?_));refine aS.mono ?_;rintro e bu ⟨rfl,I⟩;clear aS kI ad;have Z:=y.out.1.trans (I.mono y.out.1.size);have F:=yl J K m f h i j g bu (y.out.2.2.below I) (aB.out _ Z);rw[O]at F;obtain⟨ac,bf,bg,bk,bl,bm⟩:=yZ (y.out.2.1.below I);have an:Hid _:=Z;unfold av al at F;clear I Z y O;go_wp2_with fail;refine F.mono ?_;rintro e bB ⟨rfl,aX⟩;have u:Hid _:=an.out.trans (aX.mono an.out.size);clear F aX ac bf bg bk bl bm;go_wp2;go_ret;exact⟨rfl,u.out⟩
 ·have a3:=U.out M;have bx:(o !=0)=true:=by simp[M]
  have ac:=(yZ kI).1;rw[a3]at ac;have u:Hid _:=L;clear L kI rI ad ag t T U a3;go_wp2;go_ret;exact⟨rfl,u.out⟩
