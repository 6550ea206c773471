import Derived.Test.YtglbanolhhjjiaaGreatDoorFo16
import Derived.Test.YtglbanolhhjjiaaGreatDoorFo8
namespace Go.Proofs.YtglbanolhhjjiaaGreatDoor
open Go.Proofs.Tryz
open Go.RowKit Go.Maps
set_option linter.unusedVariables false
set_option maxRecDepth 100000
set_option maxHeartbeats 32000000
noncomputable def dZ(K:DK):Int:= @ite _ (saB K 0=true/\(saB K 1=false\/saN sG K 1<saN sG K 0)) (Classical.propDecidable _) 0 1
noncomputable def bsB(K:DK):Bool:=match aR K with|true=>saB K (dZ K)|false=>false
noncomputable def bsN(f:List Int->Int)(K:DK):Int:=match aR K with|true=>saN f K (dZ K)|false=>0
noncomputable def bsV(K:DK):Value:=aG (bsN sG K) (bsN sR K) (bsN sU K) (bsN sF K)
theorem wO{K}(h:dOk K):bsV K=saV K (dZ K):=by unfold bsV bsN;rw[fj h];rfl
theorem wT{K}(h:¬dOk K):bsV K=aG 0 0 0 0:=by unfold bsV bsN;rw[gk h]
theorem wU{K}(h:saB K 0=true/\(saB K 1=false\/saN sG K 1<saN sG K 0)):dZ K=0:=by unfold dZ;rw[B4 h]
theorem rx{K}(h:¬(saB K 0=true/\(saB K 1=false\/saN sG K 1<saN sG K 0))):dZ K=1:=by unfold dZ;rw[CH h]
theorem EA(d K w)(h:RDisk w d K):
 Calls prog 37 #[av d K] w fun e w'=>e= .returned (.tuple #[bsV K,.bool (bsB K)])/\Below w.1.size w w':=by
 have T:=fK w (.cells #[.slice d.sa K.n d.sc,.slice d.pa K.m d.pc] 35) (.cells #[.int .i64 0,.int .i64 0,.int .i64 0,.int .i64 0] 36);have an:=D6 w (.cells #[.slice d.sa K.n d.sc,.slice d.pa K.m d.pc] 35);have W:=D6 (w.alloc (.cells #[.slice d.sa K.n d.sc,.slice d.pa K.m d.pc] 35)) (.cells #[.int .i64 0,.int .i64 0,.int .i64 0,.int .i64 0] 36);have bs:((w.alloc (.cells #[.slice d.sa K.n d.sc,.slice d.pa K.m d.pc] 35)).alloc (.cells #[.int .i64 0,.int .i64 0,.int .i64 0,.int .i64 0] 36)).1.size=w.1.size+1+1:=by simp
 have I:((w.alloc (.cells #[.slice d.sa K.n d.sc,.slice d.pa K.m d.pc] 35)).alloc (.cells #[.int .i64 0,.int .i64 0,.int .i64 0,.int .i64 0] 36)).heap[w.1.size]?=some (.cells #[.slice d.sa K.n d.sc,.slice d.pa K.m d.pc] 35 (0,0)):=by rw[Below.heap_alloc _ _ _ vo];exact an
 simp only[World.size_alloc]at W;have Y:Hid _:=h.below T;have aX:Hid _:=T;clear an T;unfold av;go_enter func37,ntmps37;go_wp2_with fail;generalize Z:(w.alloc (.cells #[.slice d.sa K.n d.sc,.slice d.pa K.m d.pc] 35)).alloc (.cells #[.int .i64 0,.int .i64 0,.int .i64 0,.int .i64 0] 36)=bc at*;clear Z;refine(jt d K _ Y.out).mono ?_;rintro e w1 ⟨rfl,j⟩;have u1:=(j.block (w.1.size+1) uA).trans W;have u0:=(j.block w.1.size uA).trans I;have D:Hid (Below w.1.size w w1):=aX.out.trans (j.mono uA);have aS:Hid (w.1.size+1+1<=w1.1.size):=by have:=j.size;show w.1.size+1+1<=w1.1.size;omega
 have R1:Hid _:=Y.out.below j;clear j I W;by_cases a:dOk K
 case neg=>
  obtain⟨⟨l0,r,s,t⟩,a4,f1,a5,a6⟩:=ep u1;have a0:Hid _:=wT a;have SB:Hid (bsB K=false):=by show bsB K=false;unfold bsB;rw[gk a]
  have X:Hid _:=fT D.out (show w.1.size<=w.1.size+1 by omega) (.int .i64 0) (.int .i64 0) (.int .i64 0) (.int .i64 0);rw[gk a];clear u0 u1 a;go_wp2;refine B3 (v:= .tuple #[aG 0 0 0 0,.bool false]) (by simp[results,results37,go_sem,aG,l0,r,s,t]) rfl ?_;rw[a0.out,SB.out];exact⟨rfl,X.out⟩
 rw[fj a];have k0:w1.cell? ⟨w.1.size,0,none⟩=some (.slice d.sa K.n d.sc):=by rw[DC w1 _ 0 _ _ _ u0];rfl
 have a7:w1.cell? ⟨w.1.size,1,none⟩=some (.slice d.pa K.m d.pc):=by rw[DC w1 _ 1 _ _ _ u0];rfl
 have n:Hid _:=a;go_wp2_with fail;refine(qn d K w1 R1.out a).mono ?_;rintro e f ⟨g,c,rfl,F,af⟩;have v2:=qN h a af;have ap:=D6 f (.cells #[.slice (some ⟨g,0,none⟩) K.n c] 136);have U:=(B2 f.1.size f).alloc t6 (.cells #[.slice (some ⟨g,0,none⟩) K.n c] 136);have G:=F.trans (U.mono F.size);have u3:=(G.block (w.1.size+1) (by have:=aS.out;omega)).trans u1;have Q:=v2.below U;have N:=R1.out.below G;have J:Hid (Below w.1.size w _):=D.out.trans (G.mono D.out.size);have a8:Hid (w.1.size+1+1<=f.1.size):=wg aS.out F.size;have ba:(f.alloc (.cells #[.slice (some ⟨g,0,none⟩) K.n c] 136)).1.size=f.1.size+1:=by simp
 clear u0 u1 k0 a7 F af v2 U G R1 D a;go_wp2_with fail;generalize ab:f.alloc (.cells #[.slice (some ⟨g,0,none⟩) K.n c] 136)=a1 at*;clear ab;refine(vv d K 0 g c a1 N n.out Q).mono ?_;rintro e i ⟨rfl,y⟩;have ak:=(y.block f.1.size uA).trans ap;have ae:i.cell? ⟨f.1.size,0,none⟩=some (.slice (some ⟨g,0,none⟩) K.n c):=by rw[DC i _ 0 _ _ _ ak];rfl
 have aA:=D6 i (.cells #[.int .i64 (saN sG K 0),.int .i64 (saN sR K 0),.int .i64 (saN sU K 0),.int .i64 (saN sF K 0)] 36);have V:=(B2 i.1.size i).alloc t6 (.cells #[.int .i64 (saN sG K 0),.int .i64 (saN sR K 0),.int .i64 (saN sU K 0),.int .i64 (saN sF K 0)] 36);have a9:=y.size;rw[<-V.cell (p:=⟨f.1.size,0,none⟩) (show f.1.size<i.1.size by omega)]at ae;have z:=y.trans (V.mono y.size);have bb:(i.alloc (.cells #[.int .i64 (saN sG K 0),.int .i64 (saN sR K 0),.int .i64 (saN sU K 0),.int .i64 (saN sF K 0)] 36)).1.size=i.1.size+1:=by simp
 unfold saV aG;clear ak V;go_wp2_with fail;generalize ac:i.alloc (.cells #[.int .i64 (saN sG K 0),.int .i64 (saN sR K 0),.int .i64 (saN sU K 0),.int .i64 (saN sF K 0)] 36)=a2 at*;clear ac;refine(vv d K 1 g c a2 (N.below z) n.out (Q.below z)).mono ?_;rintro e H ⟨rfl,R⟩;have aB:=D6 H (.cells #[.int .i64 (saN sG K 1),.int .i64 (saN sR K 1),.int .i64 (saN sU K 1),.int .i64 (saN sF K 1)] 36);have ag:=(B2 H.1.size H).alloc t6 (.cells #[.int .i64 (saN sG K 1),.int .i64 (saN sR K 1),.int .i64 (saN sU K 1),.int .i64 (saN sF K 1)] 36);have A:=R.trans (ag.mono R.size);have x:=z.trans (A.mono z.size);have u7:=(x.block (w.1.size+1) (by have:=a8.out;omega)).trans u3;have am:=(A.block i.1.size uA).trans aA;have aT:Hid (Below w.1.size w _):=J.out.trans (x.mono J.out.size);unfold saV aG;clear ae u3 ap aA y z R A x ag N Q J;have C:Hid (bsV K=saV K (dZ K)):=wO n.out;have B:Hid (bsB K=saB K (dZ K)):=by show bsB K=saB K (dZ K);unfold bsB;rw[fj n.out]
 have L:Hid (saV K 0=aG (saN sG K 0) (saN sR K 0) (saN sU K 0) (saN sF K 0)):=rfl;have M:Hid (saV K 1=aG (saN sG K 1) (saN sR K 1) (saN sU K 1) (saN sF K 1)):=rfl;have O:Hid (saB K 0=true/\(saB K 1=false\/saN sG K 1<saN sG K 0)->dZ K=0):=wU;have P:Hid (¬(saB K 0=true/\(saB K 1=false\/saN sG K 1<saN sG K 0))->dZ K=1):=rx;go_upto_region 6 with fail
 generalize ad:H.alloc (.cells #[.int .i64 (saN sG K 1),.int .i64 (saN sR K 1),.int .i64 (saN sU K 1),.int .i64 (saN sF K 1)] 36)=a3 at*;clear ad;obtain⟨⟨l0,r,s,t⟩,a4,f1,a5,a6⟩:=ep u7;obtain⟨⟨bd,bf,bg,bk⟩,_⟩:=ep am;obtain⟨⟨bl,bm,bn,br⟩,_⟩:=ep aB;clear u7 am aB;have E:Hid (∀v0 v1 v2 v3,Below w.1.size w ((((a3.setCell ⟨w.1.size+1,0,none⟩ v0).setCell ⟨w.1.size+1,1,none⟩ v1).setCell ⟨w.1.size+1,2,none⟩ v2).setCell ⟨w.1.size+1,3,none⟩ v3)):=fun v0 v1 v2 v3=>fT aT.out (show w.1.size<=w.1.size+1 by omega) v0 v1 v2 v3;by_cases m:saB K 0=true/\(saB K 1=false\/saN sG K 1<saN sG K 0)
 ·have b:=O.out m;have u:Hid (bsV K=aG (saN sG K 0) (saN sR K 0) (saN sU K 0) (saN sF K 0)):=by show bsV K= _;rw[C.out,b,L.out]
  have o:Hid (bsB K=true):=by show bsB K= _;rw[B.out,b];exact m.1
  obtain⟨q,k⟩:=m;clear b C B O P L M;cases l:saB K 1 with
  |false=>
   rw[q];clear k l;go_wp2;refine B3 (v:= .tuple #[aG (saN sG K 0) (saN sR K 0) (saN sU K 0) (saN sF K 0),.bool true]) (by simp[results,results37,go_sem,aG,l0,r,s,t]) rfl ?_;rw[u.out,o.out];exact⟨rfl,E.out _ _ _ _⟩
  |true=>
   rw[q];have S:saN sG K 1<saN sG K 0:=by
    rcases k with k|k
    ·rw[l]at k;cases k
    ·exact k
   clear k l;go_wp2;refine B3 (v:= .tuple #[aG (saN sG K 0) (saN sR K 0) (saN sU K 0) (saN sF K 0),.bool true]) (by simp[results,results37,go_sem,aG,l0,r,s,t]) rfl ?_;rw[u.out,o.out];exact⟨rfl,E.out _ _ _ _⟩
 ·have b:=P.out m;have u:Hid (bsV K=aG (saN sG K 1) (saN sR K 1) (saN sU K 1) (saN sF K 1)):=by show bsV K= _;rw[C.out,b,M.out]
  have o:Hid (bsB K=saB K 1):=by show bsB K= _;rw[B.out,b]
  clear b C B O P L M;cases q:saB K 0 with
  |false=>
   clear m;generalize saB K 1=j at*;go_wp2;refine B3 (v:= .tuple #[aG (saN sG K 1) (saN sR K 1) (saN sU K 1) (saN sF K 1),.bool j]) (by simp[results,results37,go_sem,aG,l0,r,s,t]) rfl ?_;rw[u.out,o.out];exact⟨rfl,E.out _ _ _ _⟩
  |true=>
   have l:saB K 1=true:=by
    cases l:saB K 1 with
    |true=>rfl
    |false=>exact absurd ⟨q,v7 l⟩ m
   have S:¬saN sG K 1<saN sG K 0:=fun S=>m ⟨q,v6 S⟩;rw[l]at o ⊢;clear m q l;go_wp2;refine B3 (v:= .tuple #[aG (saN sG K 1) (saN sR K 1) (saN sU K 1) (saN sF K 1),.bool true]) (by simp[results,results37,go_sem,aG,l0,r,s,t]) rfl ?_;rw[u.out,o.out];exact⟨rfl,E.out _ _ _ _⟩
noncomputable def btN(f:List Int->Int)(K:DK):Nat->Int
 |0=>0
 |1=>saN f K 0
 |_=>saN f K (dZ K)
theorem mC{K t}(h:saP K t):1<=sG (vL K t)/\sG (vL K t)%2=t:=⟨(qQ h.2.2.2.2.1).1,h.2.2.2.2.2.1⟩
theorem wV{K t}(h:saB K t=true):saP K t:=by
 by_cases a:saP K t
 ·exact a
 ·rw[mo a]at h;cases h
theorem EC{K}{j:Nat}(k:j<2)(c:saP K (j:Int))(e:btN sG K j<sG (vL K (j:Int)))(f):btN f K (j+1)=f (vL K (j:Int)):=by
 rcases xP j 1 with h|h
 ·obtain rfl:j=0:=uA;exact ik c f
 ·obtain rfl:j=1:=uA;have d:dZ K=1:=rx (fun⟨i,a⟩=>by
   have b:saP K 1:=c;rcases a with a|a
   ·rw[nS b]at a;cases a
   ·rw[ik b]at a;have g:saN sG K 0<sG (vL K 1):=e;omega)
  show saN f K (dZ K)= _;rw[d];exact ik c f
theorem EE{K}{j:Nat}(n:j<2)(h:¬saP K (j:Int)\/¬btN sG K j<sG (vL K (j:Int)))(f):btN f K (j+1)=btN f K j:=by
 rcases xP j 1 with h1|h1
 ·obtain rfl:j=0:=uA;show saN f K 0=0;refine iV (fun a=> ?_) f;rcases h with h|h
  ·exact h a
  ·have e:=a;have:=(mC e).1;have b:¬(0:Int)<sG (vL K 0):=h;omega
 ·obtain rfl:j=1:=uA;show saN f K (dZ K)=saN f K 0;by_cases c:saB K 0=true
  ·have d:=wU ⟨c,by
    by_cases a:saP K 1
    ·right;rcases h with h|h
     ·exact absurd a h
     ·have b:¬saN sG K 0<sG (vL K 1):=h;have i:=wV c;have l:=mC i;have m:=mC a;rw[ik i]at b ⊢;rw[ik a];omega
    ·exact v7 (mo a)⟩
   rw[d]
  ·have d:=rx (fun k=>c k.1);have g:¬saP K 0:=fun a=>c (nS a);rw[d,iV g];refine iV (fun a=> ?_) f;rcases h with h|h
   ·exact h a
   ·have b:¬saN sG K 0<sG (vL K 1):=h;rw[iV g]at b;have:=(mC a).1;omega
theorem EG(K):decide ((0:Int)<btN sG K 2)=saB K (dZ K):=by
 show decide ((0:Int)<saN sG K (dZ K))= _;cases h:saB K (dZ K)with
 |true=>
  have a:=wV h;rw[ik a];exact CR (by have:=(mC a).1;omega)
 |false=>
  have:saN sG K (dZ K)=0:=by unfold saN;rw[h]
  rw[this];rfl
theorem EH(ap aA d K w)(h:RDisk w d K)(aB:Errs w ap aA):
 Calls prog 42 #[av d K] w fun e w'=>e= .returned (.tuple #[bsV K,.bool (bsB K)])/\Below w.1.size w w':=by
 have M:=fK w (.cells #[.slice d.sa K.n d.sc,.slice d.pa K.m d.pc] 35) (.cells #[.int .i64 0,.int .i64 0,.int .i64 0,.int .i64 0] 36);have G:=D6 (w.alloc (.cells #[.slice d.sa K.n d.sc,.slice d.pa K.m d.pc] 35)) (.cells #[.int .i64 0,.int .i64 0,.int .i64 0,.int .i64 0] 36);have bY:((w.alloc (.cells #[.slice d.sa K.n d.sc,.slice d.pa K.m d.pc] 35)).alloc (.cells #[.int .i64 0,.int .i64 0,.int .i64 0,.int .i64 0] 36)).1.size=w.1.size+1+1:=by simp
 simp only[World.size_alloc]at G;have A:Hid _:=h.below M;have ag:Hid _:=aB.below M;have T:Hid _:=M;clear M aB;by_cases k:dOk K
 case neg=>
  have S:=uC d K _ A.out k;have U:Hid _:=wT k;have SB:Hid (bsB K=false):=by show bsB K=false;unfold bsB;rw[gk k]
  unfold av at S ⊢;clear k;go_enter func42,ntmps42;go_wp2_with fail;generalize D:(w.alloc (.cells #[.slice d.sa K.n d.sc,.slice d.pa K.m d.pc] 35)).alloc (.cells #[.int .i64 0,.int .i64 0,.int .i64 0,.int .i64 0] 36)=an at*;clear D;refine S.mono ?_;rintro e w1 ⟨rfl,n⟩;have u1:=(n.block (w.1.size+1) uA).trans G;have ad:Hid (Below w.1.size w w1):=T.out.trans (n.mono uA);have a0:w.1.size+1<w1.1.size:=by have:=n.size;omega
  have r:=fun o=>(B2 w1.1.size w1).alloc t6 o;have a3:=fun o=>ep (((r o).block (w.1.size+1) a0).trans u1);have P:=fT (ad.out.trans ((r (.cells #[.slice none 0 0,.slice none 0 0,.map none] 122)).mono ad.out.size)) (show w.1.size<=w.1.size+1 by omega) (.int .i64 0) (.int .i64 0) (.int .i64 0) (.int .i64 0);obtain⟨⟨l0,W,X,Y⟩,bl,f1,bm,bn⟩:=a3 (.cells #[.slice none 0 0,.slice none 0 0,.map none] 122);clear S n u1 G r a3;unfold rZ;go_upto_region 2 with fail
  generalize aS:w1.alloc (.cells #[.slice none 0 0,.slice none 0 0,.map none] 122)=bC at*;clear aS;have z:Hid _:=P;clear P;go_wp2;refine B3 (v:= .tuple #[aG 0 0 0 0,.bool false]) (by simp[results,results42,go_sem,aG,l0,W,X,Y]) rfl ?_;rw[U.out,SB.out];exact⟨rfl,z.out⟩
 have U:Hid (bsV K=aG (btN sG K 2) (btN sR K 2) (btN sU K 2) (btN sF K 2)):=wO k;have SB:Hid (bsB K=decide ((0:Int)<btN sG K 2)):=by show bsB K= _;rw[EG];unfold bsB;rw[fj k]
 unfold av;go_enter func42,ntmps42;go_wp2_with fail;generalize D:(w.alloc (.cells #[.slice d.sa K.n d.sc,.slice d.pa K.m d.pc] 35)).alloc (.cells #[.int .i64 0,.int .i64 0,.int .i64 0,.int .i64 0] 36)=an at*;clear D;refine(uE d.sa d.pa d.sc d.pc d.sA d.pA d.sN d.sC d.pN d.pC K an A.out.safe A.out.pend k).mono ?_;rintro e w1 ⟨g,rfl,n,a4⟩;have r:=(B2 w1.1.size w1).alloc t6 (.cells #[.slice d.sa K.n d.sc,.slice d.pa K.m d.pc,.map (some g)] 122);have bx:=D6 w1 (.cells #[.slice d.sa K.n d.sc,.slice d.pa K.m d.pc,.map (some g)] 122);have a6:Hid ((w1.alloc (.cells #[.slice d.sa K.n d.sc,.slice d.pa K.m d.pc,.map (some g)] 122)).1.size=w1.1.size+1):=World.size_alloc w1 _;have C:=n.trans (r.mono n.size);have ba:Hid (World.ownsMap (w1.alloc (.cells #[.slice d.sa K.n d.sc,.slice d.pa K.m d.pc,.map (some g)] 122)) prog 3 (plainElem prog 3) g K.m (dz K.At K.m)):=mr a4 r;have bb:Hid _:=A.out.below C;have a8:Hid _:=ag.out.below C;have ae:Hid (Below w.1.size w _):=T.out.trans (C.mono uA);have bA:=n.size;have u2:=(C.block (w.1.size+1) uA).trans G;clear n a4 r C G A ag T;go_upto_region 4 with fail
 generalize aT:w1.alloc (.cells #[.slice d.sa K.n d.sc,.slice d.pa K.m d.pc,.map (some g)] 122)=c at*;clear aT;have ab:=D6 c (.cells #[.int .i64 0,.int .i64 0,.int .i64 0,.int .i64 0] 36);have Z:=(B2 c.1.size c).alloc t6 (.cells #[.int .i64 0,.int .i64 0,.int .i64 0,.int .i64 0] 36);go_wp2_with fail;go_loopw [7,8,9,18] (fun _ _ _ i wr=> ∃j:Nat,j<=2/\i= .int .i64 (j:Nat)/\Below c.1.size c wr/\wr.heap[c.1.size]?=some (.cells #[.int .i64 (btN sG K j),.int .i64 (btN sR K j),.int .i64 (btN sU K j),.int .i64 (btN sF K j)] 36 (0,0))) (fun _ _ _ i _=>2-(intOf i).toNat)
 case atStart=>exact⟨0,uA,rfl,Z,ab⟩
 case round=>
  obtain⟨j,bX,rfl,l,hx⟩:=hrel;have O:Hid _:=l;have bz:=l.size;have aX:=(wy.1 hx).1;by_cases Q:j<2
  ·have bs:(j:Int)<2:=uA;have N:=(l.block w1.1.size (by have:=a6.out;omega)).trans bx;have k0:wr.cell? ⟨w1.1.size,0,none⟩=some (.slice d.sa K.n d.sc):=by rw[DC wr _ 0 _ _ _ N];rfl
   have bu:wr.cell? ⟨w1.1.size,1,none⟩=some (.slice d.pa K.m d.pc):=by rw[DC wr _ 1 _ _ _ N];rfl
   have bv:wr.cell? ⟨w1.1.size,2,none⟩=some (.map (some g)):=by rw[DC wr _ 2 _ _ _ N];rfl
   have ak:=Dx ap aA d K (j:Int) g wr (bb.out.below l) k (a8.out.below l) (mr ba.out l);have I:Hid (saP K (j:Int)->btN sG K j<sG (vL K (j:Int))->∀f,btN f K (j+1)=f (vL K (j:Int))):=fun a b f=>EC Q a b f;have B:Hid ((¬saP K (j:Int)\/¬btN sG K j<sG (vL K (j:Int)))->∀f,btN f K (j+1)=btN f K j):=fun a f=>EE Q a f;have H:Hid (saP K (j:Int)->saV K (j:Int)=aG (sG (vL K (j:Int))) (sR (vL K (j:Int))) (sU (vL K (j:Int))) (sF (vL K (j:Int)))):=qR;clear l N Z ab;go_wp2_with fail;refine ak.mono ?_;rintro e s ⟨J,a2⟩;have E:=(J.block c.1.size aX).trans hx;have u:Hid (Below c.1.size c s):=O.out.trans (J.mono bz);have bB:=J.size;clear ak k0 bu bv J hx;rcases a2 with⟨q,rfl⟩|⟨q,x,rfl⟩
   ·rw[H.out q];generalize R:vL K (j:Int)=L at*;have p:=(B2 s.1.size s).alloc t6 (.cells #[.int .i64 (sG L),.int .i64 (sR L),.int .i64 (sU L),.int .i64 (sF L)] 36);have ac:=D6 s (.cells #[.int .i64 (sG L),.int .i64 (sR L),.int .i64 (sU L),.int .i64 (sF L)] 36);have F:=(p.block c.1.size uA).trans E;have y:Hid (Below c.1.size c _):=u.out.trans (p.mono uA);obtain⟨⟨bd,bf,bg,bk⟩,bE,bF,bP,bR⟩:=ep F;obtain⟨⟨e0,bS,bT,bW⟩,_⟩:=ep ac;have a1:¬s.1.size=c.1.size:=uA;by_cases br:btN sG K j<sG L
    ·have am:=I.out q br;have a5:=heap_setCell_same _ _ 3 _ _ (.int .i64 (sF L)) (heap_setCell_same _ _ 2 _ _ (.int .i64 (sU L)) (heap_setCell_same _ _ 1 _ _ (.int .i64 (sR L)) (heap_setCell_same _ _ 0 _ _ (.int .i64 (sG L)) F)));have bc:Hid _:=a5;have a9:Hid _:=fT y.out t6 (.int .i64 (sG L)) (.int .i64 (sR L)) (.int .i64 (sU L)) (.int .i64 (sF L));have t:Hid _:=am;clear E F ac p a5 u y am I B H q R;unfold aG;go_wp2;go_roundw
     case rel=>
      refine⟨j+1,uA,by go_num,a9.out,?_⟩;rw[t.out,t.out,t.out,t.out];exact bc.out
     case measure=>simp[intOf];omega
    ·have m:Hid _:=B.out (v6 uA);have V:Hid _:=F;clear E F ac p u I B H q R;unfold aG;go_wp2;go_roundw
     case rel=>
      refine⟨j+1,uA,by go_num,y.out,?_⟩;rw[m.out,m.out,m.out,m.out];exact V.out
     case measure=>simp[intOf];omega
   ·have m:Hid _:=B.out (v7 q);have p:=(B2 s.1.size s).alloc t6 (.cells #[.int .i64 0,.int .i64 0,.int .i64 0,.int .i64 0] 36);have V:Hid _:=(p.block c.1.size uA).trans E;have y:Hid (Below c.1.size c _):=u.out.trans (p.mono uA);clear E p u I B H q;unfold aG;go_wp2;go_roundw
    case rel=>
     refine⟨j+1,uA,by go_num,y.out,?_⟩;rw[m.out,m.out,m.out,m.out];exact V.out
    case measure=>simp[intOf];omega
  ·have e:j=2:=uA;subst e;have a7:=a6.out;have a1:¬c.1.size=w.1.size+1:=uA;have u3:=(l.block (w.1.size+1) uA).trans u2;clear a7;obtain⟨⟨l0,W,X,Y⟩,bl,f1,bm,bn⟩:=ep u3;obtain⟨⟨bd,bf,bg,bk⟩,_⟩:=ep hx;have af:=ae.out.trans (l.mono ae.out.size);have z:Hid _:=fT af (show w.1.size<=w.1.size+1 by omega) (.int .i64 (btN sG K 2)) (.int .i64 (btN sR K 2)) (.int .i64 (btN sU K 2)) (.int .i64 (btN sF K 2));clear u3 hx l Z ab O af;go_wp2_with fail;go_region;go_wp2;refine B3 (v:= .tuple #[aG (btN sG K 2) (btN sR K 2) (btN sU K 2) (btN sF K 2),.bool (decide ((0:Int)<btN sG K 2))]) (by simp[results,results42,go_sem,aG,l0,W,X,Y]) rfl ?_;rw[U.out,SB.out];exact⟨rfl,z.out.drew⟩
