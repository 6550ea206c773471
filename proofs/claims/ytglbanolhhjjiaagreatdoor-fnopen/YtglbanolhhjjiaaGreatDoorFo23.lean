import Derived.Test.YtglbanolhhjjiaaGreatDoorFo16
import Derived.Test.YtglbanolhhjjiaaGreatDoorFo8
namespace Go.Proofs.YtglbanolhhjjiaaGreatDoor
open Go.Proofs.Tryz
open Go.RowKit Go.Maps
set_option linter.unusedVariables false
set_option maxRecDepth 100000
set_option maxHeartbeats 32000000
noncomputable def dZ(K:DK):Int:= @ite _ (saB K 0=true/\(saB K 1=false\/saN sG K 1<saN sG K 0)) (Classical.propDecidable _) 0 1
noncomputable def bsB(K:DK):Bool:=match aR K with|true=>saB K (dZ K)|false=>false
noncomputable def bsN(f:List Int->Int)(K:DK):Int:=match aR K with|true=>saN f K (dZ K)|false=>0
noncomputable def bsV(K:DK):Value:=aG (bsN sG K) (bsN sR K) (bsN sU K) (bsN sF K)
theorem wO{K}(a:dOk K):bsV K=saV K (dZ K):=by unfold bsV bsN;rw[fj a];rfl
theorem wT{K}(a:¬dOk K):bsV K=aG 0 0 0 0:=by unfold bsV bsN;rw[gk a]
theorem wU{K}(a:saB K 0=true/\(saB K 1=false\/saN sG K 1<saN sG K 0)):dZ K=0:=by unfold dZ;rw[BC a]
theorem rx{K}(a:¬(saB K 0=true/\(saB K 1=false\/saN sG K 1<saN sG K 0))):dZ K=1:=by unfold dZ;rw[BX a]
theorem EA(d K w)(bc:RDisk w d K):
 Calls prog 37 #[av d K] w fun e w'=>e= .returned (.tuple #[bsV K,.bool (bsB K)])/\Below w.1.size w w':=by
 have T:=fK w (.cells #[.slice d.sa K.n d.sc,.slice d.pa K.m d.pc] 35) (.cells #[.int .i64 0,.int .i64 0,.int .i64 0,.int .i64 0] 36);have aA:=DI w (.cells #[.slice d.sa K.n d.sc,.slice d.pa K.m d.pc] 35);have W:=DI (w.alloc (.cells #[.slice d.sa K.n d.sc,.slice d.pa K.m d.pc] 35)) (.cells #[.int .i64 0,.int .i64 0,.int .i64 0,.int .i64 0] 36);have bx:((w.alloc (.cells #[.slice d.sa K.n d.sc,.slice d.pa K.m d.pc] 35)).alloc (.cells #[.int .i64 0,.int .i64 0,.int .i64 0,.int .i64 0] 36)).1.size=w.1.size+1+1:=by simp
 have H:((w.alloc (.cells #[.slice d.sa K.n d.sc,.slice d.pa K.m d.pc] 35)).alloc (.cells #[.int .i64 0,.int .i64 0,.int .i64 0,.int .i64 0] 36)).heap[w.1.size]?=some (.cells #[.slice d.sa K.n d.sc,.slice d.pa K.m d.pc] 35 (0,0)):=by rw[Below.heap_alloc _ _ _ uB];exact aA
 simp only[World.size_alloc]at W;have Y:Hid _:=bc.below T;have a1:Hid _:=T;clear aA T;unfold av;go_enter func37,ntmps37;go_wp2_with fail;generalize Z:(w.alloc (.cells #[.slice d.sa K.n d.sc,.slice d.pa K.m d.pc] 35)).alloc (.cells #[.int .i64 0,.int .i64 0,.int .i64 0,.int .i64 0] 36)=bg at*;clear Z;refine(jt d K _ Y.out).mono ?_;rintro e w1 ⟨rfl,i⟩;have u1:=(i.block (w.1.size+1) t7).trans W;have u0:=(i.block w.1.size t7).trans H;have C:Hid (Below w.1.size w w1):=a1.out.trans (i.mono t7);have aX:Hid (w.1.size+1+1<=w1.1.size):=by have:=i.size;show w.1.size+1+1<=w1.1.size;omega
 have M:Hid _:=Y.out.below i;clear i H W;by_cases a:dOk K
 case neg=>
  obtain⟨⟨l0,q,r,s⟩,a6,f1,a7,a8⟩:=ep u1;have a2:Hid _:=wT a;have SB:Hid (bsB K=false):=by show bsB K=false;unfold bsB;rw[gk a]
  have X:Hid _:=fT C.out (show w.1.size<=w.1.size+1 by omega) (.int .i64 0) (.int .i64 0) (.int .i64 0) (.int .i64 0);rw[gk a];clear u0 u1 a;go_wp2;refine BB (v:= .tuple #[aG 0 0 0 0,.bool false]) (by simp[results,results37,go_sem,aG,l0,q,r,s]) rfl ?_;rw[a2.out,SB.out];exact⟨rfl,X.out⟩
 rw[fj a];have k0:w1.cell? ⟨w.1.size,0,none⟩=some (.slice d.sa K.n d.sc):=by rw[CV w1 _ 0 _ _ _ u0];rfl
 have a9:w1.cell? ⟨w.1.size,1,none⟩=some (.slice d.pa K.m d.pc):=by rw[CV w1 _ 1 _ _ _ u0];rfl
 have m:Hid _:=a;go_wp2_with fail;refine(qn d K w1 M.out a).mono ?_;rintro e f ⟨g,c,rfl,E,af⟩;have v2:=qN bc a af;have aB:=DI f (.cells #[.slice (some ⟨g,0,none⟩) K.n c] 136);have U:=(Bn f.1.size f).alloc t1 (.cells #[.slice (some ⟨g,0,none⟩) K.n c] 136);have F:=E.trans (U.mono E.size);have ak:=(F.block (w.1.size+1) (by have:=aX.out;omega)).trans u1;have Q:=v2.below U;have N:=M.out.below F;have I:Hid (Below w.1.size w _):=C.out.trans (F.mono C.out.size);have ba:Hid (w.1.size+1+1<=f.1.size):=u9 aX.out E.size;have bd:(f.alloc (.cells #[.slice (some ⟨g,0,none⟩) K.n c] 136)).1.size=f.1.size+1:=by simp
 clear u0 u1 k0 a9 E af v2 U F M C a;go_wp2_with fail;generalize ab:f.alloc (.cells #[.slice (some ⟨g,0,none⟩) K.n c] 136)=a3 at*;clear ab;refine(vv d K 0 g c a3 N m.out Q).mono ?_;rintro e h ⟨rfl,x⟩;have an:=(x.block f.1.size t7).trans aB;have ae:h.cell? ⟨f.1.size,0,none⟩=some (.slice (some ⟨g,0,none⟩) K.n c):=by rw[CV h _ 0 _ _ _ an];rfl
 have aS:=DI h (.cells #[.int .i64 (saN sG K 0),.int .i64 (saN sR K 0),.int .i64 (saN sU K 0),.int .i64 (saN sF K 0)] 36);have V:=(Bn h.1.size h).alloc t1 (.cells #[.int .i64 (saN sG K 0),.int .i64 (saN sR K 0),.int .i64 (saN sU K 0),.int .i64 (saN sF K 0)] 36);have bb:=x.size;rw[<-V.cell (p:=⟨f.1.size,0,none⟩) (show f.1.size<h.1.size by omega)]at ae;have y:=x.trans (V.mono x.size);have bf:(h.alloc (.cells #[.int .i64 (saN sG K 0),.int .i64 (saN sR K 0),.int .i64 (saN sU K 0),.int .i64 (saN sF K 0)] 36)).1.size=h.1.size+1:=by simp
 unfold saV aG;clear an V;go_wp2_with fail;generalize ac:h.alloc (.cells #[.int .i64 (saN sG K 0),.int .i64 (saN sR K 0),.int .i64 (saN sU K 0),.int .i64 (saN sF K 0)] 36)=a4 at*;clear ac;refine(vv d K 1 g c a4 (N.below y) m.out (Q.below y)).mono ?_;rintro e G ⟨rfl,R⟩;have aT:=DI G (.cells #[.int .i64 (saN sG K 1),.int .i64 (saN sR K 1),.int .i64 (saN sU K 1),.int .i64 (saN sF K 1)] 36);have ag:=(Bn G.1.size G).alloc t1 (.cells #[.int .i64 (saN sG K 1),.int .i64 (saN sR K 1),.int .i64 (saN sU K 1),.int .i64 (saN sF K 1)] 36);have z:=R.trans (ag.mono R.size);have u:=y.trans (z.mono y.size);have am:=(u.block (w.1.size+1) (by have:=ba.out;omega)).trans ak;have ap:=(z.block h.1.size t7).trans aS;have a0:Hid (Below w.1.size w _):=I.out.trans (u.mono I.out.size);unfold saV aG;clear ae ak aB aS x y R z u ag N Q I;have B:Hid (bsV K=saV K (dZ K)):=wO m.out;have A:Hid (bsB K=saB K (dZ K)):=by show bsB K=saB K (dZ K);unfold bsB;rw[fj m.out]
 have J:Hid (saV K 0=aG (saN sG K 0) (saN sR K 0) (saN sU K 0) (saN sF K 0)):=rfl;have L:Hid (saV K 1=aG (saN sG K 1) (saN sR K 1) (saN sU K 1) (saN sF K 1)):=rfl;have O:Hid (saB K 0=true/\(saB K 1=false\/saN sG K 1<saN sG K 0)->dZ K=0):=wU;have P:Hid (¬(saB K 0=true/\(saB K 1=false\/saN sG K 1<saN sG K 0))->dZ K=1):=rx;go_upto_region 6 with fail
 generalize ad:G.alloc (.cells #[.int .i64 (saN sG K 1),.int .i64 (saN sR K 1),.int .i64 (saN sU K 1),.int .i64 (saN sF K 1)] 36)=a5 at*;clear ad;obtain⟨⟨l0,q,r,s⟩,a6,f1,a7,a8⟩:=ep am;obtain⟨⟨bk,bl,bm,bn⟩,_⟩:=ep ap;obtain⟨⟨br,bs,bu,bv⟩,_⟩:=ep aT;clear am ap aT;have D:Hid (∀v0 v1 v2 v3,Below w.1.size w ((((a5.setCell ⟨w.1.size+1,0,none⟩ v0).setCell ⟨w.1.size+1,1,none⟩ v1).setCell ⟨w.1.size+1,2,none⟩ v2).setCell ⟨w.1.size+1,3,none⟩ v3)):=fun v0 v1 v2 v3=>fT a0.out (show w.1.size<=w.1.size+1 by omega) v0 v1 v2 v3;by_cases l:saB K 0=true/\(saB K 1=false\/saN sG K 1<saN sG K 0)
 ·have b:=O.out l;have t:Hid (bsV K=aG (saN sG K 0) (saN sR K 0) (saN sU K 0) (saN sF K 0)):=by show bsV K= _;rw[B.out,b,J.out]
  have n:Hid (bsB K=true):=by show bsB K= _;rw[A.out,b];exact l.1
  obtain⟨o,j⟩:=l;clear b B A O P J L;cases k:saB K 1 with
  |false=>
   rw[o];clear j k;go_wp2;refine BB (v:= .tuple #[aG (saN sG K 0) (saN sR K 0) (saN sU K 0) (saN sF K 0),.bool true]) (by simp[results,results37,go_sem,aG,l0,q,r,s]) rfl ?_;rw[t.out,n.out];exact⟨rfl,D.out _ _ _ _⟩
  |true=>
   rw[o];have S:saN sG K 1<saN sG K 0:=by
    rcases j with j|j
    ·rw[k]at j;cases j
    ·exact j
   clear j k;go_wp2;refine BB (v:= .tuple #[aG (saN sG K 0) (saN sR K 0) (saN sU K 0) (saN sF K 0),.bool true]) (by simp[results,results37,go_sem,aG,l0,q,r,s]) rfl ?_;rw[t.out,n.out];exact⟨rfl,D.out _ _ _ _⟩
 ·have b:=P.out l;have t:Hid (bsV K=aG (saN sG K 1) (saN sR K 1) (saN sU K 1) (saN sF K 1)):=by show bsV K= _;rw[B.out,b,L.out]
  have n:Hid (bsB K=saB K 1):=by show bsB K= _;rw[A.out,b]
  clear b B A O P J L;cases o:saB K 0 with
  |false=>
   clear l;generalize saB K 1=i at*;go_wp2;refine BB (v:= .tuple #[aG (saN sG K 1) (saN sR K 1) (saN sU K 1) (saN sF K 1),.bool i]) (by simp[results,results37,go_sem,aG,l0,q,r,s]) rfl ?_;rw[t.out,n.out];exact⟨rfl,D.out _ _ _ _⟩
  |true=>
   have k:saB K 1=true:=by
    cases k:saB K 1 with
    |true=>rfl
    |false=>exact absurd ⟨o,u5 k⟩ l
   have S:¬saN sG K 1<saN sG K 0:=fun S=>l ⟨o,u4 S⟩;rw[k]at n ⊢;clear l o k;go_wp2;refine BB (v:= .tuple #[aG (saN sG K 1) (saN sR K 1) (saN sU K 1) (saN sF K 1),.bool true]) (by simp[results,results37,go_sem,aG,l0,q,r,s]) rfl ?_;rw[t.out,n.out];exact⟨rfl,D.out _ _ _ _⟩
noncomputable def btN(f:List Int->Int)(K:DK):Nat->Int
 |0=>0
 |1=>saN f K 0
 |_=>saN f K (dZ K)
theorem mC{K t}(a:saP K t):1<=sG (vL K t)/\sG (vL K t)%2=t:=⟨(qQ a.2.2.2.2.1).1,a.2.2.2.2.2.1⟩
theorem wV{K t}(b:saB K t=true):saP K t:=by
 by_cases a:saP K t
 ·exact a
 ·rw[mo a]at b;cases b
theorem EC{K}{j:Nat}(k:j<2)(c:saP K (j:Int))(e:btN sG K j<sG (vL K (j:Int)))(f):btN f K (j+1)=f (vL K (j:Int)):=by
 rcases w9 j 1 with h|h
 ·obtain rfl:j=0:=t7;exact ik c f
 ·obtain rfl:j=1:=t7;have d:dZ K=1:=rx (fun⟨i,a⟩=>by
   have b:saP K 1:=c;rcases a with a|a
   ·rw[nS b]at a;cases a
   ·rw[ik b]at a;have g:saN sG K 0<sG (vL K 1):=e;omega)
  show saN f K (dZ K)= _;rw[d];exact ik c f
theorem EE{K}{j:Nat}(n:j<2)(b:¬saP K (j:Int)\/¬btN sG K j<sG (vL K (j:Int)))(f):btN f K (j+1)=btN f K j:=by
 rcases w9 j 1 with h1|h1
 ·obtain rfl:j=0:=t7;show saN f K 0=0;refine iV (fun a=> ?_) f;rcases b with b|b
  ·exact b a
  ·have g:=a;have:=(mC g).1;have c:¬(0:Int)<sG (vL K 0):=b;omega
 ·obtain rfl:j=1:=t7;show saN f K (dZ K)=saN f K 0;by_cases d:saB K 0=true
  ·have e:=wU ⟨d,by
    by_cases a:saP K 1
    ·right;rcases b with b|b
     ·exact absurd a b
     ·have c:¬saN sG K 0<sG (vL K 1):=b;have i:=wV d;have l:=mC i;have m:=mC a;rw[ik i]at c ⊢;rw[ik a];omega
    ·exact u5 (mo a)⟩
   rw[e]
  ·have e:=rx (fun k=>d k.1);have h:¬saP K 0:=fun a=>d (nS a);rw[e,iV h];refine iV (fun a=> ?_) f;rcases b with b|b
   ·exact b a
   ·have c:¬saN sG K 0<sG (vL K 1):=b;rw[iV h]at c;have:=(mC a).1;omega
theorem EG(K):decide ((0:Int)<btN sG K 2)=saB K (dZ K):=by
 show decide ((0:Int)<saN sG K (dZ K))= _;cases b:saB K (dZ K)with
 |true=>
  have a:=wV b;rw[ik a];exact B2 (by have:=(mC a).1;omega)
 |false=>
  have:saN sG K (dZ K)=0:=by unfold saN;rw[b]
  rw[this];rfl
theorem EH(an ap d K w)(bY:RDisk w d K)(aA:Errs w an ap):
 Calls prog 42 #[av d K] w fun e w'=>e= .returned (.tuple #[bsV K,.bool (bsB K)])/\Below w.1.size w w':=by
 have J:=fK w (.cells #[.slice d.sa K.n d.sc,.slice d.pa K.m d.pc] 35) (.cells #[.int .i64 0,.int .i64 0,.int .i64 0,.int .i64 0] 36);have F:=DI (w.alloc (.cells #[.slice d.sa K.n d.sc,.slice d.pa K.m d.pc] 35)) (.cells #[.int .i64 0,.int .i64 0,.int .i64 0,.int .i64 0] 36);have b0:((w.alloc (.cells #[.slice d.sa K.n d.sc,.slice d.pa K.m d.pc] 35)).alloc (.cells #[.int .i64 0,.int .i64 0,.int .i64 0,.int .i64 0] 36)).1.size=w.1.size+1+1:=by simp
 simp only[World.size_alloc]at F;have z:Hid _:=bY.below J;have af:Hid _:=aA.below J;have S:Hid _:=J;clear J aA;by_cases h:dOk K
 case neg=>
  have R:=uC d K _ z.out h;have T:Hid _:=wT h;have SB:Hid (bsB K=false):=by show bsB K=false;unfold bsB;rw[gk h]
  unfold av at R ⊢;clear h;go_enter func42,ntmps42;go_wp2_with fail;generalize C:(w.alloc (.cells #[.slice d.sa K.n d.sc,.slice d.pa K.m d.pc] 35)).alloc (.cells #[.int .i64 0,.int .i64 0,.int .i64 0,.int .i64 0] 36)=am at*;clear C;refine R.mono ?_;rintro e w1 ⟨rfl,m⟩;have u1:=(m.block (w.1.size+1) t7).trans F;have ac:Hid (Below w.1.size w w1):=S.out.trans (m.mono t7);have aX:w.1.size+1<w1.1.size:=by have:=m.size;omega
  have q:=fun o=>(Bn w1.1.size w1).alloc t1 o;have a2:=fun o=>ep (((q o).block (w.1.size+1) aX).trans u1);have O:=fT (ac.out.trans ((q (.cells #[.slice none 0 0,.slice none 0 0,.map none] 122)).mono ac.out.size)) (show w.1.size<=w.1.size+1 by omega) (.int .i64 0) (.int .i64 0) (.int .i64 0) (.int .i64 0);obtain⟨⟨l0,V,W,X⟩,bl,f1,bm,bn⟩:=a2 (.cells #[.slice none 0 0,.slice none 0 0,.map none] 122);clear R m u1 F q a2;unfold rZ;go_upto_region 2 with fail
  generalize aB:w1.alloc (.cells #[.slice none 0 0,.slice none 0 0,.map none] 122)=bE at*;clear aB;have y:Hid _:=O;clear O;go_wp2;refine BB (v:= .tuple #[aG 0 0 0 0,.bool false]) (by simp[results,results42,go_sem,aG,l0,V,W,X]) rfl ?_;rw[T.out,SB.out];exact⟨rfl,y.out⟩
 have T:Hid (bsV K=aG (btN sG K 2) (btN sR K 2) (btN sU K 2) (btN sF K 2)):=wO h;have SB:Hid (bsB K=decide ((0:Int)<btN sG K 2)):=by show bsB K= _;rw[EG];unfold bsB;rw[fj h]
 unfold av;go_enter func42,ntmps42;go_wp2_with fail;generalize C:(w.alloc (.cells #[.slice d.sa K.n d.sc,.slice d.pa K.m d.pc] 35)).alloc (.cells #[.int .i64 0,.int .i64 0,.int .i64 0,.int .i64 0] 36)=am at*;clear C;refine(uE d.sa d.pa d.sc d.pc d.sA d.pA d.sN d.sC d.pN d.pC K am z.out.safe z.out.pend h).mono ?_;rintro e w1 ⟨g,rfl,m,a3⟩;have q:=(Bn w1.1.size w1).alloc t1 (.cells #[.slice d.sa K.n d.sc,.slice d.pa K.m d.pc,.map (some g)] 122);have bz:=DI w1 (.cells #[.slice d.sa K.n d.sc,.slice d.pa K.m d.pc,.map (some g)] 122);have a6:Hid ((w1.alloc (.cells #[.slice d.sa K.n d.sc,.slice d.pa K.m d.pc,.map (some g)] 122)).1.size=w1.1.size+1):=World.size_alloc w1 _;have B:=m.trans (q.mono m.size);have ba:Hid (World.ownsMap (w1.alloc (.cells #[.slice d.sa K.n d.sc,.slice d.pa K.m d.pc,.map (some g)] 122)) prog 3 (plainElem prog 3) g K.m (dz K.At K.m)):=mr a3 q;have bb:Hid _:=z.out.below B;have a8:Hid _:=af.out.below B;have ad:Hid (Below w.1.size w _):=S.out.trans (B.mono t7);have bB:=m.size;have bx:=(B.block (w.1.size+1) t7).trans F;clear m a3 q B F z af S;go_upto_region 4 with fail
 generalize aS:w1.alloc (.cells #[.slice d.sa K.n d.sc,.slice d.pa K.m d.pc,.map (some g)] 122)=c at*;clear aS;have Z:=DI c (.cells #[.int .i64 0,.int .i64 0,.int .i64 0,.int .i64 0] 36);have Y:=(Bn c.1.size c).alloc t1 (.cells #[.int .i64 0,.int .i64 0,.int .i64 0,.int .i64 0] 36);go_wp2_with fail;go_loopw [7,8,9,18] (fun _ _ _ i wr=> ∃j:Nat,j<=2/\i= .int .i64 (j:Nat)/\Below c.1.size c wr/\wr.heap[c.1.size]?=some (.cells #[.int .i64 (btN sG K j),.int .i64 (btN sR K j),.int .i64 (btN sU K j),.int .i64 (btN sF K j)] 36 (0,0))) (fun _ _ _ i _=>2-(intOf i).toNat)
 case atStart=>exact⟨0,t7,rfl,Y,Z⟩
 case round=>
  obtain⟨j,bZ,rfl,k,hx⟩:=hrel;have N:Hid _:=k;have bA:=k.size;have aT:=(vR.1 hx).1;by_cases P:j<2
  ·have bs:(j:Int)<2:=t7;have M:=(k.block w1.1.size (by have:=a6.out;omega)).trans bz;have k0:wr.cell? ⟨w1.1.size,0,none⟩=some (.slice d.sa K.n d.sc):=by rw[CV wr _ 0 _ _ _ M];rfl
   have bu:wr.cell? ⟨w1.1.size,1,none⟩=some (.slice d.pa K.m d.pc):=by rw[CV wr _ 1 _ _ _ M];rfl
   have bv:wr.cell? ⟨w1.1.size,2,none⟩=some (.map (some g)):=by rw[CV wr _ 2 _ _ _ M];rfl
   have ag:=Dx an ap d K (j:Int) g wr (bb.out.below k) h (a8.out.below k) (mr ba.out k);have H:Hid (saP K (j:Int)->btN sG K j<sG (vL K (j:Int))->∀f,btN f K (j+1)=f (vL K (j:Int))):=fun a b f=>EC P a b f;have A:Hid ((¬saP K (j:Int)\/¬btN sG K j<sG (vL K (j:Int)))->∀f,btN f K (j+1)=btN f K j):=fun a f=>EE P a f;have G:Hid (saP K (j:Int)->saV K (j:Int)=aG (sG (vL K (j:Int))) (sR (vL K (j:Int))) (sU (vL K (j:Int))) (sF (vL K (j:Int)))):=qR;clear k M Y Z;go_wp2_with fail;refine ag.mono ?_;rintro e r ⟨I,a1⟩;have D:=(I.block c.1.size aT).trans hx;have t:Hid (Below c.1.size c r):=N.out.trans (I.mono bA);have bC:=I.size;clear ag k0 bu bv I hx;rcases a1 with⟨p,rfl⟩|⟨p,x,rfl⟩
   ·rw[G.out p];generalize Q:vL K (j:Int)=L at*;have n:=(Bn r.1.size r).alloc t1 (.cells #[.int .i64 (sG L),.int .i64 (sR L),.int .i64 (sU L),.int .i64 (sF L)] 36);have ab:=DI r (.cells #[.int .i64 (sG L),.int .i64 (sR L),.int .i64 (sU L),.int .i64 (sF L)] 36);have E:=(n.block c.1.size t7).trans D;have u:Hid (Below c.1.size c _):=t.out.trans (n.mono t7);obtain⟨⟨bd,bf,bg,bk⟩,bF,bP,bR,bS⟩:=ep E;obtain⟨⟨e0,bT,bW,bX⟩,_⟩:=ep ab;have a0:¬r.1.size=c.1.size:=t7;by_cases br:btN sG K j<sG L
    ·have ak:=H.out p br;have a5:=heap_setCell_same _ _ 3 _ _ (.int .i64 (sF L)) (heap_setCell_same _ _ 2 _ _ (.int .i64 (sU L)) (heap_setCell_same _ _ 1 _ _ (.int .i64 (sR L)) (heap_setCell_same _ _ 0 _ _ (.int .i64 (sG L)) E)));have bc:Hid _:=a5;have a9:Hid _:=fT u.out t1 (.int .i64 (sG L)) (.int .i64 (sR L)) (.int .i64 (sU L)) (.int .i64 (sF L));have s:Hid _:=ak;clear D E ab n a5 t u ak H A G p Q;unfold aG;go_wp2;go_roundw
     case rel=>
      refine⟨j+1,t7,by go_num,a9.out,?_⟩;rw[s.out,s.out,s.out,s.out];exact bc.out
     case measure=>simp[intOf];omega
    ·have l:Hid _:=A.out (u4 t7);have U:Hid _:=E;clear D E ab n t H A G p Q;unfold aG;go_wp2;go_roundw
     case rel=>
      refine⟨j+1,t7,by go_num,u.out,?_⟩;rw[l.out,l.out,l.out,l.out];exact U.out
     case measure=>simp[intOf];omega
   ·have l:Hid _:=A.out (u5 p);have n:=(Bn r.1.size r).alloc t1 (.cells #[.int .i64 0,.int .i64 0,.int .i64 0,.int .i64 0] 36);have U:Hid _:=(n.block c.1.size t7).trans D;have u:Hid (Below c.1.size c _):=t.out.trans (n.mono t7);clear D n t H A G p;unfold aG;go_wp2;go_roundw
    case rel=>
     refine⟨j+1,t7,by go_num,u.out,?_⟩;rw[l.out,l.out,l.out,l.out];exact U.out
    case measure=>simp[intOf];omega
  ·have e:j=2:=t7;subst e;have a7:=a6.out;have a0:¬c.1.size=w.1.size+1:=t7;have a4:=(k.block (w.1.size+1) t7).trans bx;clear a7;obtain⟨⟨l0,V,W,X⟩,bl,f1,bm,bn⟩:=ep a4;obtain⟨⟨bd,bf,bg,bk⟩,_⟩:=ep hx;have ae:=ad.out.trans (k.mono ad.out.size);have y:Hid _:=fT ae (show w.1.size<=w.1.size+1 by omega) (.int .i64 (btN sG K 2)) (.int .i64 (btN sR K 2)) (.int .i64 (btN sU K 2)) (.int .i64 (btN sF K 2));clear a4 hx k Y Z N ae;go_wp2_with fail;go_region;go_wp2;refine BB (v:= .tuple #[aG (btN sG K 2) (btN sR K 2) (btN sU K 2) (btN sF K 2),.bool (decide ((0:Int)<btN sG K 2))]) (by simp[results,results42,go_sem,aG,l0,V,W,X]) rfl ?_;rw[T.out,SB.out];exact⟨rfl,y.out.drew⟩
