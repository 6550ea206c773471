import Derived.Test.YtglbanolhhjjiaaGreatDoorFo6
namespace Go.Proofs.YtglbanolhhjjiaaGreatDoor
open Go.Proofs.Tryz
open Go.RowKit
set_option linter.unusedVariables false
set_option maxRecDepth 100000
set_option maxHeartbeats 32000000
def fS(K:DK)(T:Nat):Nat->List Int
 |0=>[]
 |j+1=>fS K T j++gL K (4*T+j)
def pgL(K:DK)(T:Nat):List Int:=fS K T 4
theorem vq{K}(a:dOk K){T}(b:4*T+3<K.n):∀j,j<=4->(fS K T j).length=64*j
 |0,_=>rfl
 |j+1,c=>by rw[fS,u7,vq a b j t7,qo a t7];omega
theorem vr{w d K}(b:RDisk w d K){T}(a:4*T+3<K.n):∀j,j<=4->IsB (fS K T j)
 |0,_=>eX
 |j+1,c=>dC (vr b a j t7) (nA b (4*T+j) t7).byte
theorem Do{K}(a:dOk K){T}(b:4*T+3<K.n):(pgL K T).length=256:=vq a b 4 t1
theorem qL{w d K}(b:RDisk w d K){T}(a:4*T+3<K.n):IsB (pgL K T):=vr b a 4 t1
def eD(K:DK)(t:Int):Prop:=0<=t/\t< (K.n:Int)/4
theorem nR{K}{T:Nat}(a:eD K (T:Int)):4*T+3<K.n:=by unfold eD at a;omega
def VRow(w:World)(d:DV)(K:DK)(g:Nat):Prop:=g<w.1.size/\∀t,t<K.n->w.cell? ⟨g,t,none⟩=some (.slice (aP K.At d.pA d.sA K.m t) 64 (aP K.At d.pC d.sC K.m t))
theorem VRow.below{w w' d K g}(a:VRow w d K g)(b:Below w.1.size w w'):VRow w' d K g:=
 ⟨ws a.1 b.size,fun t c=>by rw[b.cell (p:=⟨g,t,none⟩) a.1];exact a.2 t c⟩
theorem Dp(d K)(T g c:Nat)(w)(ad:RDisk w d K)(l:dOk K)(N:VRow w d K g)(I:eD K (T:Int)):
 Calls prog 107 #[.agg #[.slice (some ⟨g,0,none⟩) K.n c],.int .i64 T] w fun e w'=> ∃a b,e= .returned (.tuple #[.int .i64 (gN T (pgL K T)),.slice a (dj T (pgL K T)).length b,.bool (gl T (pgL K T))])/\Below w.1.size w w'/\Own w.1.size w' a (dj T (pgL K T)).length b (dj T (pgL K T)):=by
 have aA:=l.1.2.1;have L:=nR I;obtain⟨ag,ak⟩:=I;have aT:(K.n:Int).tdiv 4=(K.n:Int)/4:=y6 t7;have u:=(Bn w.1.size w).alloc t1 (.cells #[.slice (some ⟨g,0,none⟩) K.n c] 136);have af:=DI w (.cells #[.slice (some ⟨g,0,none⟩) K.n c] 136);have R:(w.alloc (.cells #[.slice (some ⟨g,0,none⟩) K.n c] 136)).1.size=w.1.size+1:=by simp
 have W:Hid _:=N.below u;have E:Hid _:=ad.below u;have D:Hid (dOk K):=l;have V:Hid (IsB (pgL K T)):=qL ad L;have Y:Hid _:=u;have aB:¬(K.n:Int)/4<=(T:Int):=t7;have y:Own (w.1.size+1) ((w.alloc (.cells #[.slice (some ⟨g,0,none⟩) K.n c] 136)).alloc (.cells #[] 5)) (some ⟨w.1.size+1,0,none⟩) 0 0 []:=by
  have:=eI (w.alloc (.cells #[.slice (some ⟨g,0,none⟩) K.n c] 136)) [] 0 rfl t7 (w.1.size+1) uB;rw[R]at this;exact this
 have x:=(Bn (w.1.size+1) (w.alloc (.cells #[.slice (some ⟨g,0,none⟩) K.n c] 136))).alloc uB (.cells #[] 5);clear l ad N;go_enter func107,ntmps107;go_wp2_with fail;generalize J:w.alloc (.cells #[.slice (some ⟨g,0,none⟩) K.n c] 136)=r at*;clear J;go_loopw [7,8] (fun o i wr=> ∃(j:Nat)(a:Option Addr)(b:Nat),j<=4/\i= .int .i64 (j:Nat)/\o= .slice a (64*j) b/\Below (w.1.size+1) r wr/\Own (w.1.size+1) wr a (64*j) b (fS K T j)) (fun _ i _=>4-(intOf i).toNat)
 case atStart=>exact⟨0,_,0,t7,rfl,rfl,x,y⟩
 case round=>
  obtain⟨j,a,b,aS,rfl,rfl,f,n⟩:=hrel;have p:Hid _:=f;have C:Hid _:=n;by_cases am:j<4
  ·have k:Below r.1.size r wr:=by rw[R];exact f
   have k0:wr.cell? ⟨w.1.size,0,none⟩=some (.slice (some ⟨g,0,none⟩) K.n c):=by rw[CV wr _ 0 _ _ _ ((f.block w.1.size (xc _)).trans af)];rfl
   have h:=(VRow.below W.out k).2 (4*T+j) t7;have z:=nA (E.out.below k) (4*T+j) t7;rw[nC E.out D.out (4*T+j) t7]at z;have Z:Hid _:=z;generalize aP K.At d.pA d.sA K.m (4*T+j)=a0 at*;generalize aP K.At d.pC d.sC K.m (4*T+j)=ae at*;have U:Hid (fS K T (j+1)=fS K T j++gL K (4*T+j)):=rfl;obtain⟨m,M⟩:∃m:Nat,m=4*T+j:=⟨_,rfl⟩;rw[<-M]at h;have an:4*(T:Int)+(j:Int)=(m:Int):=t7;have ap:(m:Int)< (K.n:Int):=t7;have a1:=f.size;clear z f n k x y M;go_wp2_with (at_builtin;refine eu rfl _ _ rfl (w.1.size+1) a (64*j) b (fS K T j) rfl ?own _ 64 ae (gL K (4*T+j)) rfl ?bs ?len ?B ?_)
   case own=>exact C.out
   case bs=>exact Z.out
   case len=>omega
   case B=>omega
   intro ab ac aX O G _;have S:Hid _:=p.out.trans G;have X:Hid _:=O;clear O G k0 h;go_wp2;go_roundw
   case rel=>exact⟨j+1,ab,ac,t7,by go_num,rfl,S.out,by rw[U.out];exact X.out⟩
   case measure=>simp[intOf];omega
  ·have e:j=4:=t7;subst e;have q:Hid (Below w.1.size w wr):=Y.out.trans (f.mono t7);have F:=Be (T:Int) a 256 b (pgL K T) wr (Own.bs (B:=w.1.size+1) n V.out);clear f n x y p C;go_wp2_with fail;refine F.mono ?_;rintro e Q ⟨s,t,rfl,H,P⟩;have A:Hid (Below w.1.size w Q/\Own w.1.size Q s (dj T (pgL K T)).length t (dj T (pgL K T))):=⟨q.out.trans (H.mono q.out.size),P.mono q.out.size⟩;clear H P F;go_wp2;refine BB (v:= .tuple #[.int .i64 (gN T (pgL K T)),.slice s (dj T (pgL K T)).length t,.bool (gl T (pgL K T))]) (by simp[results,results107,go_sem]) rfl ?_;exact⟨s,t,rfl,A.out⟩
theorem Dq(K t g c w)(k:K.n<=4096)(f:¬eD K t):
 Calls prog 107 #[.agg #[.slice (some ⟨g,0,none⟩) K.n c],.int .i64 t] w fun e w'=> ∃b d,e= .returned (.tuple #[.int .i64 0,.slice b 0 d,.bool false])/\Below w.1.size w w'/\Own w.1.size w' b 0 d []:=by
 have n:(K.n:Int).tdiv 4=(K.n:Int)/4:=y6 t7;have j:(w.alloc (.cells #[.slice (some ⟨g,0,none⟩) K.n c] 136)).1.size=w.1.size+1:=by simp
 have i:Own w.1.size ((w.alloc (.cells #[.slice (some ⟨g,0,none⟩) K.n c] 136)).alloc (.cells #[] 5)) (some ⟨w.1.size+1,0,none⟩) 0 0 []:=by
  have:=eI (w.alloc (.cells #[.slice (some ⟨g,0,none⟩) K.n c] 136)) [] 0 rfl t7 w.1.size uB;rw[j]at this;exact this
 have h:=((Bn w.1.size w).alloc t1 (.cells #[.slice (some ⟨g,0,none⟩) K.n c] 136)).alloc uB (.cells #[] 5);have a:=t6 h i;clear h i j;by_cases l:t<0
 ·go_enter func107,ntmps107;go_wp2;refine BB (v:= .tuple #[.int .i64 0,.slice (some ⟨w.1.size+1,0,none⟩) 0 0,.bool false]) (by simp[results,results107,go_sem]) rfl ?_;exact⟨_,_,rfl,a.out⟩
 ·have m:(K.n:Int)/4<=t:=by unfold eD at f;omega
  clear f;go_enter func107,ntmps107;go_wp2;refine BB (v:= .tuple #[.int .i64 0,.slice (some ⟨w.1.size+1,0,none⟩) 0 0,.bool false]) (by simp[results,results107,go_sem]) rfl ?_;exact⟨_,_,rfl,a.out⟩
noncomputable def vIn(K:DK)(t:Int):Bool:= @decide (eD K t) (Classical.propDecidable _)
noncomputable def vK(K:DK)(t:Int):Int:=match vIn K t with|true=>gN t (pgL K t.toNat)|false=>0
noncomputable def vL(K:DK)(t:Int):List Int:=match vIn K t with|true=>dj t (pgL K t.toNat)|false=>[]
noncomputable def vB(K:DK)(t:Int):Bool:=match vIn K t with|true=>gl t (pgL K t.toNat)|false=>false
theorem ii{K t}(a:eD K t):vIn K t=true:= @decide_eq_true _ (Classical.propDecidable _) a
theorem ij{K t}(a:¬eD K t):vIn K t=false:= @decide_eq_false _ (Classical.propDecidable _) a
theorem qM(d K t g c w)(m:RDisk w d K)(b:dOk K)(l:VRow w d K g):
 Calls prog 107 #[.agg #[.slice (some ⟨g,0,none⟩) K.n c],.int .i64 t] w fun e w'=> ∃j k,e= .returned (.tuple #[.int .i64 (vK K t),.slice j (vL K t).length k,.bool (vB K t)])/\Below w.1.size w w'/\Own w.1.size w' j (vL K t).length k (vL K t):=by
 by_cases a:eD K t
 ·obtain⟨T,rfl⟩:=xb a.1;have f:vK K (T:Int)=gN T (pgL K T):=by unfold vK;rw[ii a];rfl
  have h:vL K (T:Int)=dj T (pgL K T):=by unfold vL;rw[ii a];rfl
  have i:vB K (T:Int)=gl T (pgL K T):=by unfold vB;rw[ii a];rfl
  rw[f,h,i];exact Dp d K T g c w m b l a
 ·have f:vK K t=0:=by unfold vK;rw[ij a]
  have h:vL K t=[]:=by unfold vL;rw[ij a]
  have i:vB K t=false:=by unfold vB;rw[ij a]
  rw[f,h,i];exact Dq K t g c w b.1.2.1 a
theorem ml{w d K}(c:RDisk w d K)(t):IsB (vL K t):=by
 by_cases a:eD K t
 ·have b:vL K t=dj t (pgL K t.toNat):=by unfold vL;rw[ii a]
  rw[b];refine Bc (qL c (nR (K:=K) (T:=t.toNat) ?_));rw[Int.toNat_of_nonneg a.1];exact a
 ·have b:vL K t=[]:=by unfold vL;rw[ij a]
  rw[b];exact eX
theorem mn{K}(c:dOk K)(t):(vL K t).length<=256:=by
 by_cases a:eD K t
 ·have b:vL K t=dj t (pgL K t.toNat):=by unfold vL;rw[ii a]
  rw[b];refine u9 (Bd _ _) (Nat.le_of_eq (Do c (nR (K:=K) (T:=t.toNat) ?_)));rw[Int.toNat_of_nonneg a.1];exact a
 ·have b:vL K t=[]:=by unfold vL;rw[ij a]
  rw[b];simp
theorem qN{w0 w d K B g c}(e:RDisk w0 d K)(a:dOk K)(o:w.ownsRow B 56 1 (.slice (some ⟨g,0,none⟩) K.n c) K.n (dT K.At d.pA d.sA d.pN d.sN d.pC d.sC K.n K.m)):VRow w d K g:=
 ⟨(BS o g rfl).2,fun t b=>by rw[C1 o t t7,jv _ _ _ _ _ _ _ _ _ _ b,nC e a t b]⟩
theorem qO{B w a n c l}(h:Own B w a n c l)(j:0<n):∃g,a=some ⟨g,0,none⟩/\B<=g:=by
 rcases h.2 with⟨e,i⟩|⟨g,d,f,e,b,_⟩
 ·omega
 ·cases e;exact⟨g,rfl,b⟩
theorem vt{a d b c}(e:a<1\/1000000000000<a):bG a d b c=false:=by
 unfold bG iK;have:decide (1<=a/\a<=1000000000000/\2<=b/\b<=1024)=false:=B1 t7;rw[this];rfl
theorem qQ{a c d b}(f:bG a c d b=true):1<=a/\a<=1000000000000:=by
 have:¬(a<1\/1000000000000<a):=fun e=>by rw[vt e]at f;cases f
 omega
def sG(L:List Int):Int:=low (L.take 7)
def sR(L:List Int):Int:=low (aJ L 8 4)
def sU(L:List Int):Int:=low (aJ L 12 4)
def sF(L:List Int):Int:=low (aJ L 16 4)
def sOk(L:List Int):Bool:=bG (sG L) (sR L) (sU L) (sF L)
def saP(K:DK)(t:Int):Prop:=vB K t=true/\vK K t=1/\(vL K t).length=20/\(vL K t).getD 7 0=0/\sOk (vL K t)=true/\sG (vL K t)%2=t/\sU (vL K t)<=(K.n:Int)/4
noncomputable def saB(K:DK)(t:Int):Bool:= @decide (saP K t) (Classical.propDecidable _)
noncomputable def saN(f:List Int->Int)(K:DK)(t:Int):Int:=match saB K t with|true=>f (vL K t)|false=>0
def aG(g r u f:Int):Value:= .agg #[.int .i64 g,.int .i64 r,.int .i64 u,.int .i64 f]
noncomputable def saV(K:DK)(t:Int):Value:=aG (saN sG K t) (saN sR K t) (saN sU K t) (saN sF K t)
theorem nS{K t}(a:saP K t):saB K t=true:= @decide_eq_true _ (Classical.propDecidable _) a
theorem mo{K t}(a:¬saP K t):saB K t=false:= @decide_eq_false _ (Classical.propDecidable _) a
theorem ik{K t}(a:saP K t)(f):saN f K t=f (vL K t):=by unfold saN;rw[nS a]
theorem iV{K t}(a:¬saP K t)(f):saN f K t=0:=by unfold saN;rw[mo a]
theorem qR{K t}(a:saP K t):saV K t=aG (sG (vL K t)) (sR (vL K t)) (sU (vL K t)) (sF (vL K t)):=by unfold saV;rw[ik a,ik a,ik a,ik a]
theorem vu{K t}(a:¬saP K t):saV K t=aG 0 0 0 0:=by unfold saV;rw[iV a,iV a,iV a,iV a]
theorem ep{w:World}{g v0 v1 v2 v3 t}(a:w.heap[g]?=some (.cells #[v0,v1,v2,v3] t (0,0))):
 (w.cell? ⟨g,0,none⟩=some v0/\w.cell? ⟨g,1,none⟩=some v1/\w.cell? ⟨g,2,none⟩=some v2/\w.cell? ⟨g,3,none⟩=some v3)/\(w.frozen? ⟨g,0,none⟩=false/\w.frozen? ⟨g,1,none⟩=false/\w.frozen? ⟨g,2,none⟩=false/\w.frozen? ⟨g,3,none⟩=false):=
 ⟨⟨by rw[CV w g 0 _ _ _ a];rfl,by rw[CV w g 1 _ _ _ a];rfl,by rw[CV w g 2 _ _ _ a];rfl,by rw[CV w g 3 _ _ _ a];rfl⟩,frozen_of_row w g 0 _ _ a,frozen_of_row w g 1 _ _ a,frozen_of_row w g 2 _ _ a,frozen_of_row w g 3 _ _ a⟩
theorem fT{B w w'}(b:Below B w w'){g}(a:B<=g)(v0 v1 v2 v3):Below B w ((((w'.setCell ⟨g,0,none⟩ v0).setCell ⟨g,1,none⟩ v1).setCell ⟨g,2,none⟩ v2).setCell ⟨g,3,none⟩ v3):=
 (((b.setCell (p:=⟨g,0,none⟩) a v0).setCell (p:=⟨g,1,none⟩) a v1).setCell (p:=⟨g,2,none⟩) a v2).setCell (p:=⟨g,3,none⟩) a v3
theorem vv(d K t g c w)(bx:RDisk w d K)(O:dOk K)(a4:VRow w d K g):
 Calls prog 77 #[.agg #[.slice (some ⟨g,0,none⟩) K.n c],.int .i64 t] w fun e w'=>e= .returned (.tuple #[saV K t,.bool (saB K t)])/\Below w.1.size w w':=by
 have bP:=O.1.2.1;have bW:(K.n:Int).tdiv 4=(K.n:Int)/4:=y6 t7;have T:=fK w (.cells #[.slice (some ⟨g,0,none⟩) K.n c] 136) (.cells #[.int .i64 0,.int .i64 0,.int .i64 0,.int .i64 0] 36);have ba:=DI w (.cells #[.slice (some ⟨g,0,none⟩) K.n c] 136);have ae:=DI (w.alloc (.cells #[.slice (some ⟨g,0,none⟩) K.n c] 136)) (.cells #[.int .i64 0,.int .i64 0,.int .i64 0,.int .i64 0] 36);have b0:((w.alloc (.cells #[.slice (some ⟨g,0,none⟩) K.n c] 136)).alloc (.cells #[.int .i64 0,.int .i64 0,.int .i64 0,.int .i64 0] 36)).1.size=w.1.size+1+1:=by simp
 have Z:((w.alloc (.cells #[.slice (some ⟨g,0,none⟩) K.n c] 136)).alloc (.cells #[.int .i64 0,.int .i64 0,.int .i64 0,.int .i64 0] 36)).heap[w.1.size]?=some (.cells #[.slice (some ⟨g,0,none⟩) K.n c] 136 (0,0)):=by rw[Below.heap_alloc _ _ _ uB];exact ba
 simp only[World.size_alloc]at ae;have aA:=qM d K t g c _ (bx.below T) O (a4.below T);have bc:Hid (IsB (vL K t)):=ml bx t;have bE:=mn O t;have bd:Hid _:=T;clear ba a4 T;go_enter func77,ntmps77;go_wp2_with fail;generalize aX:(w.alloc (.cells #[.slice (some ⟨g,0,none⟩) K.n c] 136)).alloc (.cells #[.int .i64 0,.int .i64 0,.int .i64 0,.int .i64 0] 36)=bR at*;clear aX;refine aA.mono ?_;rintro e w1 ⟨bS,h,rfl,J,D⟩;have u0:=(J.block w.1.size t7).trans Z;have u1:=(J.block (w.1.size+1) t7).trans ae;have ag:Hid (Below w.1.size w w1):=bd.out.trans (J.mono t7);obtain⟨⟨l0,q,r,s⟩,aB,f1,aS,aT⟩:=ep u1;have G:Hid (¬saP K t->Below w.1.size w ((((w1.setCell ⟨w.1.size+1,0,none⟩ (.int .i64 0)).setCell ⟨w.1.size+1,1,none⟩ (.int .i64 0)).setCell ⟨w.1.size+1,2,none⟩ (.int .i64 0)).setCell ⟨w.1.size+1,3,none⟩ (.int .i64 0))):=fun _=>fT ag.out t7 _ _ _ _;have bv:Hid (w.1.size+1+1<=w1.1.size):=by have:=J.size;show w.1.size+1+1<=w1.1.size;omega
 clear aA J Z ae;have i:Hid (saP K t↔vB K t=true/\vK K t=1/\(vL K t).length=20/\(vL K t).getD 7 0=0/\sOk (vL K t)=true/\sG (vL K t)%2=t/\sU (vL K t)<=(K.n:Int)/4):=Iff.rfl;have F:Hid (saP K t->saV K t=aG (sG (vL K t)) (sR (vL K t)) (sU (vL K t)) (sF (vL K t))):=qR;generalize vB K t=a9 at*;generalize vK K t=U at*;generalize vL K t=L at*;by_cases o:a9=true/\U=1/\L.length=20/\L.getD 7 0=0
 case neg=>
  have b:¬saP K t:=fun p=>o ⟨(i.out.1 p).1,(i.out.1 p).2.1,(i.out.1 p).2.2.1,(i.out.1 p).2.2.2.1⟩;have k:Hid (saV K t=aG 0 0 0 0):=vu b;have SB:Hid (saB K t=false):=mo b;have f:Hid _:=G.out b;clear b i F G u0 u1;cases a9 with
  |false=>
   clear o;go_wp2;refine BB (v:= .tuple #[aG 0 0 0 0,.bool false]) (by simp[results,results77,go_sem,aG,l0,q,r,s]) rfl ?_;rw[k.out,SB.out];exact⟨rfl,f.out⟩
  |true=>
  by_cases R:U=1
  case neg=>
   have a1:(U !=1)=true:=by simp[R]
   clear o;go_wp2;refine BB (v:= .tuple #[aG 0 0 0 0,.bool false]) (by simp[results,results77,go_sem,aG,l0,q,r,s]) rfl ?_;rw[k.out,SB.out];exact⟨rfl,f.out⟩
  by_cases M:L.length=20
  case neg=>
   have bC:((L.length:Int) !=20)=true:=by simp;omega
   have a1:(U !=1)=false:=by simp[R]
   generalize L.length=N at*;clear o;go_wp2;refine BB (v:= .tuple #[aG 0 0 0 0,.bool false]) (by simp[results,results77,go_sem,aG,l0,q,r,s]) rfl ?_;rw[k.out,SB.out];exact⟨rfl,f.out⟩
  have u:¬L.getD 7 0=0:=fun u=>o ⟨rfl,R,M,u⟩;obtain⟨z,rfl,a0⟩:=qO D t7;have X:w1.cell? ⟨z,7,none⟩=some (.int .u8 (L.getD 7 0)):=by rw[C1 D 7 t7,jN? _ 7 t7]
  have bz:(L.getD 7 0 !=0)=true:=by simpa using u
  generalize L.getD 7 0=bZ at*;generalize L.length=N at*;subst M;subst R;clear o D u;go_wp2;refine BB (v:= .tuple #[aG 0 0 0 0,.bool false]) (by simp[results,results77,go_sem,aG,l0,q,r,s]) rfl ?_;rw[k.out,SB.out];exact⟨rfl,f.out⟩
 obtain⟨rfl,rfl,M,u⟩:=o;obtain⟨z,rfl,a0⟩:=qO D t7;have X:w1.cell? ⟨z,7,none⟩=some (.int .u8 0):=by rw[C1 D 7 t7,jN? _ 7 t7,u]
 have x:=D.bs bc.out;rw[M]at x;have bg:20<=h:=x.le;have Y:h<=maxLen:=x.le';have ab:Hid (Bs w1 (some ⟨z,0,none⟩) 7 h (L.take 7)):=x.piece 0 7 t7 h t7 Y;have ac:Hid (Bs w1 (some ⟨z,8,none⟩) 4 (h-8) (aJ L 8 4)):=by have:=x.piece 8 4 t7 (h-8) t7 t7;rw[wg]at this;exact this
 have H:Hid (Bs w1 (some ⟨z,12,none⟩) 4 (h-12) (aJ L 12 4)):=by have:=x.piece 12 4 t7 (h-12) t7 t7;rw[wg]at this;exact this
 have I:Hid (Bs w1 (some ⟨z,16,none⟩) 4 (h-16) (aJ L 16 4)):=by have:=x.piece 16 4 t7 (h-16) t7 t7;rw[wg]at this;exact this
 have bA:¬h=8:=t7;have bk:¬h=12:=t7;have bl:¬h=16:=t7;have bB:(7:Int)<=(h:Int):=t7;have bm:(12:Int)<=(h:Int):=t7;have bn:(16:Int)<=(h:Int):=t7;have br:(20:Int)<=(h:Int):=t7;generalize bT:L.length=N at*;subst M;have bb:Hid (L.getD 7 0=0):=u;clear D x Y u;go_wp2_with fail;have an:Hid (∀a n c v,Bs v a n c (L.take 7)->n<=7->Calls prog 108 #[.slice a n c] v fun e w'=>e= .returned (.int .i64 (sG L))/\w'=v):=fun a n c v A C=>nG a n c (L.take 7) v A C;have ap:Hid (∀a n c v,Bs v a n c (aJ L 8 4)->n<=7->Calls prog 108 #[.slice a n c] v fun e w'=>e= .returned (.int .i64 (sR L))/\w'=v):=fun a n c v A C=>nG a n c (aJ L 8 4) v A C;have V:Hid (∀a n c v,Bs v a n c (aJ L 12 4)->n<=7->Calls prog 108 #[.slice a n c] v fun e w'=>e= .returned (.int .i64 (sU L))/\w'=v):=fun a n c v A C=>nG a n c (aJ L 12 4) v A C;have W:Hid (∀a n c v,Bs v a n c (aJ L 16 4)->n<=7->Calls prog 108 #[.slice a n c] v fun e w'=>e= .returned (.int .i64 (sF L))/\w'=v):=fun a n c v A C=>nG a n c (aJ L 16 4) v A C;have l:=Bn w1.1.size w1;go_cut [9] (fun bs bu=>bs= .pointer (some ⟨w1.1.size,0,none⟩)/\bu=(w1.alloc (.cells #[.int .i64 (sG L),.int .i64 (sR L),.int .i64 (sU L),.int .i64 (sF L)] 36)).drew)
 case first=>
  go_region_held3 (fun _=>True) (trivial)
   (first
   |(go_at_call 108;refine(an.out _ _ _ _ ?_ ?_).mono ?_;(first|exact ab.out.below l.drew|exact ab.out.below (l.drew.alloc l.drew.size _));omega;rintro e w' ⟨rfl,rfl⟩)
   |(go_at_call 108;refine(ap.out _ _ _ _ ?_ ?_).mono ?_;(first|exact ac.out.below l.drew|exact ac.out.below (l.drew.alloc l.drew.size _));omega;rintro e w' ⟨rfl,rfl⟩)
   |(go_at_call 108;refine(V.out _ _ _ _ ?_ ?_).mono ?_;(first|exact H.out.below l.drew|exact H.out.below (l.drew.alloc l.drew.size _));omega;rintro e w' ⟨rfl,rfl⟩)
   |(go_at_call 108;refine(W.out _ _ _ _ ?_ ?_).mono ?_;(first|exact I.out.below l.drew|exact I.out.below (l.drew.alloc l.drew.size _));omega;rintro e w' ⟨rfl,rfl⟩))
  all_goals
   go_wp2_with fail
   go_meet
   exact⟨rfl,rfl⟩
 case rest=>
 obtain⟨rfl,rfl⟩:=hcut;clear an ap V W ab ac H I X l0 q r s aB f1 aS aT;have af:(w1.alloc (.cells #[.int .i64 (sG L),.int .i64 (sR L),.int .i64 (sU L),.int .i64 (sF L)] 36)).drew.heap[w1.1.size]?=some (.cells #[.int .i64 (sG L),.int .i64 (sR L),.int .i64 (sU L),.int .i64 (sF L)] 36 (0,0)):=DI w1 (.cells #[.int .i64 (sG L),.int .i64 (sR L),.int .i64 (sU L),.int .i64 (sF L)] 36);have a8:=((Bn w1.1.size w1).alloc t1 (.cells #[.int .i64 (sG L),.int .i64 (sR L),.int .i64 (sU L),.int .i64 (sF L)] 36)).drew;have b1:(w1.alloc (.cells #[.int .i64 (sG L),.int .i64 (sR L),.int .i64 (sU L),.int .i64 (sF L)] 36)).drew.1.size=w1.1.size+1:=by simp
 generalize (w1.alloc (.cells #[.int .i64 (sG L),.int .i64 (sR L),.int .i64 (sU L),.int .i64 (sF L)] 36)).drew=bf at*;have b2:=bv.out;obtain⟨⟨k0,a5,a6,a7⟩,_⟩:=ep af;go_wp2_with fail;refine(mU (sG L) (sR L) (sU L) (sF L) bf).mono ?_;rintro e Q ⟨rfl,ad⟩;have E:Below w1.1.size w1 Q:=a8.trans (ad.mono t7);have ak:Hid (Below w.1.size w Q):=ag.out.trans (E.mono t7);clear k0 a5 a6 a7;obtain⟨⟨l0,q,r,s⟩,aB,f1,aS,aT⟩:=ep ((E.block (w.1.size+1) t7).trans u1);obtain⟨⟨k0,a5,a6,a7⟩,_⟩:=ep ((ad.block w1.1.size t7).trans af);have v0:Q.cell? ⟨w.1.size,0,none⟩=some (.slice (some ⟨g,0,none⟩) K.n c):=by rw[CV Q _ 0 _ _ _ ((E.block w.1.size t7).trans u0)];rfl
 clear u0 u1 af a8 ad E;have am:Hid (sOk L=bG (sG L) (sR L) (sU L) (sF L)):=rfl;have m:Hid (¬saP K t->saV K t=aG 0 0 0 0/\saB K t=false/\Below w.1.size w ((((Q.setCell ⟨w.1.size+1,0,none⟩ (.int .i64 0)).setCell ⟨w.1.size+1,1,none⟩ (.int .i64 0)).setCell ⟨w.1.size+1,2,none⟩ (.int .i64 0)).setCell ⟨w.1.size+1,3,none⟩ (.int .i64 0))):=fun b=>⟨vu b,mo b,fT ak.out t7 _ _ _ _⟩;cases P:bG (sG L) (sR L) (sU L) (sF L)with
 |false=>
  have b:¬saP K t:=fun p=>by have:=(i.out.1 p).2.2.2.2.1;rw[am.out,P]at this;cases this
  obtain⟨y,sb,j⟩:=m.out b;have k:Hid _:=y;have SB:Hid _:=sb;have f:Hid _:=j;clear y sb j b i F G m;go_wp2;refine BB (v:= .tuple #[aG 0 0 0 0,.bool false]) (by simp[results,results77,go_sem,aG,l0,q,r,s]) rfl ?_;rw[k.out,SB.out];exact⟨rfl,f.out⟩
 |true=>
  obtain⟨bX,bY⟩:=qQ P;have bF:(sG L).tmod 2=sG L%2:=z6 t7;by_cases B:sG L%2=t
  case neg=>
   have b:¬saP K t:=fun p=>B (i.out.1 p).2.2.2.2.2.1;have a2:(sG L%2 !=t)=true:=by simpa using B
   obtain⟨y,sb,j⟩:=m.out b;have k:Hid _:=y;have SB:Hid _:=sb;have f:Hid _:=j;clear y sb j b i F G m B;go_wp2;refine BB (v:= .tuple #[aG 0 0 0 0,.bool false]) (by simp[results,results77,go_sem,aG,l0,q,r,s]) rfl ?_;rw[k.out,SB.out];exact⟨rfl,f.out⟩
  have a2:(sG L%2 !=t)=false:=by simpa using B
  by_cases S:sU L<=(K.n:Int)/4
  case neg=>
   have b:¬saP K t:=fun p=>S (i.out.1 p).2.2.2.2.2.2;have a3:(K.n:Int)/4<sU L:=t7;obtain⟨y,sb,j⟩:=m.out b;have k:Hid _:=y;have SB:Hid _:=sb;have f:Hid _:=j;clear y sb j b i F G m B S;go_wp2;refine BB (v:= .tuple #[aG 0 0 0 0,.bool false]) (by simp[results,results77,go_sem,aG,l0,q,r,s]) rfl ?_;rw[k.out,SB.out];exact⟨rfl,f.out⟩
  have b:saP K t:=i.out.2 (by simp only[true_and];exact⟨bb.out,am.out.trans P,B,S⟩);have k:Hid _:=F.out b;have SB:Hid _:=nS b;have f:Hid _:=fT ak.out (show w.1.size<=w.1.size+1 by omega) (.int .i64 (sG L)) (.int .i64 (sR L)) (.int .i64 (sU L)) (.int .i64 (sF L));have a3:¬(K.n:Int)/4<sU L:=t7;clear b i F G m B S;go_wp2;refine BB (v:= .tuple #[aG (sG L) (sR L) (sU L) (sF L),.bool true]) (by simp[results,results77,go_sem,aG,l0,q,r,s]) rfl ?_;rw[k.out,SB.out];exact⟨rfl,f.out⟩
