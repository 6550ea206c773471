import Derived.Test.YtglbanolhhjjiaaGreatDoorFo6
namespace Go.Proofs.YtglbanolhhjjiaaGreatDoor
open Go.Proofs.Tryz
open Go.RowKit
set_option linter.unusedVariables false
set_option maxRecDepth 100000
set_option maxHeartbeats 32000000
def fS(K:DK)(T:Nat):Nat->List Int
 |0=>[]
 |j+1=>fS K T j++gL K (4*T+j)
def pgL(K:DK)(T:Nat):List Int:=fS K T 4
theorem vq{K}(a:dOk K){T}(b:4*T+3<K.n):∀j,j<=4->(fS K T j).length=64*j
 |0,_=>rfl
 |j+1,h=>by rw[fS,wb,vq a b j uA,qo a uA];omega
theorem vr{w d K}(h:RDisk w d K){T}(a:4*T+3<K.n):∀j,j<=4->IsB (fS K T j)
 |0,_=>eX
 |j+1,b=>dC (vr h a j uA) (nA h (4*T+j) uA).byte
theorem Do{K}(a:dOk K){T}(b:4*T+3<K.n):(pgL K T).length=256:=vq a b 4 t6
theorem qL{w d K}(h:RDisk w d K){T}(a:4*T+3<K.n):IsB (pgL K T):=vr h a 4 t6
def eD(K:DK)(t:Int):Prop:=0<=t/\t< (K.n:Int)/4
theorem nR{K}{T:Nat}(h:eD K (T:Int)):4*T+3<K.n:=by unfold eD at h;omega
def VRow(w:World)(d:DV)(K:DK)(g:Nat):Prop:=g<w.1.size/\∀t,t<K.n->w.cell? ⟨g,t,none⟩=some (.slice (aP K.At d.pA d.sA K.m t) 64 (aP K.At d.pC d.sC K.m t))
theorem VRow.below{w w' d K g}(h:VRow w d K g)(b:Below w.1.size w w'):VRow w' d K g:=
 ⟨wQ h.1 b.size,fun t a=>by rw[b.cell (p:=⟨g,t,none⟩) h.1];exact h.2 t a⟩
theorem Dp(d K)(T g c:Nat)(w)(h:RDisk w d K)(n:dOk K)(O:VRow w d K g)(J:eD K (T:Int)):
 Calls prog 107 #[.agg #[.slice (some ⟨g,0,none⟩) K.n c],.int .i64 T] w fun e w'=> ∃a b,e= .returned (.tuple #[.int .i64 (gN T (pgL K T)),.slice a (dj T (pgL K T)).length b,.bool (gl T (pgL K T))])/\Below w.1.size w w'/\Own w.1.size w' a (dj T (pgL K T)).length b (dj T (pgL K T)):=by
 have aA:=n.1.2.1;have M:=nR J;obtain⟨ag,ak⟩:=J;have aT:(K.n:Int).tdiv 4=(K.n:Int)/4:=z2 uA;have x:=(B2 w.1.size w).alloc t6 (.cells #[.slice (some ⟨g,0,none⟩) K.n c] 136);have af:=D6 w (.cells #[.slice (some ⟨g,0,none⟩) K.n c] 136);have S:(w.alloc (.cells #[.slice (some ⟨g,0,none⟩) K.n c] 136)).1.size=w.1.size+1:=by simp
 have X:Hid _:=O.below x;have F:Hid _:=h.below x;have E:Hid (dOk K):=n;have W:Hid (IsB (pgL K T)):=qL h M;have Z:Hid _:=x;have aB:¬(K.n:Int)/4<=(T:Int):=uA;have z:Own (w.1.size+1) ((w.alloc (.cells #[.slice (some ⟨g,0,none⟩) K.n c] 136)).alloc (.cells #[] 5)) (some ⟨w.1.size+1,0,none⟩) 0 0 []:=by
  have:=eI (w.alloc (.cells #[.slice (some ⟨g,0,none⟩) K.n c] 136)) [] 0 rfl uA (w.1.size+1) vo;rw[S]at this;exact this
 have y:=(B2 (w.1.size+1) (w.alloc (.cells #[.slice (some ⟨g,0,none⟩) K.n c] 136))).alloc vo (.cells #[] 5);clear n h O;go_enter func107,ntmps107;go_wp2_with fail;generalize L:w.alloc (.cells #[.slice (some ⟨g,0,none⟩) K.n c] 136)=s at*;clear L;go_loopw [7,8] (fun o i wr=> ∃(j:Nat)(a:Option Addr)(b:Nat),j<=4/\i= .int .i64 (j:Nat)/\o= .slice a (64*j) b/\Below (w.1.size+1) s wr/\Own (w.1.size+1) wr a (64*j) b (fS K T j)) (fun _ i _=>4-(intOf i).toNat)
 case atStart=>exact⟨0,_,0,uA,rfl,rfl,y,z⟩
 case round=>
  obtain⟨j,a,b,aS,rfl,rfl,f,p⟩:=hrel;have q:Hid _:=f;have D:Hid _:=p;by_cases am:j<4
  ·have l:Below s.1.size s wr:=by rw[S];exact f
   have k0:wr.cell? ⟨w.1.size,0,none⟩=some (.slice (some ⟨g,0,none⟩) K.n c):=by rw[DC wr _ 0 _ _ _ ((f.block w.1.size (x3 _)).trans af)];rfl
   have k:=(VRow.below X.out l).2 (4*T+j) uA;have A:=nA (F.out.below l) (4*T+j) uA;rw[nC F.out E.out (4*T+j) uA]at A;have ab:Hid _:=A;generalize aP K.At d.pA d.sA K.m (4*T+j)=a0 at*;generalize aP K.At d.pC d.sC K.m (4*T+j)=ae at*;have V:Hid (fS K T (j+1)=fS K T j++gL K (4*T+j)):=rfl;obtain⟨m,N⟩:∃m:Nat,m=4*T+j:=⟨_,rfl⟩;rw[<-N]at k;have an:4*(T:Int)+(j:Int)=(m:Int):=uA;have ap:(m:Int)< (K.n:Int):=uA;have a1:=f.size;clear A f p l y z N;go_wp2_with (at_builtin;refine eu rfl _ _ rfl (w.1.size+1) a (64*j) b (fS K T j) rfl ?own _ 64 ae (gL K (4*T+j)) rfl ?bs ?len ?B ?_)
   case own=>exact D.out
   case bs=>exact ab.out
   case len=>omega
   case B=>omega
   intro ac ad aX P H _;have U:Hid _:=q.out.trans H;have Y:Hid _:=P;clear P H k0 k;go_wp2;go_roundw
   case rel=>exact⟨j+1,ac,ad,uA,by go_num,rfl,U.out,by rw[V.out];exact Y.out⟩
   case measure=>simp[intOf];omega
  ·have e:j=4:=uA;subst e;have r:Hid (Below w.1.size w wr):=Z.out.trans (f.mono uA);have G:=Be (T:Int) a 256 b (pgL K T) wr (Own.bs (B:=w.1.size+1) p W.out);clear f p y z q D;go_wp2_with fail;refine G.mono ?_;rintro e R ⟨t,u,rfl,I,Q⟩;have C:Hid (Below w.1.size w R/\Own w.1.size R t (dj T (pgL K T)).length u (dj T (pgL K T))):=⟨r.out.trans (I.mono r.out.size),Q.mono r.out.size⟩;clear I Q G;go_wp2;refine B3 (v:= .tuple #[.int .i64 (gN T (pgL K T)),.slice t (dj T (pgL K T)).length u,.bool (gl T (pgL K T))]) (by simp[results,results107,go_sem]) rfl ?_;exact⟨t,u,rfl,C.out⟩
theorem Dq(K t g c w)(l:K.n<=4096)(f:¬eD K t):
 Calls prog 107 #[.agg #[.slice (some ⟨g,0,none⟩) K.n c],.int .i64 t] w fun e w'=> ∃b d,e= .returned (.tuple #[.int .i64 0,.slice b 0 d,.bool false])/\Below w.1.size w w'/\Own w.1.size w' b 0 d []:=by
 have o:(K.n:Int).tdiv 4=(K.n:Int)/4:=z2 uA;have k:(w.alloc (.cells #[.slice (some ⟨g,0,none⟩) K.n c] 136)).1.size=w.1.size+1:=by simp
 have j:Own w.1.size ((w.alloc (.cells #[.slice (some ⟨g,0,none⟩) K.n c] 136)).alloc (.cells #[] 5)) (some ⟨w.1.size+1,0,none⟩) 0 0 []:=by
  have:=eI (w.alloc (.cells #[.slice (some ⟨g,0,none⟩) K.n c] 136)) [] 0 rfl uA w.1.size vo;rw[k]at this;exact this
 have i:=((B2 w.1.size w).alloc t6 (.cells #[.slice (some ⟨g,0,none⟩) K.n c] 136)).alloc vo (.cells #[] 5);have a:=uv i j;clear i j k;by_cases m:t<0
 ·go_enter func107,ntmps107;go_wp2;refine B3 (v:= .tuple #[.int .i64 0,.slice (some ⟨w.1.size+1,0,none⟩) 0 0,.bool false]) (by simp[results,results107,go_sem]) rfl ?_;exact⟨_,_,rfl,a.out⟩
 ·have n:(K.n:Int)/4<=t:=by unfold eD at f;omega
  clear f;go_enter func107,ntmps107;go_wp2;refine B3 (v:= .tuple #[.int .i64 0,.slice (some ⟨w.1.size+1,0,none⟩) 0 0,.bool false]) (by simp[results,results107,go_sem]) rfl ?_;exact⟨_,_,rfl,a.out⟩
noncomputable def vIn(K:DK)(t:Int):Bool:= @decide (eD K t) (Classical.propDecidable _)
noncomputable def vK(K:DK)(t:Int):Int:=match vIn K t with|true=>gN t (pgL K t.toNat)|false=>0
noncomputable def vL(K:DK)(t:Int):List Int:=match vIn K t with|true=>dj t (pgL K t.toNat)|false=>[]
noncomputable def vB(K:DK)(t:Int):Bool:=match vIn K t with|true=>gl t (pgL K t.toNat)|false=>false
theorem ii{K t}(h:eD K t):vIn K t=true:= @decide_eq_true _ (Classical.propDecidable _) h
theorem ij{K t}(h:¬eD K t):vIn K t=false:= @decide_eq_false _ (Classical.propDecidable _) h
theorem qM(d K t g c w)(h:RDisk w d K)(b:dOk K)(m:VRow w d K g):
 Calls prog 107 #[.agg #[.slice (some ⟨g,0,none⟩) K.n c],.int .i64 t] w fun e w'=> ∃k l,e= .returned (.tuple #[.int .i64 (vK K t),.slice k (vL K t).length l,.bool (vB K t)])/\Below w.1.size w w'/\Own w.1.size w' k (vL K t).length l (vL K t):=by
 by_cases a:eD K t
 ·obtain⟨T,rfl⟩:=x2 a.1;have f:vK K (T:Int)=gN T (pgL K T):=by unfold vK;rw[ii a];rfl
  have i:vL K (T:Int)=dj T (pgL K T):=by unfold vL;rw[ii a];rfl
  have j:vB K (T:Int)=gl T (pgL K T):=by unfold vB;rw[ii a];rfl
  rw[f,i,j];exact Dp d K T g c w h b m a
 ·have f:vK K t=0:=by unfold vK;rw[ij a]
  have i:vL K t=[]:=by unfold vL;rw[ij a]
  have j:vB K t=false:=by unfold vB;rw[ij a]
  rw[f,i,j];exact Dq K t g c w b.1.2.1 a
theorem ml{w d K}(h:RDisk w d K)(t):IsB (vL K t):=by
 by_cases a:eD K t
 ·have b:vL K t=dj t (pgL K t.toNat):=by unfold vL;rw[ii a]
  rw[b];refine Bc (qL h (nR (K:=K) (T:=t.toNat) ?_));rw[Int.toNat_of_nonneg a.1];exact a
 ·have b:vL K t=[]:=by unfold vL;rw[ij a]
  rw[b];exact eX
theorem mn{K}(c:dOk K)(t):(vL K t).length<=256:=by
 by_cases a:eD K t
 ·have b:vL K t=dj t (pgL K t.toNat):=by unfold vL;rw[ii a]
  rw[b];refine wg (Bd _ _) (Nat.le_of_eq (Do c (nR (K:=K) (T:=t.toNat) ?_)));rw[Int.toNat_of_nonneg a.1];exact a
 ·have b:vL K t=[]:=by unfold vL;rw[ij a]
  rw[b];simp
theorem qN{w0 w d K B g c}(h:RDisk w0 d K)(a:dOk K)(o:w.ownsRow B 56 1 (.slice (some ⟨g,0,none⟩) K.n c) K.n (dT K.At d.pA d.sA d.pN d.sN d.pC d.sC K.n K.m)):VRow w d K g:=
 ⟨(Ct o g rfl).2,fun t b=>by rw[DP o t uA,jv _ _ _ _ _ _ _ _ _ _ b,nC h a t b]⟩
theorem qO{B w a n c l}(h:Own B w a n c l)(j:0<n):∃g,a=some ⟨g,0,none⟩/\B<=g:=by
 rcases h.2 with⟨e,i⟩|⟨g,d,f,e,b,_⟩
 ·omega
 ·cases e;exact⟨g,rfl,b⟩
theorem vt{a d b c}(h:a<1\/1000000000000<a):bG a d b c=false:=by
 unfold bG iK;have:decide (1<=a/\a<=1000000000000/\2<=b/\b<=1024)=false:=CP uA;rw[this];rfl
theorem qQ{a c d b}(h:bG a c d b=true):1<=a/\a<=1000000000000:=by
 have:¬(a<1\/1000000000000<a):=fun e=>by rw[vt e]at h;cases h
 omega
def sG(L:List Int):Int:=low (L.take 7)
def sR(L:List Int):Int:=low (aJ L 8 4)
def sU(L:List Int):Int:=low (aJ L 12 4)
def sF(L:List Int):Int:=low (aJ L 16 4)
def sOk(L:List Int):Bool:=bG (sG L) (sR L) (sU L) (sF L)
def saP(K:DK)(t:Int):Prop:=vB K t=true/\vK K t=1/\(vL K t).length=20/\(vL K t).getD 7 0=0/\sOk (vL K t)=true/\sG (vL K t)%2=t/\sU (vL K t)<=(K.n:Int)/4
noncomputable def saB(K:DK)(t:Int):Bool:= @decide (saP K t) (Classical.propDecidable _)
noncomputable def saN(f:List Int->Int)(K:DK)(t:Int):Int:=match saB K t with|true=>f (vL K t)|false=>0
def aG(g r u f:Int):Value:= .agg #[.int .i64 g,.int .i64 r,.int .i64 u,.int .i64 f]
noncomputable def saV(K:DK)(t:Int):Value:=aG (saN sG K t) (saN sR K t) (saN sU K t) (saN sF K t)
theorem nS{K t}(h:saP K t):saB K t=true:= @decide_eq_true _ (Classical.propDecidable _) h
theorem mo{K t}(h:¬saP K t):saB K t=false:= @decide_eq_false _ (Classical.propDecidable _) h
theorem ik{K t}(h:saP K t)(f):saN f K t=f (vL K t):=by unfold saN;rw[nS h]
theorem iV{K t}(h:¬saP K t)(f):saN f K t=0:=by unfold saN;rw[mo h]
theorem qR{K t}(h:saP K t):saV K t=aG (sG (vL K t)) (sR (vL K t)) (sU (vL K t)) (sF (vL K t)):=by unfold saV;rw[ik h,ik h,ik h,ik h]
theorem vu{K t}(h:¬saP K t):saV K t=aG 0 0 0 0:=by unfold saV;rw[iV h,iV h,iV h,iV h]
theorem ep{w:World}{g v0 v1 v2 v3 t}(h:w.heap[g]?=some (.cells #[v0,v1,v2,v3] t (0,0))):
 (w.cell? ⟨g,0,none⟩=some v0/\w.cell? ⟨g,1,none⟩=some v1/\w.cell? ⟨g,2,none⟩=some v2/\w.cell? ⟨g,3,none⟩=some v3)/\(w.frozen? ⟨g,0,none⟩=false/\w.frozen? ⟨g,1,none⟩=false/\w.frozen? ⟨g,2,none⟩=false/\w.frozen? ⟨g,3,none⟩=false):=
 ⟨⟨by rw[DC w g 0 _ _ _ h];rfl,by rw[DC w g 1 _ _ _ h];rfl,by rw[DC w g 2 _ _ _ h];rfl,by rw[DC w g 3 _ _ _ h];rfl⟩,frozen_of_row w g 0 _ _ h,frozen_of_row w g 1 _ _ h,frozen_of_row w g 2 _ _ h,frozen_of_row w g 3 _ _ h⟩
theorem fT{B w w'}(h:Below B w w'){g}(a:B<=g)(v0 v1 v2 v3):Below B w ((((w'.setCell ⟨g,0,none⟩ v0).setCell ⟨g,1,none⟩ v1).setCell ⟨g,2,none⟩ v2).setCell ⟨g,3,none⟩ v3):=
 (((h.setCell (p:=⟨g,0,none⟩) a v0).setCell (p:=⟨g,1,none⟩) a v1).setCell (p:=⟨g,2,none⟩) a v2).setCell (p:=⟨g,3,none⟩) a v3
theorem vv(d K t g c w)(h:RDisk w d K)(P:dOk K)(a5:VRow w d K g):
 Calls prog 77 #[.agg #[.slice (some ⟨g,0,none⟩) K.n c],.int .i64 t] w fun e w'=>e= .returned (.tuple #[saV K t,.bool (saB K t)])/\Below w.1.size w w':=by
 have bP:=P.1.2.1;have bW:(K.n:Int).tdiv 4=(K.n:Int)/4:=z2 uA;have U:=fK w (.cells #[.slice (some ⟨g,0,none⟩) K.n c] 136) (.cells #[.int .i64 0,.int .i64 0,.int .i64 0,.int .i64 0] 36);have bb:=D6 w (.cells #[.slice (some ⟨g,0,none⟩) K.n c] 136);have af:=D6 (w.alloc (.cells #[.slice (some ⟨g,0,none⟩) K.n c] 136)) (.cells #[.int .i64 0,.int .i64 0,.int .i64 0,.int .i64 0] 36);have b0:((w.alloc (.cells #[.slice (some ⟨g,0,none⟩) K.n c] 136)).alloc (.cells #[.int .i64 0,.int .i64 0,.int .i64 0,.int .i64 0] 36)).1.size=w.1.size+1+1:=by simp
 have ab:((w.alloc (.cells #[.slice (some ⟨g,0,none⟩) K.n c] 136)).alloc (.cells #[.int .i64 0,.int .i64 0,.int .i64 0,.int .i64 0] 36)).heap[w.1.size]?=some (.cells #[.slice (some ⟨g,0,none⟩) K.n c] 136 (0,0)):=by rw[Below.heap_alloc _ _ _ vo];exact bb
 simp only[World.size_alloc]at af;have aB:=qM d K t g c _ (h.below U) P (a5.below U);have bd:Hid (IsB (vL K t)):=ml h t;have bE:=mn P t;have bf:Hid _:=U;clear bb a5 U;go_enter func77,ntmps77;go_wp2_with fail;generalize a0:(w.alloc (.cells #[.slice (some ⟨g,0,none⟩) K.n c] 136)).alloc (.cells #[.int .i64 0,.int .i64 0,.int .i64 0,.int .i64 0] 36)=bR at*;clear a0;refine aB.mono ?_;rintro e w1 ⟨bS,i,rfl,M,E⟩;have u0:=(M.block w.1.size uA).trans ab;have u1:=(M.block (w.1.size+1) uA).trans af;have ak:Hid (Below w.1.size w w1):=bf.out.trans (M.mono uA);obtain⟨⟨l0,r,s,u⟩,aS,f1,aT,aX⟩:=ep u1;have H:Hid (¬saP K t->Below w.1.size w ((((w1.setCell ⟨w.1.size+1,0,none⟩ (.int .i64 0)).setCell ⟨w.1.size+1,1,none⟩ (.int .i64 0)).setCell ⟨w.1.size+1,2,none⟩ (.int .i64 0)).setCell ⟨w.1.size+1,3,none⟩ (.int .i64 0))):=fun _=>fT ak.out uA _ _ _ _;have bx:Hid (w.1.size+1+1<=w1.1.size):=by have:=M.size;show w.1.size+1+1<=w1.1.size;omega
 clear aB M ab af;have j:Hid (saP K t↔vB K t=true/\vK K t=1/\(vL K t).length=20/\(vL K t).getD 7 0=0/\sOk (vL K t)=true/\sG (vL K t)%2=t/\sU (vL K t)<=(K.n:Int)/4):=Iff.rfl;have G:Hid (saP K t->saV K t=aG (sG (vL K t)) (sR (vL K t)) (sU (vL K t)) (sF (vL K t))):=qR;generalize vB K t=ba at*;generalize vK K t=V at*;generalize vL K t=L at*;by_cases p:ba=true/\V=1/\L.length=20/\L.getD 7 0=0
 case neg=>
  have b:¬saP K t:=fun q=>p ⟨(j.out.1 q).1,(j.out.1 q).2.1,(j.out.1 q).2.2.1,(j.out.1 q).2.2.2.1⟩;have l:Hid (saV K t=aG 0 0 0 0):=vu b;have SB:Hid (saB K t=false):=mo b;have f:Hid _:=H.out b;clear b j G H u0 u1;cases ba with
  |false=>
   clear p;go_wp2;refine B3 (v:= .tuple #[aG 0 0 0 0,.bool false]) (by simp[results,results77,go_sem,aG,l0,r,s,u]) rfl ?_;rw[l.out,SB.out];exact⟨rfl,f.out⟩
  |true=>
  by_cases S:V=1
  case neg=>
   have a2:(V !=1)=true:=by simp[S]
   clear p;go_wp2;refine B3 (v:= .tuple #[aG 0 0 0 0,.bool false]) (by simp[results,results77,go_sem,aG,l0,r,s,u]) rfl ?_;rw[l.out,SB.out];exact⟨rfl,f.out⟩
  by_cases O:L.length=20
  case neg=>
   have bC:((L.length:Int) !=20)=true:=by simp;omega
   have a2:(V !=1)=false:=by simp[S]
   generalize L.length=N at*;clear p;go_wp2;refine B3 (v:= .tuple #[aG 0 0 0 0,.bool false]) (by simp[results,results77,go_sem,aG,l0,r,s,u]) rfl ?_;rw[l.out,SB.out];exact⟨rfl,f.out⟩
  have x:¬L.getD 7 0=0:=fun x=>p ⟨rfl,S,O,x⟩;obtain⟨A,rfl,a1⟩:=qO E uA;have Y:w1.cell? ⟨A,7,none⟩=some (.int .u8 (L.getD 7 0)):=by rw[DP E 7 uA,jN? _ 7 uA]
  have bz:(L.getD 7 0 !=0)=true:=by simpa using x
  generalize L.getD 7 0=bZ at*;generalize L.length=N at*;subst O;subst S;clear p E x;go_wp2;refine B3 (v:= .tuple #[aG 0 0 0 0,.bool false]) (by simp[results,results77,go_sem,aG,l0,r,s,u]) rfl ?_;rw[l.out,SB.out];exact⟨rfl,f.out⟩
 obtain⟨rfl,rfl,O,x⟩:=p;obtain⟨A,rfl,a1⟩:=qO E uA;have Y:w1.cell? ⟨A,7,none⟩=some (.int .u8 0):=by rw[DP E 7 uA,jN? _ 7 uA,x]
 have y:=E.bs bd.out;rw[O]at y;have bk:20<=i:=y.le;have Z:i<=maxLen:=y.le';have ac:Hid (Bs w1 (some ⟨A,0,none⟩) 7 i (L.take 7)):=y.piece 0 7 uA i uA Z;have ad:Hid (Bs w1 (some ⟨A,8,none⟩) 4 (i-8) (aJ L 8 4)):=by have:=y.piece 8 4 uA (i-8) uA uA;rw[wE]at this;exact this
 have I:Hid (Bs w1 (some ⟨A,12,none⟩) 4 (i-12) (aJ L 12 4)):=by have:=y.piece 12 4 uA (i-12) uA uA;rw[wE]at this;exact this
 have J:Hid (Bs w1 (some ⟨A,16,none⟩) 4 (i-16) (aJ L 16 4)):=by have:=y.piece 16 4 uA (i-16) uA uA;rw[wE]at this;exact this
 have bA:¬i=8:=uA;have bl:¬i=12:=uA;have bm:¬i=16:=uA;have bB:(7:Int)<=(i:Int):=uA;have bn:(12:Int)<=(i:Int):=uA;have br:(16:Int)<=(i:Int):=uA;have bs:(20:Int)<=(i:Int):=uA;generalize bT:L.length=N at*;subst O;have bc:Hid (L.getD 7 0=0):=x;clear E y Z x;go_wp2_with fail;have ap:Hid (∀a n c v,Bs v a n c (L.take 7)->n<=7->Calls prog 108 #[.slice a n c] v fun e w'=>e= .returned (.int .i64 (sG L))/\w'=v):=fun a n c v B D=>nG a n c (L.take 7) v B D;have aA:Hid (∀a n c v,Bs v a n c (aJ L 8 4)->n<=7->Calls prog 108 #[.slice a n c] v fun e w'=>e= .returned (.int .i64 (sR L))/\w'=v):=fun a n c v B D=>nG a n c (aJ L 8 4) v B D;have W:Hid (∀a n c v,Bs v a n c (aJ L 12 4)->n<=7->Calls prog 108 #[.slice a n c] v fun e w'=>e= .returned (.int .i64 (sU L))/\w'=v):=fun a n c v B D=>nG a n c (aJ L 12 4) v B D;have X:Hid (∀a n c v,Bs v a n c (aJ L 16 4)->n<=7->Calls prog 108 #[.slice a n c] v fun e w'=>e= .returned (.int .i64 (sF L))/\w'=v):=fun a n c v B D=>nG a n c (aJ L 16 4) v B D;have m:=B2 w1.1.size w1;go_cut [9] (fun bu bv=>bu= .pointer (some ⟨w1.1.size,0,none⟩)/\bv=(w1.alloc (.cells #[.int .i64 (sG L),.int .i64 (sR L),.int .i64 (sU L),.int .i64 (sF L)] 36)).drew)
 case first=>
  go_region_held3 (fun _=>True) (trivial)
   (first
   |(go_at_call 108;refine(ap.out _ _ _ _ ?_ ?_).mono ?_;(first|exact ac.out.below m.drew|exact ac.out.below (m.drew.alloc m.drew.size _));omega;rintro e w' ⟨rfl,rfl⟩)
   |(go_at_call 108;refine(aA.out _ _ _ _ ?_ ?_).mono ?_;(first|exact ad.out.below m.drew|exact ad.out.below (m.drew.alloc m.drew.size _));omega;rintro e w' ⟨rfl,rfl⟩)
   |(go_at_call 108;refine(W.out _ _ _ _ ?_ ?_).mono ?_;(first|exact I.out.below m.drew|exact I.out.below (m.drew.alloc m.drew.size _));omega;rintro e w' ⟨rfl,rfl⟩)
   |(go_at_call 108;refine(X.out _ _ _ _ ?_ ?_).mono ?_;(first|exact J.out.below m.drew|exact J.out.below (m.drew.alloc m.drew.size _));omega;rintro e w' ⟨rfl,rfl⟩))
  all_goals
   go_wp2_with fail
   go_meet
   exact⟨rfl,rfl⟩
 case rest=>
 obtain⟨rfl,rfl⟩:=hcut;clear ap aA W X ac ad I J Y l0 r s u aS f1 aT aX;have ag:(w1.alloc (.cells #[.int .i64 (sG L),.int .i64 (sR L),.int .i64 (sU L),.int .i64 (sF L)] 36)).drew.heap[w1.1.size]?=some (.cells #[.int .i64 (sG L),.int .i64 (sR L),.int .i64 (sU L),.int .i64 (sF L)] 36 (0,0)):=D6 w1 (.cells #[.int .i64 (sG L),.int .i64 (sR L),.int .i64 (sU L),.int .i64 (sF L)] 36);have a9:=((B2 w1.1.size w1).alloc t6 (.cells #[.int .i64 (sG L),.int .i64 (sR L),.int .i64 (sU L),.int .i64 (sF L)] 36)).drew;have b1:(w1.alloc (.cells #[.int .i64 (sG L),.int .i64 (sR L),.int .i64 (sU L),.int .i64 (sF L)] 36)).drew.1.size=w1.1.size+1:=by simp
 generalize (w1.alloc (.cells #[.int .i64 (sG L),.int .i64 (sR L),.int .i64 (sU L),.int .i64 (sF L)] 36)).drew=bg at*;have b2:=bx.out;obtain⟨⟨k0,a6,a7,a8⟩,_⟩:=ep ag;go_wp2_with fail;refine(mU (sG L) (sR L) (sU L) (sF L) bg).mono ?_;rintro e R ⟨rfl,ae⟩;have F:Below w1.1.size w1 R:=a9.trans (ae.mono uA);have am:Hid (Below w.1.size w R):=ak.out.trans (F.mono uA);clear k0 a6 a7 a8;obtain⟨⟨l0,r,s,u⟩,aS,f1,aT,aX⟩:=ep ((F.block (w.1.size+1) uA).trans u1);obtain⟨⟨k0,a6,a7,a8⟩,_⟩:=ep ((ae.block w1.1.size uA).trans ag);have v0:R.cell? ⟨w.1.size,0,none⟩=some (.slice (some ⟨g,0,none⟩) K.n c):=by rw[DC R _ 0 _ _ _ ((F.block w.1.size uA).trans u0)];rfl
 clear u0 u1 ag a9 ae F;have an:Hid (sOk L=bG (sG L) (sR L) (sU L) (sF L)):=rfl;have o:Hid (¬saP K t->saV K t=aG 0 0 0 0/\saB K t=false/\Below w.1.size w ((((R.setCell ⟨w.1.size+1,0,none⟩ (.int .i64 0)).setCell ⟨w.1.size+1,1,none⟩ (.int .i64 0)).setCell ⟨w.1.size+1,2,none⟩ (.int .i64 0)).setCell ⟨w.1.size+1,3,none⟩ (.int .i64 0))):=fun b=>⟨vu b,mo b,fT am.out uA _ _ _ _⟩;cases Q:bG (sG L) (sR L) (sU L) (sF L)with
 |false=>
  have b:¬saP K t:=fun q=>by have:=(j.out.1 q).2.2.2.2.1;rw[an.out,Q]at this;cases this
  obtain⟨z,sb,k⟩:=o.out b;have l:Hid _:=z;have SB:Hid _:=sb;have f:Hid _:=k;clear z sb k b j G H o;go_wp2;refine B3 (v:= .tuple #[aG 0 0 0 0,.bool false]) (by simp[results,results77,go_sem,aG,l0,r,s,u]) rfl ?_;rw[l.out,SB.out];exact⟨rfl,f.out⟩
 |true=>
  obtain⟨bX,bY⟩:=qQ Q;have bF:(sG L).tmod 2=sG L%2:=A3 uA;by_cases C:sG L%2=t
  case neg=>
   have b:¬saP K t:=fun q=>C (j.out.1 q).2.2.2.2.2.1;have a3:(sG L%2 !=t)=true:=by simpa using C
   obtain⟨z,sb,k⟩:=o.out b;have l:Hid _:=z;have SB:Hid _:=sb;have f:Hid _:=k;clear z sb k b j G H o C;go_wp2;refine B3 (v:= .tuple #[aG 0 0 0 0,.bool false]) (by simp[results,results77,go_sem,aG,l0,r,s,u]) rfl ?_;rw[l.out,SB.out];exact⟨rfl,f.out⟩
  have a3:(sG L%2 !=t)=false:=by simpa using C
  by_cases T:sU L<=(K.n:Int)/4
  case neg=>
   have b:¬saP K t:=fun q=>T (j.out.1 q).2.2.2.2.2.2;have a4:(K.n:Int)/4<sU L:=uA;obtain⟨z,sb,k⟩:=o.out b;have l:Hid _:=z;have SB:Hid _:=sb;have f:Hid _:=k;clear z sb k b j G H o C T;go_wp2;refine B3 (v:= .tuple #[aG 0 0 0 0,.bool false]) (by simp[results,results77,go_sem,aG,l0,r,s,u]) rfl ?_;rw[l.out,SB.out];exact⟨rfl,f.out⟩
  have b:saP K t:=j.out.2 (by simp only[true_and];exact⟨bc.out,an.out.trans Q,C,T⟩);have l:Hid _:=G.out b;have SB:Hid _:=nS b;have f:Hid _:=fT am.out (show w.1.size<=w.1.size+1 by omega) (.int .i64 (sG L)) (.int .i64 (sR L)) (.int .i64 (sU L)) (.int .i64 (sF L));have a4:¬(K.n:Int)/4<sU L:=uA;clear b j G H o C T;go_wp2;refine B3 (v:= .tuple #[aG (sG L) (sR L) (sU L) (sF L),.bool true]) (by simp[results,results77,go_sem,aG,l0,r,s,u]) rfl ?_;rw[l.out,SB.out];exact⟨rfl,f.out⟩
