import Derived.Test.YtglbanolhhjjiaaGreatDoorFo7
import Derived.Maps.OwnRows
namespace Go.Proofs.YtglbanolhhjjiaaGreatDoor
open Go.Proofs.Tryz
open Go.RowKit Go.ChangeShapes
set_option linter.unusedVariables false
set_option maxRecDepth 100000
set_option maxHeartbeats 32000000
def wrK(K:DK)(t:Int)(l:List Int):DK:=⟨K.n,K.S,K.m+1,upd K.At K.m t,upd K.D K.m l⟩
def syK(K:DK):DK:=⟨K.n,gL K,0,K.At,K.D⟩
abbrev wrP(K:DK)(k t:Int)(n:Nat):Prop:=k=1/\0<=t/\t<K.n/\n=64/\K.m<5000
abbrev syP(k t:Int)(n:Nat):Prop:=k=2/\t=0/\n=0
def doB(K:DK)(k t:Int)(n:Nat):Bool:=decide (wrP K k t n\/syP k t n)
def doK(K:DK)(k t:Int)(l:List Int):DK:=if wrP K k t l.length then wrK K t l else if syP k t l.length then syK K else K
theorem vd{K k t l}(h:wrP K k t l.length):doK K k t l=wrK K t l:=B4 h
theorem ve{K k t l}(h:syP k t l.length):doK K k t l=syK K:=by
 unfold doK;rw[CH (fun a=>by have b:=h.1;have c:=a.1;omega),B4 h]
theorem qD{K k t l}(a:¬wrP K k t l.length)(b:¬syP k t l.length):doK K k t l=K:=by
 unfold doK;rw[CH a,CH b]
theorem CK{K k t n}(h:wrP K k t n):doB K k t n=true:=CR (v7 h)
theorem CL{K k t n}(h:syP k t n):doB K k t n=true:=CR (v6 h)
theorem CM{K k t n}(a:¬wrP K k t n)(b:¬syP k t n):doB K k t n=false:=CP (fun h=>h.elim a b)
theorem CN{K}{t:Int}{l}(h:dOk K)(g:0<=t)(i:t<K.n)(k:l.length=64)(m:K.m<5000):dOk (wrK K t l):=by
 obtain⟨⟨a,b,c⟩,d,e⟩:=h;refine⟨⟨a,b,m⟩,d,fun j n=> ?_⟩;show 0<=upd K.At K.m t j/\upd K.At K.m t j<K.n/\(upd K.D K.m l j).length=64;by_cases f:j=K.m
 ·subst f;rw[be,be];exact⟨g,i,k⟩
 ·rw[bw _ _ _ f,bw _ _ _ f];exact e j (by have:j<K.m+1:=n;omega)
theorem CO{K}(h:dOk K):dOk (syK K):=by
 refine⟨⟨h.1.1,h.1.2.1,wa _⟩,fun i a=>qo h a,fun j b=>absurd b (xN _)⟩
theorem CQ{K k t l}(h:dOk K):dOk (doK K k t l):=by
 by_cases a:wrP K k t l.length
 ·rw[vd a];exact CN h a.2.1 a.2.2.1 a.2.2.2.1 a.2.2.2.2
 ·by_cases b:syP k t l.length
  ·rw[ve b];exact CO h
  ·rw[qD a b];exact h
theorem mh(N c):∀n,(∀i,i<n->N i=c)->jy N n=c*n
 |0,_=>by simp[jy]
 |n+1,h=>by
  have a:=mh N c n (fun i d=>h i uA);have b:=h n (x3 _);simp only[jy];rw[a,b,Nat.mul_add,Nat.mul_one]
theorem qE{w d K}(k:RDisk w d K)(h:dOk K):Small d K:=by
 obtain⟨⟨a,b,c⟩,e,f⟩:=h;have l:∀i,i<K.n->d.sN i=64:=fun i g=>by have:=(k.safe.data i g).len_eq;rw[<-this];exact e i g
 have j:∀i,i<K.m->d.pN i=64:=fun i g=>by have:=(k.pend.data i g).len_eq;rw[<-this];exact(f i g).2.2
 refine⟨uA,uA,fun i g=>by rw[l i g];omega,fun i g=>by rw[j i g];omega,?_⟩;show mk 1 d.pN (mk 0 d.sN 1 K.n) K.m<=_;rw[l5,l5,mh _ 64 _ l,mh _ 64 _ j];simp;omega
theorem qF(w:World)(a):w.grownBy w a:=⟨rfl,rfl,rfl,t6,fun _ _ _=>rfl⟩
theorem mi{a w:World}{b}(h:a.grownBy w (some b))(i v):a.grownBy (w.setCell ⟨b,i,none⟩ v) (some b):=by
 have q:=(B2 0 w).setCell (p:=⟨b,i,none⟩) (wa _) v;exact⟨q.os.trans h.os,q.tape.trans h.tape,q.output.trans h.output,wg h.size q.size,fun k d c=>(Below.heap_setCell w ⟨b,i,none⟩ v k (fun e=>c (by rw[e]))).trans (h.block k d c)⟩
theorem CU{a w:World}{b}(h:a.grownBy w b):a.grownBy w.drew b:=⟨h.os,h.tape,h.output,h.size,h.block⟩
theorem qG(b a):∀n,dy 0 b a n=(List.range n).map a
 |0=>rfl
 |n+1=>by rw[dy,qG b a n,List.range_succ,AF];simp[dH]
theorem qH{At t}:∀{j i:Nat},dJ At t j=some i->At i=t
 |0,i,h=>by simp[dJ]at h
 |j+1,i,h=>by
  simp only[dJ]at h;split at h
  ·cases h;assumption
  ·exact qH h
theorem CW{B g w0 w d K}(h:ODisk B w0 d K)(A:d.sa=some ⟨g,0,none⟩)(C:w0.grownBy w (some g))(E:w.ownsRow B 56 1 (.slice (some ⟨g,0,none⟩) K.n d.sc) K.n (dT K.At d.pA d.sA d.pN d.sN d.pC d.sC K.n K.m)):
 ORecs 0 56 B w (some ⟨g,0,none⟩) K.n d.sc zI (aP K.At d.pA d.sA K.m) (aP K.At d.pN d.sN K.m) (aP K.At d.pC d.sC K.m) (gL K):=by
 have hrow:=h.safe.row;rw[A]at hrow;have l:∀{m:Option Addr}{o n:Nat}{s:List Int},Own B w0 m o n s->Own B w m o n s:=fun{m o n s} v=>by
  refine World.ownsRow.kept v C ?_;cases a:(Value.slice m o n).ownBlock with
  |none=>exact v7 rfl
  |some k=>exact v6 fun u=>jR v hrow uB k a (by rw[u];rfl)
 refine⟨?_,fun t r=> ?_,fun t r=> ?_,fun i j x y k a=> ?_⟩
 ·rw[qG];exact E
 ·unfold gL aP;cases D:dJ K.At (t:Int) K.m with
  |none=>exact l (h.safe.data t r)
  |some q=>exact l (h.pend.data q (iv D))
 ·exact uk (P:=IsB) r t6 h.pend.byte h.safe.byte
 ·unfold aP at a ⊢;cases b:dJ K.At (i:Int) K.m with
  |none=>
   rw[b]at a;cases c:dJ K.At (j:Int) K.m with
   |none=>exact h.safe.sep1 i j x y k a
   |some q=>exact h.sepX i q uA (iv c) k a
  |some p=>
   rw[b]at a;cases c:dJ K.At (j:Int) K.m with
   |none=>exact fun f=>h.sepX j p y (iv b) k f a
   |some q=>
    have u:=qH b;have F:=qH c;have z:p≠q:=fun e=>by subst e;omega
    rcases Nat.lt_or_gt_of_ne z with hlt|hlt
    ·exact h.pend.sep1 p q hlt (iv c) k a
    ·exact fun f=>h.pend.sep1 q p hlt (iv b) k f a
theorem CX(B g b n x pc q c s r l f K E F w)(hx:w.heap[g]?=some (.cells #[.slice (some ⟨b,0,none⟩) K.n n,.slice x K.m pc] 35 (0,0)))(h:ODisk B w ⟨some ⟨b,0,none⟩,n,q,s,r,x,pc,c,l,f⟩ K)(ad:dOk K)(aB:B<=g):
 Calls prog 103 #[.pointer (some ⟨g,0,none⟩),.agg #[.int .i64 2,.int .i64 0,.slice E 0 F]] w fun e w'=>e= .returned (.bool true)/\Below B w w'/\∃U,IsBox w' g U (syK K)/\ODisk B w' U (syK K):=by
 obtain⟨⟨a4,a5,a3⟩,_,X⟩:=ad;have I:g<w.1.size:=(wy.1 hx).1;have G:=(B2 w.1.size w).alloc t6 (.cells #[.int .i64 2,.int .i64 0,.slice E 0 F] 157);have H:=hx;rw[<-G.block g I]at H;have V:=h.below G;have bl:(w.alloc (.cells #[.int .i64 2,.int .i64 0,.slice E 0 F] 157)).1.size=w.1.size+1:=by simp
 have ab:b≠g:=fun e=>BK h.safe.row hx uB rfl e.symm;have W:B<=b:=(fA h.safe.row rfl).1;have S:Hid _:=G;have am:Hid _:=X;clear G X hx h;go_enter func103,ntmps103;go_wp2_with fail;generalize Z:w.alloc (.cells #[.int .i64 2,.int .i64 0,.slice E 0 F] 157)=M at*;clear Z;have L:∀v:World,M.grownBy v (some b)->v.heap[g]?=some (.cells #[.slice (some ⟨b,0,none⟩) K.n n,.slice x K.m pc] 35 (0,0)):=fun v aT=>by
  rw[aT.block g uA (fun e=>ab (by cases e;rfl))];exact H
 have R:Hid _:=L;have y:Hid _:=V;clear L V;go_loopw [5] (fun i wr=> ∃j:Nat,j<=K.m/\i= .int .i64 j/\M.grownBy wr (some b)/\wr.ownsRow B 56 1 (.slice (some ⟨b,0,none⟩) K.n n) K.n (dT K.At c q l s f r K.n j)) (fun i _=>K.m-(intOf i).toNat)
 case atStart=>exact⟨0,wa _,rfl,qF _ _,by have:=y.out.safe.row;rw[qG]at this;exact this⟩
 case round=>
  obtain⟨j,ac,rfl,o,u⟩:=hrel;have t:=R.out wr o;have a9:wr.cell? ⟨g,0,none⟩=some (.slice (some ⟨b,0,none⟩) K.n n):=by rw[DC wr _ 0 _ _ _ t];rfl
  have aA:wr.cell? ⟨g,1,none⟩=some (.slice x K.m pc):=by rw[DC wr _ 1 _ _ _ t];rfl
  by_cases A:j<K.m
  ·obtain⟨m,ae,_⟩:=lW y.out.pend uA;have N:x=some ⟨m,0,none⟩:=ae;subst N;have C:=y.out.pend;have J:m≠b:=fun e=>jR C.row y.out.safe.row uB m rfl (by rw[e];rfl);have I:m<M.1.size:=(fA C.row rfl).2;have z:=am.out j A;obtain⟨T,D⟩:=x2 z.1;have a6:Hid (K.At j=(T:Int)):=D;have Y:T<K.n:=by have:=z.2.1;omega
   have k0:wr.cell? ⟨m,j*2,none⟩=some (.int .i64 (T:Int)):=o.cell (a:=⟨m,j*2,none⟩) (by have:=C.cellInt j 0 A uA;rw[show aI K j 0=(T:Int)from D]at this;exact this) (fun e=>J (by cases e;rfl));have bd:wr.cell? ⟨m,j*2+1,none⟩=some (.slice (c j) (l j) (f j)):=o.cell (a:=⟨m,j*2+1,none⟩) (C.cellData j A) (fun e=>J (by cases e;rfl));have O:wr.cell? ⟨b,T,none⟩=some (.slice (aP K.At c q j T) (aP K.At l s j T) (aP K.At f r j T)):=by rw[u.cellAt T uA,jv _ _ _ _ _ _ _ _ _ _ Y]
   have ba:wr.frozen? ⟨b,T,none⟩=false:=u.frozenAt T;have P:=(u.stored T (.slice (c j) (l j) (f j))).1;rw[ul _ _ _ _ _ _ _ _ _ _ D]at P;have ST:Hid (World.ownsRow (wr.setCell ⟨b,T,none⟩ (.slice (c j) (l j) (f j))) B 56 1 (.slice (some ⟨b,0,none⟩) K.n n) K.n (dT K.At c q l s f r K.n (j+1))):=P;have ag:Hid _:=mi o T (.slice (c j) (l j) (f j));have a0:(0:Int)<=(j:Int):=uA;have a1:(j:Int)< (K.m:Int):=uA;have a2:(0:Int)<=(T:Int):=uA;have hi4:(T:Int)< (K.n:Int):=uA;generalize aP K.At c q j T=bf at O;generalize aP K.At l s j T=bk at O;generalize aP K.At f r j T=bg at O;clear P u o C D z t H;go_wp2_with fail;go_region
   all_goals
    go_wp2;go_roundw
    case rel=>exact⟨j+1,uA,by go_num,CU ag.out,ST.out⟩
    case measure=>simp[intOf];omega
  ·have e:j=K.m:=uA;subst e;have ak:Hid _:=u;have Q:Hid _:=o;have bb:g<wr.1.size:=(wy.1 t).1;have a7:wr.cell? ⟨g,1,none⟩=some (.slice x K.m pc):=aA;have a8:wr.frozen? ⟨g,1,none⟩=false:=frozen_of_row _ _ 1 _ _ t;clear u o H;go_wp2;go_ret;refine⟨rfl,?_,⟨some ⟨b,0,none⟩,n,aP K.At c q K.m,aP K.At l s K.m,aP K.At f r K.m,some ⟨wr.1.size,0,none⟩,0,c,l,f⟩,?_,?_,?_,?_⟩
   ·have an:Below B w wr:=(S.out.mono uA).grown Q.out (by have:=S.out.size;omega) (fun k aS=>by cases aS;exact W);exact(an.setCell (p:=⟨g,1,none⟩) aB _).alloc (by rw[World.size_setCell];omega) _
   ·have ap:=heap_setCell_same _ _ 1 _ _ (.slice (some ⟨wr.1.size,0,none⟩) 0 0) t;exact IsBox.below (d:=⟨some ⟨b,0,none⟩,n,aP K.At c q K.m,aP K.At l s K.m,aP K.At f r K.m,some ⟨wr.1.size,0,none⟩,0,c,l,f⟩) (K:=syK K) ap (bAl _ _)
   ·have aX:=CW (w:=wr) y.out rfl Q.out ak.out;exact(aX.setOther t uB uB 1 (.slice (some ⟨wr.1.size,0,none⟩) 0 0)).below (bAl _ _)
   ·have af:=io 1 133 B (wr.setCell ⟨g,1,none⟩ (.slice (some ⟨wr.1.size,0,none⟩) 0 0)) (by rw[World.size_setCell];omega) (aI (syK K)) c l f K.D;rw[World.size_setCell]at af;exact af
   ·exact fun i j bc ac=>absurd ac (xN _)
theorem CY(B g G o H pc ac N ae ad P O K T c d s w)(hx:w.heap[g]?=some (.cells #[.slice G K.n H,.slice o K.m pc] 35 (0,0)))(h:ODisk B w ⟨G,H,ac,ae,ad,o,pc,N,P,O⟩ K)(bP:T<K.n)(bT:K.n<=4096)(bS:K.m<5000)(R:Bs w c 64 d s)(bs:B<=g):
 Calls prog 103 #[.pointer (some ⟨g,0,none⟩),.agg #[.int .i64 1,.int .i64 (T:Int),.slice c 64 d]] w fun e w'=>e= .returned (.bool true)/\Below B w w'/\∃aA,IsBox w' g aA (wrK K T s)/\ODisk B w' aA (wrK K T s):=by
 have a0:=(wy.1 hx).1;have E:=(B2 w.1.size w).alloc t6 (.cells #[.int .i64 1,.int .i64 (T:Int),.slice c 64 d] 157);have I:=hx;rw[<-E.block g a0]at I;have aB:=h.below E;have U:=R.below E;have bf:(w.alloc (.cells #[.int .i64 1,.int .i64 (T:Int),.slice c 64 d] 157)).1.size=w.1.size+1:=by simp
 have bu:(w.alloc (.cells #[.int .i64 1,.int .i64 (T:Int),.slice c 64 d] 157)).cell? ⟨w.1.size,0,none⟩=some (.int .i64 1):=by simp
 have a7:(w.alloc (.cells #[.int .i64 1,.int .i64 (T:Int),.slice c 64 d] 157)).cell? ⟨w.1.size,1,none⟩=some (.int .i64 (T:Int)):=by simp
 have a8:(w.alloc (.cells #[.int .i64 1,.int .i64 (T:Int),.slice c 64 d] 157)).cell? ⟨w.1.size,2,none⟩=some (.slice c 64 d):=by simp
 have ak:(w.alloc (.cells #[.int .i64 1,.int .i64 (T:Int),.slice c 64 d] 157)).heap[w.1.size]?=some (.cells #[.int .i64 1,.int .i64 (T:Int),.slice c 64 d] 157 (0,0)):=D6 w _;have ag:Hid _:=E;have br:(w.alloc (.cells #[.int .i64 1,.int .i64 (T:Int),.slice c 64 d] 157)).cell? ⟨g,0,none⟩=some (.slice G K.n H):=by rw[DC _ _ 0 _ _ _ I];rfl
 have ap:(w.alloc (.cells #[.int .i64 1,.int .i64 (T:Int),.slice c 64 d] 157)).cell? ⟨g,1,none⟩=some (.slice o K.m pc):=by rw[DC _ _ 1 _ _ _ I];rfl
 clear E hx h R;go_enter func103,ntmps103;have bE:decide ((T:Int)<0)=false:=CP uA;have bF:decide ((5000:Int)<=(K.m:Int))=false:=CP uA;go_wp2_with fail;generalize aT:w.alloc (.cells #[.int .i64 1,.int .i64 (T:Int),.slice c 64 d] 157)=m at*;clear aT
 go_quiet (fail)
 have Y:Below m.1.size m (m.drewN nq):=D1 t7 nq;have bc:(m.drewN nq).heap[g]?=some (.cells #[.slice G K.n H,.slice o K.m pc] 35 (0,0)):=I;have aS:=aB.below Y;have V:=U.below Y;have a5:(m.drewN nq).cell? ⟨w.1.size,1,none⟩=some (.int .i64 (T:Int)):=a7;have a6:(m.drewN nq).cell? ⟨w.1.size,2,none⟩=some (.slice c 64 d):=a8;have a3:(m.drewN nq).cell? ⟨g,1,none⟩=some (.slice o K.m pc):=ap;have bZ:(m.drewN nq).1.size=w.1.size+1:=bf;have am:(m.drewN nq).heap[w.1.size]?=some (.cells #[.int .i64 1,.int .i64 (T:Int),.slice c 64 d] 157 (0,0)):=ak;have bm:Hid (Below w.1.size w (m.drewN nq)):=D1 ag.out nq;generalize aX:m.drewN nq=z at*;clear aX ak Y I aB U bu a7 a8 br ap bf ag m;have bC:B<=z.1.size:=uA;have S:∀v:World,Below z.1.size z v->v.cell? ⟨w.1.size,1,none⟩=some (.int .i64 (T:Int))/\v.cell? ⟨w.1.size,2,none⟩=some (.slice c 64 d)/\v.cell? ⟨g,1,none⟩=some (.slice o K.m pc):=fun v W=>by
  refine⟨?_,?_,?_⟩
  ·rw[W.cell (p:=⟨w.1.size,1,none⟩) (by show w.1.size<_;omega)];exact a5
  ·rw[W.cell (p:=⟨w.1.size,2,none⟩) (by show w.1.size<_;omega)];exact a6
  ·rw[W.cell (p:=⟨g,1,none⟩) (by show g<_;omega)];exact a3
 have t:Hid _:=S;have bl:Hid (∀v:World,v.heap[w.1.size]?=some (.cells #[.int .i64 1,.int .i64 (T:Int),.slice c 64 d] 157 (0,0))->v.cell? ⟨w.1.size,1,none⟩=some (.int .i64 (T:Int))/\v.cell? ⟨w.1.size,2,none⟩=some (.slice c 64 d)):=fun v a2=>⟨by rw[DC v _ 1 _ _ _ a2];rfl,by rw[DC v _ 2 _ _ _ a2];rfl⟩;have bg:Hid _:=am;clear am;have bk:Hid _:=bc;have r:Hid _:=aS;have af:Hid _:=V;clear S bc aS V;go_wp2_with fail;refine az (fun v=>v.cell? ⟨w.1.size,1,none⟩=some (.int .i64 (T:Int))/\v.cell? ⟨w.1.size,2,none⟩=some (.slice c 64 d)/\v.cell? ⟨g,1,none⟩=some (.slice o K.m pc)) (fun j=>j==15) vk ?_;have l:=t.out z.drew t7.drew;refine cY 0 (v:= ?vv0) rfl vk vk vk vk (fun _ _ _ h=>h) (v7 ⟨by rfl,?hy0⟩) l ?rest0
 case hy0=>(intro w a;(try dsimp only at a);go_simp;try with_reducible rfl)
 refine cY 1 (v:= ?vv1) rfl vk vk vk vk (fun _ _ _ h=>h) (v7 ⟨by rfl,?hy1⟩) l ?rest1
 case hy1=>(intro w a;(try dsimp only at a);go_simp;try with_reducible rfl)
 refine cY 2 (v:= ?vv2) rfl vk vk vk vk (fun _ _ _ h=>h) (v7 ⟨by rfl,?hy2⟩) l ?rest2
 case hy2=>(intro w a;(try dsimp only at a);go_simp;try with_reducible rfl)
 refine cY 3 (v:= ?vv3) rfl vk vk vk vk (fun _ _ _ h=>h) (v7 ⟨by rfl,?hy3⟩) l ?rest3
 case hy3=>(intro w a;(try dsimp only at a);go_simp;try with_reducible rfl)
 refine cY 4 (v:= ?vv4) rfl vk vk vk vk (fun _ _ _ h=>h) (v7 ⟨by rfl,?hy4⟩) l ?rest4
 case hy4=>(intro w a;(try dsimp only at a);go_simp;try with_reducible rfl)
 refine cY 5 (v:= ?vv5) rfl vk vk vk vk (fun _ _ _ h=>h) (v7 ⟨by rfl,?hy5⟩) l ?rest5
 case hy5=>(intro w a;(try dsimp only at a);go_simp;try with_reducible rfl)
 refine cY 6 (v:= ?vv6) rfl vk vk vk vk (fun _ _ _ h=>h) (v7 ⟨by rfl,?hy6⟩) l ?rest6
 case hy6=>(intro w a;(try dsimp only at a);go_simp;try with_reducible rfl)
 refine cY 7 (v:= ?vv7) rfl vk vk vk vk (fun _ _ _ h=>h) (v7 ⟨by rfl,?hy7⟩) l ?rest7
 case hy7=>(intro w a;(try dsimp only at a);go_simp;try with_reducible rfl)
 refine cY 8 (v:= ?vv8) rfl vk vk vk vk (fun _ _ _ h=>h) (v7 ⟨by rfl,?hy8⟩) l ?rest8
 case hy8=>(intro w a;(try dsimp only at a);go_simp;try with_reducible rfl)
 refine on1 9 fun n f=> ?_;go_wp2_with fail;refine(jV c 64 d s _ (af.out.below t7.drew) uA).mono ?_;rintro e bb ⟨Z,X,rfl,b,M⟩;simp only[EB]at b M;replace b:=l4 b;go_wp2_with fail;refine f.out _ _ (fun _=>t.out bb b) ?_;clear f n;have Q:=t.out bb b;refine cY 10 (v:= ?vv10) rfl vk vk vk vk (fun _ _ _ h=>h) (v7 ⟨by rfl,?hy10⟩) Q ?rest10
 case hy10=>(intro w a;(try dsimp only at a);go_simp;try with_reducible rfl)
 refine cJ 11 vk rfl (fun n f=> ?_);go_simp;refine f.out _ _ (fun _=>t.out _ (b.alloc b.size _)) ?_;clear f n;refine cJ 12 vk rfl (fun n f=> ?_);refine jS (w0:=z) rfl _ _ 33 rfl 1 133 B underlying33 qB uB o K.m pc (aI K) N P O K.D rfl r.out.pend ?_ (fun _=>(T:Int)) Z 64 X s ?_ af.out.byte ?_ _ rfl ?_ ?_ ?_
 ·exact b
 ·exact M
 ·omega
 ·rfl
 ·omega
 intro A C x a9 an a4 J;have y:=kl b r.out.pend.row bk.out uB J;have bd:=kl b r.out.pend.row bg.out uB J;have ab:x.cell? ⟨g,1,none⟩=some (.slice o K.m pc):=by rw[DC x _ 1 _ _ _ y];rfl
 have bv:=frozen_of_row x _ 1 _ _ y;have ba:=r.out.safe.keptT b r.out.pend.row uB uB J;have F:=bl.out x bd;clear a4 J bd;refine f.out _ _ (fun _=>⟨F.1,F.2,ab⟩) ?_;clear f n;have D:=vJ F.1 (vJ F.2 ab);refine cJ 13 vk rfl (fun n f=> ?_);go_simp;refine f.out _ _ (fun _=>D) ?_;clear f n;refine cJ 14 vk rfl (fun n f=> ?_);go_simp;refine f.out _ _ (fun _=>D) ?_;clear f n;refine cJ 15 vk rfl (fun n f=> ?_);go_simp;refine f.out _ _ (fun h=>by cases h) ?_;clear f n;refine j5 vk ?_ _;have bn:Below B w (x.setCell ⟨g,1,none⟩ (.slice A (K.m+1) C)):=
  (((bm.out.mono uA).trans (b.mono uA)).trans an).setCell (p:=⟨g,1,none⟩) bs _
 have bB:=heap_setCell_same x _ 1 _ _ (.slice A (K.m+1) C) y;have bx:=(a9.setOther y uB uB 1 (.slice A (K.m+1) C)).congr' (I':=aI (wrK K T s)) (L':=(wrK K T s).D) (fun i L q bW=>by show upd (aI K) K.m (fun _=>(T:Int)) i q=upd K.At K.m (T:Int) i;unfold upd;split<;>rfl) (fun i L=>rfl);have bA:=ba.setOther y uB uB 1 (.slice A (K.m+1) C);have bz:Hid (∀i j,i<K.n->j<K.m+1->∀k,(Value.slice (ac i) (ae i) (ad i)).ownBlock=some k->(Value.slice (upd N K.m Z j) (upd P K.m 64 j) (upd O K.m X j)).ownBlock≠some k):=fun i j L bR k a1 u=>by
  by_cases e:j=K.m
  ·subst e;rw[be,be,be]at u;have bX:=(fA (r.out.safe.data i L) a1).2;have bY:=(fA M u).1;omega
  ·rw[bw _ _ _ e,bw _ _ _ e,bw _ _ _ e]at u;exact r.out.sepX i j L uA k a1 u
 clear ab bv y a9 an b M ba a3 a5 a6 l Q D F;go_wp2;go_ret;exact⟨rfl,bn,⟨G,H,ac,ae,ad,A,C,upd N K.m Z,upd P K.m 64,upd O K.m X⟩,bB,bA,bx,bz.out⟩
theorem CZ(g r q s pc K k t a on b w)(M:K.n<=4096)(L:K.m<=5000)(B:on<=maxLen)(hx:w.heap[g]?=some (.cells #[.slice r K.n s,.slice q K.m pc] 35 (0,0)))(z:¬wrP K k t on)(A:¬syP k t on):
 Calls prog 103 #[.pointer (some ⟨g,0,none⟩),.agg #[.int .i64 k,.int .i64 t,.slice a on b]] w fun e w'=>e= .returned (.bool false)/\Below w.1.size w w':=by
 unfold wrP at z;unfold syP at A;unfold maxLen at B;have n:=(wy.1 hx).1;have f:=(B2 w.1.size w).alloc t6 (.cells #[.int .i64 k,.int .i64 t,.slice a on b] 157);have d:=hx;rw[<-f.block g n]at d;have c:Hid _:=f;have G:(w.alloc (.cells #[.int .i64 k,.int .i64 t,.slice a on b] 157)).cell? ⟨g,0,none⟩=some (.slice r K.n s):=by rw[DC _ _ 0 _ _ _ d];rfl
 have H:(w.alloc (.cells #[.int .i64 k,.int .i64 t,.slice a on b] 157)).cell? ⟨g,1,none⟩=some (.slice q K.m pc):=by rw[DC _ _ 1 _ _ _ d];rfl
 have N:(w.alloc (.cells #[.int .i64 k,.int .i64 t,.slice a on b] 157)).cell? ⟨w.1.size,0,none⟩=some (.int .i64 k):=by simp
 have O:(w.alloc (.cells #[.int .i64 k,.int .i64 t,.slice a on b] 157)).cell? ⟨w.1.size,1,none⟩=some (.int .i64 t):=by simp
 have P:(w.alloc (.cells #[.int .i64 k,.int .i64 t,.slice a on b] 157)).cell? ⟨w.1.size,2,none⟩=some (.slice a on b):=by simp
 clear f hx d;by_cases o:k=2
 ·subst o;by_cases p:t=0
  ·subst p;have D:((on:Int) !=0)=true:=by simp;omega
   go_enter func103,ntmps103;go_wp2;go_ret;exact⟨rfl,c.out⟩
  ·have E:(t !=0)=true:=by simp[p]
   go_enter func103,ntmps103;go_wp2;go_ret;exact⟨rfl,c.out⟩
 ·have C:(k==2)=false:=by simp[o]
  go_enter func103,ntmps103;go_wp2_with fail;generalize m:w.alloc (.cells #[.int .i64 k,.int .i64 t,.slice a on b] 157)=F at*;clear m;by_cases i:k=1
  ·subst i;by_cases j:t<0
   ·have u:=CR j
    go_quiet (fail)
    go_wp2;go_ret;exact⟨rfl,D1 c.out _⟩
   ·have u:=CP j;by_cases l:(K.n:Int)<=t
    ·have v:=CR l
     go_quiet (fail)
     go_wp2;go_ret;exact⟨rfl,D1 c.out _⟩
    ·have v:=CP l;by_cases y:on=64
     ·have x:((on:Int) !=64)=false:=by simp;omega
      have J:decide ((5000:Int)<=(K.m:Int))=true:=CR uA;clear y
      go_quiet (fail)
      go_wp2;go_ret;exact⟨rfl,D1 c.out _⟩
     ·have x:((on:Int) !=64)=true:=by simp;omega
      go_quiet (fail)
      go_wp2;go_ret;exact⟨rfl,D1 c.out _⟩
  ·have I:(k !=1)=true:=by simp[i]
   go_quiet (fail)
   go_wp2;go_ret;exact⟨rfl,D1 c.out _⟩
theorem C6{K k t n l}(c:l.length=n)(h:doB K k t n=false):doK K k t l=K:=by
 have b:=of_decide_eq_false h;exact qD (fun a=>b (v7 (by rw[c]at a;exact a))) (fun a=>b (v6 (by rw[c]at a;exact a)))
def plK(K:DK)(I:Nat->Nat->Int)(L:Nat->List Int):Nat->DK
 |0=>K
 |j+1=>doK (plK K I L j) (I j 0) (I j 1) (L j)
theorem mj{K}(a L)(h:dOk K):∀j,dOk (plK K a L j)
 |0=>h
 |j+1=>CQ (mj a L h j)
def plB(K:DK)(I:Nat->Nat->Int)(N:Nat->Nat)(L:Nat->List Int)(j:Nat):Bool:=doB (plK K I L j) (I j 0) (I j 1) (N j)
def gP(f:Nat->Bool):Nat->Nat->Nat
 |0,j=>j
 |n+1,j=>match f j with|true=>gP f n (j+1)|false=>j
theorem C7{f a j}(h:j<a)(b:f j=true):gP f (a-j) j=gP f (a-(j+1)) (j+1):=by
 obtain⟨r,c⟩:∃r,a-j=r+1:=⟨a-j-1,uA⟩;rw[c,show a-(j+1)=r by omega,gP,b]
theorem C9{f a j}(h:j<a)(b:f j=false):gP f (a-j) j=j:=by
 obtain⟨r,c⟩:∃r,a-j=r+1:=⟨a-j-1,uA⟩;rw[c,gP,b]
theorem Da{f a j}(h:a<=j):gP f (a-j) j=j:=by
 rw[show a-j=0 by omega,gP]
def iB(n:Nat)(most:Int):Nat:=min n most.toNat
def plN(K:DK)(I:Nat->Nat->Int)(N:Nat->Nat)(L:Nat->List Int)(n:Nat)(most:Int):Nat:=gP (plB K I N L) (iB n most) 0
noncomputable def kw(K:DK)(n:Nat):Bool:=aR K&&decide (n<=5000)
noncomputable def ppN(K:DK)(I:Nat->Nat->Int)(N:Nat->Nat)(L:Nat->List Int)(n:Nat)(most:Int):Nat:=match kw K n with|true=>plN K I N L n most|false=>0
noncomputable def ppK(K:DK)(I:Nat->Nat->Int)(N:Nat->Nat)(L:Nat->List Int)(n:Nat)(most:Int):DK:=match kw K n with|true=>plK K I L (plN K I N L n most)|false=>K
theorem vf{K n}(h:dOk K)(a:n<=5000):kw K n=true:=by unfold kw;rw[fj h,CR a];rfl
theorem vg{K n}(h:¬(dOk K/\n<=5000)):kw K n=false:=by
 unfold kw;by_cases a:dOk K
 ·rw[CP (fun b=>h ⟨a,b⟩)];simp
 ·rw[gk a];rfl
theorem Db{K n}(h:dOk K)(b:n<=5000)(c N L a):ppN K c N L n a=plN K c N L n a:=by unfold ppN;rw[vf h b]
theorem vh{K n}(h:dOk K)(c:n<=5000)(b N L a):ppK K b N L n a=plK K b L (plN K b N L n a):=by unfold ppK;rw[vf h c]
theorem Dc{K n}(h:¬(dOk K/\n<=5000))(b N L a):ppN K b N L n a=0:=by unfold ppN;rw[vg h]
theorem qI{K n}(h:¬(dOk K/\n<=5000))(b N L a):ppK K b N L n a=K:=by unfold ppK;rw[vg h]
def bp(At:Nat->Int)(t:Int):Nat->List Nat
 |0=>[]
 |m+1=>if At m=t then bp At t m++[m]else bp At t m
theorem nN{At t m}(h:At m=t):bp At t (m+1)=bp At t m++[m]:=by simp[bp,h]
theorem nO{At t m}(h:At m≠t):bp At t (m+1)=bp At t m:=by simp[bp,h]
theorem qJ{At t}:∀{m i:Nat},i∈bp At t m->i<m/\At i=t
 |0,i,h=>by simp[bp]at h
 |m+1,i,h=>by
  by_cases e:At m=t
  ·rw[nN e]at h;rcases w6.1 h with h|h
   ·have:=qJ h;exact⟨uA,this.2⟩
   ·simp at h;subst h;exact⟨uA,e⟩
  ·rw[nO e]at h;have:=qJ h;exact⟨uA,this.2⟩
theorem nP{At t}:∀m,(bp At t m).length<=m
 |0=>by simp[bp]
 |m+1=>by
  have:=nP (At:=At) (t:=t) m;by_cases e:At m=t
  ·rw[nN e];simp;omega
  ·rw[nO e];omega
def cnt(K:DK)(t:Nat):Nat:=(bp K.At (t:Int) K.m).length
def chB(c:List Int)(n:Nat):Int:=if c.length=0 then 0 else c.getD (n%c.length) 0
def de(K:DK):Nat->Nat
 |0=>0
 |t+1=>if cnt K t=0 then de K t else de K t+1
theorem vi(K):∀t,de K t<=t
 |0=>t6
 |t+1=>by
  have:=vi K t;unfold de;split<;>omega
def chJ(K:DK)(c:List Int)(t:Nat):Nat:=(chB c (de K t)).toNat%(cnt K t+1)
def chQ(K:DK)(c:List Int)(t:Nat):Option Nat:=if chJ K c t=0 then none else some ((bp K.At (t:Int) K.m).getD (chJ K c t-1) 0)
theorem qK(K c t):chJ K c t<=cnt K t:=by
 have:=Nat.mod_lt (chB c (de K t)).toNat (show 0<cnt K t+1 by omega);unfold chJ;omega
theorem Dd{K c t}(h:cnt K t=0):chJ K c t=0:=by have:=qK K c t;omega
theorem nQ{K c t}(h:chJ K c t=0):chQ K c t=none:=by simp[chQ,h]
theorem vj{K c t}(h:chJ K c t≠0):chQ K c t=some ((bp K.At (t:Int) K.m).getD (chJ K c t-1) 0):=by simp[chQ,h]
theorem De{l:List Nat}{i}(h:i<l.length):l.getD i 0∈l:=by
 rw[yc,wS h];exact za h
theorem vl{K c t q}(h:chQ K c t=some q):q<K.m/\K.At q=(t:Int):=by
 by_cases a:chJ K c t=0
 ·rw[nQ a]at h;cases h
 ·rw[vj a]at h;cases h;have b:=qK K c t;unfold cnt at b;exact qJ (De uA)
def pk{α:Type}(ch:Nat->Option Nat)(f g:Nat->α)(t:Nat):α:=match ch t with|some q=>f q|none=>g t
theorem vm{b:Type}{a t}(f g:Nat->b)(h:a t=none):pk a f g t=g t:=by simp[pk,h]
theorem vn{b:Type}{a t q}(f g:Nat->b)(h:a t=some q):pk a f g t=f q:=by simp[pk,h]
def dK{α:Type}(ch:Nat->Option Nat)(f g:Nat->α)(j t:Nat):α:=if t<j then pk ch f g t else g t
theorem Df{b:Type}(a)(f g:Nat->b)(t):dK a f g 0 t=g t:=by simp[dK]
theorem Dg{b:Type}(a)(f g:Nat->b)(j):dK a f g j j=g j:=by simp[dK]
theorem Dh{b:Type}(a)(f g:Nat->b){n t}(h:t<n):dK a f g n t=pk a f g t:=by simp[dK,h]
theorem vp{c:Type}(a)(f g:Nat->c){j t}(h:t≠j):dK a f g (j+1) t=dK a f g j t:=by
 unfold dK;by_cases b:t<j
 ·rw[B4 b,B4 uA]
 ·rw[CH b,CH uA]
theorem Di{b:Type}{a}(f g:Nat->b){j}(h:a j=none)(t):dK a f g (j+1) t=dK a f g j t:=by
 by_cases e:t=j
 ·subst e;rw[Dg];unfold dK;rw[B4 uA,vm f g h]
 ·exact vp a f g e
theorem Dj{b:Type}{a}(f g:Nat->b){j q}(h:a j=some q):dK a f g (j+1) j=f q:=by unfold dK;rw[B4 uA,vn f g h]
def crK(K:DK)(c:List Int):DK:=⟨K.n,pk (chQ K c) K.D K.S,0,K.At,K.D⟩
theorem Dk{K}(c)(h:dOk K):dOk (crK K c):=by
 refine⟨⟨h.1.1,h.1.2.1,wa _⟩,fun i b=> ?_,fun j d=>absurd d (xN _)⟩;show(pk (chQ K c) K.D K.S i).length=64;cases a:chQ K c i with
 |none=>rw[vm _ _ a];exact h.2.1 i b
 |some q=>rw[vn _ _ a];exact(h.2.2 q (vl a).1).2.2
theorem Dl{l}(h:IsB l)(n):0<=chB l n/\chB l n<256:=by
 unfold chB;split
 ·omega
 ·exact h _
def wrV(pA:Nat->Option Addr)(pN pC:Nat->Nat)(l:List Nat):List Value:=l.map fun q=> .slice (pA q) (pN q) (pC q)
theorem Dm(a c b l m):wrV a c b l++[.slice (a m) (c m) (b m)]=wrV a c b (l++[m]):=by simp[wrV]
theorem Dn(s n v pc f m l K)(t:Nat)(w)(ak:RRecs 1 w n K.m pc (aI K) f m l K.D)(a1:K.m<=5000)(a2:t<4096):
 Calls prog 104 #[.agg #[.slice s K.n v,.slice n K.m pc],.int .i64 (t:Int)] w fun e w'=> ∃a c,e= .returned (.slice a (cnt K t) c)/\Below w.1.size w w'/\w'.ownsRow w.1.size 56 1 (.slice a (cnt K t) c) (cnt K t) (wrV f m l (bp K.At (t:Int) K.m)):=by
 obtain⟨i,af,V,W,X⟩:=DB ql;have ae:Hid _:=(B2 w.1.size w).alloc t6 (.cells #[.slice s K.n v,.slice n K.m pc] 35);have N:=World.ownsRow_lit (base:=w.1.size+1) (e:=56) (size:=1) (w.alloc (.cells #[.slice s K.n v,.slice n K.m pc] 35)) #[] 0 vo (wa _) vo;rw[World.size_alloc]at N;have Y:Below (w.1.size+1) (w.alloc (.cells #[.slice s K.n v,.slice n K.m pc] 35)) ((w.alloc (.cells #[.slice s K.n v,.slice n K.m pc] 35)).alloc (.cells #[] 56)):=t7.alloc vo _;have J:=uv N Y;clear N Y;go_enter func104,ntmps104;go_wp2;go_loopw [5,6] (fun u i wr=> ∃(j:Nat)(a:Option Addr)(c:Nat),j<=K.m/\i= .int .i64 j/\u= .slice a (bp K.At (t:Int) j).length c/\Below (w.1.size+1) (w.alloc (.cells #[.slice s K.n v,.slice n K.m pc] 35)) wr/\wr.ownsRow (w.1.size+1) 56 1 (.slice a (bp K.At (t:Int) j).length c) (bp K.At (t:Int) j).length (wrV f m l (bp K.At (t:Int) j))) (fun _ i _=>K.m-(intOf i).toNat)
 case atStart=>exact⟨0,some ⟨w.1.size+1,0,none⟩,0,wa _,rfl,rfl,J.out.2,J.out.1⟩
 case round=>
  clear J;obtain⟨j,a,c,S,rfl,rfl,o,r⟩:=hrel;have aT:wr.cell? ⟨w.1.size,1,none⟩=some (.slice n K.m pc):=by rw[o.cell (p:=⟨w.1.size,1,none⟩) (x3 _)];simp
  have H:Hid (Below w.1.size w wr):=ae.out.trans (o.mono (x0 _));have aS:=nP (At:=K.At) (t:=(t:Int)) j;by_cases G:j<K.m
  ·obtain⟨C,d,rfl,y,F⟩:=ak.at_ uA;have k0:wr.cell? ⟨C,d+j*2,none⟩=some (.int .i64 (K.At j)):=by rw[H.out.cell (p:=⟨C,d+j*2,none⟩) y];exact(F j G).1 0 uA
   have a3:wr.cell? ⟨C,d+j*2+1,none⟩=some (.slice (f j) (m j) (l j)):=by rw[H.out.cell (p:=⟨C,d+j*2+1,none⟩) y];exact(F j G).2
   have aA:(0:Int)<=(j:Int):=uA;have aB:(j:Int)< (K.m:Int):=uA;by_cases b:K.At j=(t:Int)
   ·have am:(K.At j==(t:Int))=true:=by simp[b]
    have x:Hid (bp K.At (t:Int) (j+1)=bp K.At (t:Int) j++[j]):=nN b;generalize a0:bp K.At (t:Int) j=O at*;have I:Hid _:=o;have A:Hid _:=r;have U:=o.size;rw[World.size_alloc]at U;have q:∀D u,[Value.slice (f j) (m j) (l j)][D]?=some u->(wr.alloc (.cells #[.slice (f j) (m j) (l j)] 56)).cell? ((⟨wr.1.size,0,none⟩:Addr).add D)=some u:=fun D u S=>cell_one_new _ _ _ D u S;have ab:Hid _:=q;clear o r b q;go_wp2_with (at_builtin;refine wpList_append_own _ rfl _ _ 22 rfl (w.1.size+1) 56 i _ 1 24 underlying22 af V W X rfl uA _ O.length (wrV f m l O) rfl ?own ⟨wr.1.size,0,none⟩ 1 1 [.slice (f j) (m j) (l j)] rfl ?len ?cells ?one ?l1 ?l2 ?B ?_)
    case own=>exact CV A.out _
    case len=>rfl
    case cells=>exact ab.out
    case one=>intro u T;simp at T;subst T;rfl
    case l1=>unfold maxLen;omega
    case l2=>omega
    case B=>simp;omega
    intro v1 w1 E R _;have an:∃L M,v1= .slice L (O.length+1) M:=by
     rcases E.2 with⟨_,aX⟩|⟨g,Q,ap,e,_⟩
     ·omega
     ·exact⟨_,Q,e⟩
    obtain⟨L,M,z⟩:=an;rw[z]at E;rw[z];have P:=(I.out.alloc U (.cells #[.slice (f j) (m j) (l j)] 56)).grown R (by simp;omega) (fun k ag=>(Ct A.out k ag).1);have ac:Hid _:=E;have Z:Hid _:=P;clear E R z P;go_wp2;go_roundw
    case rel=>exact⟨j+1,L,M,uA,by go_num,by rw[x.out];simp,Z.out,by rw[x.out,<-Dm,wb];exact ac.out⟩
    case measure=>simp[intOf];omega
   ·have am:(K.At j==(t:Int))=false:=by simp[b]
    have x:Hid (bp K.At (t:Int) (j+1)=bp K.At (t:Int) j):=nO b;have I:Hid _:=o;have A:Hid _:=r;clear o r b;go_wp2;go_roundw
    case rel=>exact⟨j+1,a,c,uA,by go_num,by rw[x.out],I.out,by rw[x.out];exact A.out⟩
    case measure=>simp[intOf];omega
  ·have e:j=K.m:=uA;subst e;have ad:Hid _:=r;clear r;go_wp2;go_ret;exact⟨a,c,rfl,H.out,World.ownsRow.mono ad.out (x0 _)⟩
