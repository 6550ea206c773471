import Derived.Test.YtglbanolhhjjiaaGreatDoorFo7
import Derived.Maps.OwnRows
namespace Go.Proofs.YtglbanolhhjjiaaGreatDoor
open Go.Proofs.Tryz
open Go.RowKit Go.ChangeShapes
set_option linter.unusedVariables false
set_option maxRecDepth 100000
set_option maxHeartbeats 32000000
def wrK(K:DK)(t:Int)(l:List Int):DK:=⟨K.n,K.S,K.m+1,upd K.At K.m t,upd K.D K.m l⟩
def syK(K:DK):DK:=⟨K.n,gL K,0,K.At,K.D⟩
def wrP(K:DK)(k t:Int)(n:Nat):Prop:=k=1/\0<=t/\t<K.n/\n=64/\K.m<5000
def syP(k t:Int)(n:Nat):Prop:=k=2/\t=0/\n=0
instance (K:DK) (k t:Int) (n:Nat):Decidable (wrP K k t n):=inferInstanceAs (Decidable (_/\_))
instance (k t:Int) (n:Nat):Decidable (syP k t n):=inferInstanceAs (Decidable (_/\_))
def doB(K:DK)(k t:Int)(n:Nat):Bool:=decide (wrP K k t n\/syP k t n)
def doK(K:DK)(k t:Int)(l:List Int):DK:=if wrP K k t l.length then wrK K t l else if syP k t l.length then syK K else K
theorem vd{K k t l}(a:wrP K k t l.length):doK K k t l=wrK K t l:=BC a
theorem ve{K k t l}(b:syP k t l.length):doK K k t l=syK K:=by
 unfold doK;rw[BX (fun a=>by have c:=b.1;have d:=a.1;omega),BC b]
theorem qD{K k t l}(a:¬wrP K k t l.length)(b:¬syP k t l.length):doK K k t l=K:=by
 unfold doK;rw[BX a,BX b]
theorem CK{K k t n}(a:wrP K k t n):doB K k t n=true:=B2 (u5 a)
theorem CL{K k t n}(a:syP k t n):doB K k t n=true:=B2 (u4 a)
theorem CM{K k t n}(a:¬wrP K k t n)(b:¬syP k t n):doB K k t n=false:=B1 (fun c=>c.elim a b)
theorem CN{K}{t:Int}{l}(n:dOk K)(g:0<=t)(h:t<K.n)(i:l.length=64)(k:K.m<5000):dOk (wrK K t l):=by
 obtain⟨⟨a,b,c⟩,d,e⟩:=n;refine⟨⟨a,b,k⟩,d,fun j m=> ?_⟩;show 0<=upd K.At K.m t j/\upd K.At K.m t j<K.n/\(upd K.D K.m l j).length=64;by_cases f:j=K.m
 ·subst f;rw[be,be];exact⟨g,h,i⟩
 ·rw[bw _ _ _ f,bw _ _ _ f];exact e j (by have:j<K.m+1:=m;omega)
theorem CO{K}(a:dOk K):dOk (syK K):=by
 refine⟨⟨a.1.1,a.1.2.1,u6 _⟩,fun i b=>qo a b,fun j c=>absurd c (w8 _)⟩
theorem CQ{K k t l}(c:dOk K):dOk (doK K k t l):=by
 by_cases a:wrP K k t l.length
 ·rw[vd a];exact CN c a.2.1 a.2.2.1 a.2.2.2.1 a.2.2.2.2
 ·by_cases b:syP k t l.length
  ·rw[ve b];exact CO c
  ·rw[qD a b];exact c
theorem mh(N c):∀n,(∀i,i<n->N i=c)->jy N n=c*n
 |0,_=>by simp[jy]
 |n+1,d=>by
  have a:=mh N c n (fun i e=>d i t7);have b:=d n (xc _);simp only[jy];rw[a,b,Nat.mul_add,Nat.mul_one]
theorem qE{w d K}(j:RDisk w d K)(l:dOk K):Small d K:=by
 obtain⟨⟨a,b,c⟩,e,f⟩:=l;have k:∀i,i<K.n->d.sN i=64:=fun i g=>by have:=(j.safe.data i g).len_eq;rw[<-this];exact e i g
 have h:∀i,i<K.m->d.pN i=64:=fun i g=>by have:=(j.pend.data i g).len_eq;rw[<-this];exact(f i g).2.2
 refine⟨t7,t7,fun i g=>by rw[k i g];omega,fun i g=>by rw[h i g];omega,?_⟩;show mk 1 d.pN (mk 0 d.sN 1 K.n) K.m<=_;rw[l5,l5,mh _ 64 _ k,mh _ 64 _ h];simp;omega
theorem qF(w:World)(a):w.grownBy w a:=⟨rfl,rfl,rfl,t1,fun _ _ _=>rfl⟩
theorem mi{a w:World}{b}(c:a.grownBy w (some b))(i v):a.grownBy (w.setCell ⟨b,i,none⟩ v) (some b):=by
 have q:=(Bn 0 w).setCell (p:=⟨b,i,none⟩) (u6 _) v;exact⟨q.os.trans c.os,q.tape.trans c.tape,q.output.trans c.output,u9 c.size q.size,fun k f d=>(Below.heap_setCell w ⟨b,i,none⟩ v k (fun e=>d (by rw[e]))).trans (c.block k f d)⟩
theorem CU{a w:World}{b}(c:a.grownBy w b):a.grownBy w.drew b:=⟨c.os,c.tape,c.output,c.size,c.block⟩
theorem qG(b a):∀n,dy 0 b a n=(List.range n).map a
 |0=>rfl
 |n+1=>by rw[dy,qG b a n,List.range_succ,zz];simp[dH]
theorem qH{At t}:∀{j i:Nat},dJ At t j=some i->At i=t
 |0,i,a=>by simp[dJ]at a
 |j+1,i,a=>by
  simp only[dJ]at a;split at a
  ·cases a;assumption
  ·exact qH a
theorem CW{B g w0 w d K}(l:ODisk B w0 d K)(A:d.sa=some ⟨g,0,none⟩)(C:w0.grownBy w (some g))(E:w.ownsRow B 56 1 (.slice (some ⟨g,0,none⟩) K.n d.sc) K.n (dT K.At d.pA d.sA d.pN d.sN d.pC d.sC K.n K.m)):
 ORecs 0 56 B w (some ⟨g,0,none⟩) K.n d.sc zI (aP K.At d.pA d.sA K.m) (aP K.At d.pN d.sN K.m) (aP K.At d.pC d.sC K.m) (gL K):=by
 have hrow:=l.safe.row;rw[A]at hrow;have h:∀{m:Option Addr}{o n:Nat}{s:List Int},Own B w0 m o n s->Own B w m o n s:=fun{m o n s} v=>by
  refine World.ownsRow.kept v C ?_;cases a:(Value.slice m o n).ownBlock with
  |none=>exact u5 rfl
  |some k=>exact u4 fun u=>jR v hrow uv k a (by rw[u];rfl)
 refine⟨?_,fun t r=> ?_,fun t r=> ?_,fun i j x y k a=> ?_⟩
 ·rw[qG];exact E
 ·unfold gL aP;cases D:dJ K.At (t:Int) K.m with
  |none=>exact h (l.safe.data t r)
  |some q=>exact h (l.pend.data q (iv D))
 ·exact uk (P:=IsB) r t1 l.pend.byte l.safe.byte
 ·unfold aP at a ⊢;cases b:dJ K.At (i:Int) K.m with
  |none=>
   rw[b]at a;cases c:dJ K.At (j:Int) K.m with
   |none=>exact l.safe.sep1 i j x y k a
   |some q=>exact l.sepX i q t7 (iv c) k a
  |some p=>
   rw[b]at a;cases c:dJ K.At (j:Int) K.m with
   |none=>exact fun f=>l.sepX j p y (iv b) k f a
   |some q=>
    have u:=qH b;have F:=qH c;have z:p≠q:=fun e=>by subst e;omega
    rcases Nat.lt_or_gt_of_ne z with hlt|hlt
    ·exact l.pend.sep1 p q hlt (iv c) k a
    ·exact fun f=>l.pend.sep1 q p hlt (iv b) k f a
theorem CX(B g b m u pc o c r q h f K D E w)(hx:w.heap[g]?=some (.cells #[.slice (some ⟨b,0,none⟩) K.n m,.slice u K.m pc] 35 (0,0)))(af:ODisk B w ⟨some ⟨b,0,none⟩,m,o,r,q,u,pc,c,h,f⟩ K)(ac:dOk K)(aB:B<=g):
 Calls prog 103 #[.pointer (some ⟨g,0,none⟩),.agg #[.int .i64 2,.int .i64 0,.slice D 0 E]] w fun e w'=>e= .returned (.bool true)/\Below B w w'/\∃S,IsBox w' g S (syK K)/\ODisk B w' S (syK K):=by
 obtain⟨⟨a4,a5,a3⟩,_,W⟩:=ac;have H:g<w.1.size:=(vR.1 hx).1;have F:=(Bn w.1.size w).alloc t1 (.cells #[.int .i64 2,.int .i64 0,.slice D 0 E] 157);have G:=hx;rw[<-F.block g H]at G;have U:=af.below F;have bl:(w.alloc (.cells #[.int .i64 2,.int .i64 0,.slice D 0 E] 157)).1.size=w.1.size+1:=by simp
 have Z:b≠g:=fun e=>BK af.safe.row hx uv rfl e.symm;have V:B<=b:=(fA af.safe.row rfl).1;have R:Hid _:=F;have am:Hid _:=W;clear F W hx af;go_enter func103,ntmps103;go_wp2_with fail;generalize Y:w.alloc (.cells #[.int .i64 2,.int .i64 0,.slice D 0 E] 157)=L at*;clear Y;have J:∀v:World,L.grownBy v (some b)->v.heap[g]?=some (.cells #[.slice (some ⟨b,0,none⟩) K.n m,.slice u K.m pc] 35 (0,0)):=fun v aT=>by
  rw[aT.block g t7 (fun e=>Z (by cases e;rfl))];exact G
 have Q:Hid _:=J;have x:Hid _:=U;clear J U;go_loopw [5] (fun i wr=> ∃j:Nat,j<=K.m/\i= .int .i64 j/\L.grownBy wr (some b)/\wr.ownsRow B 56 1 (.slice (some ⟨b,0,none⟩) K.n m) K.n (dT K.At c o h r f q K.n j)) (fun i _=>K.m-(intOf i).toNat)
 case atStart=>exact⟨0,u6 _,rfl,qF _ _,by have:=x.out.safe.row;rw[qG]at this;exact this⟩
 case round=>
  obtain⟨j,ab,rfl,n,t⟩:=hrel;have s:=Q.out wr n;have a9:wr.cell? ⟨g,0,none⟩=some (.slice (some ⟨b,0,none⟩) K.n m):=by rw[CV wr _ 0 _ _ _ s];rfl
  have aA:wr.cell? ⟨g,1,none⟩=some (.slice u K.m pc):=by rw[CV wr _ 1 _ _ _ s];rfl
  by_cases z:j<K.m
  ·obtain⟨l,ad,_⟩:=lW x.out.pend t7;have M:u=some ⟨l,0,none⟩:=ad;subst M;have A:=x.out.pend;have I:l≠b:=fun e=>jR A.row x.out.safe.row uv l rfl (by rw[e];rfl);have H:l<L.1.size:=(fA A.row rfl).2;have y:=am.out j z;obtain⟨T,C⟩:=xb y.1;have a6:Hid (K.At j=(T:Int)):=C;have X:T<K.n:=by have:=y.2.1;omega
   have k0:wr.cell? ⟨l,j*2,none⟩=some (.int .i64 (T:Int)):=n.cell (a:=⟨l,j*2,none⟩) (by have:=A.cellInt j 0 z t7;rw[show aI K j 0=(T:Int)from C]at this;exact this) (fun e=>I (by cases e;rfl));have bd:wr.cell? ⟨l,j*2+1,none⟩=some (.slice (c j) (h j) (f j)):=n.cell (a:=⟨l,j*2+1,none⟩) (A.cellData j z) (fun e=>I (by cases e;rfl));have N:wr.cell? ⟨b,T,none⟩=some (.slice (aP K.At c o j T) (aP K.At h r j T) (aP K.At f q j T)):=by rw[t.cellAt T t7,jv _ _ _ _ _ _ _ _ _ _ X]
   have ba:wr.frozen? ⟨b,T,none⟩=false:=t.frozenAt T;have O:=(t.stored T (.slice (c j) (h j) (f j))).1;rw[ul _ _ _ _ _ _ _ _ _ _ C]at O;have ST:Hid (World.ownsRow (wr.setCell ⟨b,T,none⟩ (.slice (c j) (h j) (f j))) B 56 1 (.slice (some ⟨b,0,none⟩) K.n m) K.n (dT K.At c o h r f q K.n (j+1))):=O;have ag:Hid _:=mi n T (.slice (c j) (h j) (f j));have a0:(0:Int)<=(j:Int):=t7;have a1:(j:Int)< (K.m:Int):=t7;have a2:(0:Int)<=(T:Int):=t7;have hi4:(T:Int)< (K.n:Int):=t7;generalize aP K.At c o j T=bf at N;generalize aP K.At h r j T=bk at N;generalize aP K.At f q j T=bg at N;clear O t n A C y s G;go_wp2_with fail;go_region
   all_goals
    go_wp2;go_roundw
    case rel=>exact⟨j+1,t7,by go_num,CU ag.out,ST.out⟩
    case measure=>simp[intOf];omega
  ·have e:j=K.m:=t7;subst e;have ak:Hid _:=t;have P:Hid _:=n;have bb:g<wr.1.size:=(vR.1 s).1;have a7:wr.cell? ⟨g,1,none⟩=some (.slice u K.m pc):=aA;have a8:wr.frozen? ⟨g,1,none⟩=false:=frozen_of_row _ _ 1 _ _ s;clear t n G;go_wp2;go_ret;refine⟨rfl,?_,⟨some ⟨b,0,none⟩,m,aP K.At c o K.m,aP K.At h r K.m,aP K.At f q K.m,some ⟨wr.1.size,0,none⟩,0,c,h,f⟩,?_,?_,?_,?_⟩
   ·have an:Below B w wr:=(R.out.mono t7).grown P.out (by have:=R.out.size;omega) (fun k aS=>by cases aS;exact V);exact(an.setCell (p:=⟨g,1,none⟩) aB _).alloc (by rw[World.size_setCell];omega) _
   ·have ap:=heap_setCell_same _ _ 1 _ _ (.slice (some ⟨wr.1.size,0,none⟩) 0 0) s;exact IsBox.below (d:=⟨some ⟨b,0,none⟩,m,aP K.At c o K.m,aP K.At h r K.m,aP K.At f q K.m,some ⟨wr.1.size,0,none⟩,0,c,h,f⟩) (K:=syK K) ap (bAl _ _)
   ·have aX:=CW (w:=wr) x.out rfl P.out ak.out;exact(aX.setOther s uv uv 1 (.slice (some ⟨wr.1.size,0,none⟩) 0 0)).below (bAl _ _)
   ·have ae:=io 1 133 B (wr.setCell ⟨g,1,none⟩ (.slice (some ⟨wr.1.size,0,none⟩) 0 0)) (by rw[World.size_setCell];omega) (aI (syK K)) c h f K.D;rw[World.size_setCell]at ae;exact ae
   ·exact fun i j bc ab=>absurd ab (w8 _)
theorem CY(B g G o H pc ac N ae ad P O K T c d s w)(hx:w.heap[g]?=some (.cells #[.slice G K.n H,.slice o K.m pc] 35 (0,0)))(m:ODisk B w ⟨G,H,ac,ae,ad,o,pc,N,P,O⟩ K)(bP:T<K.n)(bT:K.n<=4096)(bS:K.m<5000)(R:Bs w c 64 d s)(bs:B<=g):
 Calls prog 103 #[.pointer (some ⟨g,0,none⟩),.agg #[.int .i64 1,.int .i64 (T:Int),.slice c 64 d]] w fun e w'=>e= .returned (.bool true)/\Below B w w'/\∃aA,IsBox w' g aA (wrK K T s)/\ODisk B w' aA (wrK K T s):=by
 have a0:=(vR.1 hx).1;have E:=(Bn w.1.size w).alloc t1 (.cells #[.int .i64 1,.int .i64 (T:Int),.slice c 64 d] 157);have I:=hx;rw[<-E.block g a0]at I;have aB:=m.below E;have U:=R.below E;have bf:(w.alloc (.cells #[.int .i64 1,.int .i64 (T:Int),.slice c 64 d] 157)).1.size=w.1.size+1:=by simp
 have bu:(w.alloc (.cells #[.int .i64 1,.int .i64 (T:Int),.slice c 64 d] 157)).cell? ⟨w.1.size,0,none⟩=some (.int .i64 1):=by simp
 have a7:(w.alloc (.cells #[.int .i64 1,.int .i64 (T:Int),.slice c 64 d] 157)).cell? ⟨w.1.size,1,none⟩=some (.int .i64 (T:Int)):=by simp
 have a8:(w.alloc (.cells #[.int .i64 1,.int .i64 (T:Int),.slice c 64 d] 157)).cell? ⟨w.1.size,2,none⟩=some (.slice c 64 d):=by simp
 have ak:(w.alloc (.cells #[.int .i64 1,.int .i64 (T:Int),.slice c 64 d] 157)).heap[w.1.size]?=some (.cells #[.int .i64 1,.int .i64 (T:Int),.slice c 64 d] 157 (0,0)):=DI w _;have ag:Hid _:=E;have br:(w.alloc (.cells #[.int .i64 1,.int .i64 (T:Int),.slice c 64 d] 157)).cell? ⟨g,0,none⟩=some (.slice G K.n H):=by rw[CV _ _ 0 _ _ _ I];rfl
 have ap:(w.alloc (.cells #[.int .i64 1,.int .i64 (T:Int),.slice c 64 d] 157)).cell? ⟨g,1,none⟩=some (.slice o K.m pc):=by rw[CV _ _ 1 _ _ _ I];rfl
 clear E hx m R;go_enter func103,ntmps103;have bE:decide ((T:Int)<0)=false:=B1 t7;have bF:decide ((5000:Int)<=(K.m:Int))=false:=B1 t7;go_wp2_with fail;generalize aT:w.alloc (.cells #[.int .i64 1,.int .i64 (T:Int),.slice c 64 d] 157)=l at*;clear aT
 go_quiet (fail)
 have Y:Below l.1.size l (l.drewN nq):=C5 t2 nq;have bc:(l.drewN nq).heap[g]?=some (.cells #[.slice G K.n H,.slice o K.m pc] 35 (0,0)):=I;have aS:=aB.below Y;have V:=U.below Y;have a5:(l.drewN nq).cell? ⟨w.1.size,1,none⟩=some (.int .i64 (T:Int)):=a7;have a6:(l.drewN nq).cell? ⟨w.1.size,2,none⟩=some (.slice c 64 d):=a8;have a3:(l.drewN nq).cell? ⟨g,1,none⟩=some (.slice o K.m pc):=ap;have bZ:(l.drewN nq).1.size=w.1.size+1:=bf;have am:(l.drewN nq).heap[w.1.size]?=some (.cells #[.int .i64 1,.int .i64 (T:Int),.slice c 64 d] 157 (0,0)):=ak;have bm:Hid (Below w.1.size w (l.drewN nq)):=C5 ag.out nq;generalize aX:l.drewN nq=z at*;clear aX ak Y I aB U bu a7 a8 br ap bf ag l;have bC:B<=z.1.size:=t7;have S:∀v:World,Below z.1.size z v->v.cell? ⟨w.1.size,1,none⟩=some (.int .i64 (T:Int))/\v.cell? ⟨w.1.size,2,none⟩=some (.slice c 64 d)/\v.cell? ⟨g,1,none⟩=some (.slice o K.m pc):=fun v W=>by
  refine⟨?_,?_,?_⟩
  ·rw[W.cell (p:=⟨w.1.size,1,none⟩) (by show w.1.size<_;omega)];exact a5
  ·rw[W.cell (p:=⟨w.1.size,2,none⟩) (by show w.1.size<_;omega)];exact a6
  ·rw[W.cell (p:=⟨g,1,none⟩) (by show g<_;omega)];exact a3
 have t:Hid _:=S;have bl:Hid (∀v:World,v.heap[w.1.size]?=some (.cells #[.int .i64 1,.int .i64 (T:Int),.slice c 64 d] 157 (0,0))->v.cell? ⟨w.1.size,1,none⟩=some (.int .i64 (T:Int))/\v.cell? ⟨w.1.size,2,none⟩=some (.slice c 64 d)):=fun v a2=>⟨by rw[CV v _ 1 _ _ _ a2];rfl,by rw[CV v _ 2 _ _ _ a2];rfl⟩;have bg:Hid _:=am;clear am;have bk:Hid _:=bc;have r:Hid _:=aS;have af:Hid _:=V;clear S bc aS V;go_wp2_with fail;refine az (fun v=>v.cell? ⟨w.1.size,1,none⟩=some (.int .i64 (T:Int))/\v.cell? ⟨w.1.size,2,none⟩=some (.slice c 64 d)/\v.cell? ⟨g,1,none⟩=some (.slice o K.m pc)) (fun j=>j==15) uA ?_;have h:=t.out z.drew t2.drew;refine cY 0 (v:= ?vv0) rfl uA uA uA uA (fun _ _ _ m=>m) (u5 ⟨by rfl,?hy0⟩) h ?rest0
 case hy0=>(intro w a;(try dsimp only at a);go_simp;try with_reducible rfl)
 refine cY 1 (v:= ?vv1) rfl uA uA uA uA (fun _ _ _ m=>m) (u5 ⟨by rfl,?hy1⟩) h ?rest1
 case hy1=>(intro w a;(try dsimp only at a);go_simp;try with_reducible rfl)
 refine cY 2 (v:= ?vv2) rfl uA uA uA uA (fun _ _ _ m=>m) (u5 ⟨by rfl,?hy2⟩) h ?rest2
 case hy2=>(intro w a;(try dsimp only at a);go_simp;try with_reducible rfl)
 refine cY 3 (v:= ?vv3) rfl uA uA uA uA (fun _ _ _ m=>m) (u5 ⟨by rfl,?hy3⟩) h ?rest3
 case hy3=>(intro w a;(try dsimp only at a);go_simp;try with_reducible rfl)
 refine cY 4 (v:= ?vv4) rfl uA uA uA uA (fun _ _ _ m=>m) (u5 ⟨by rfl,?hy4⟩) h ?rest4
 case hy4=>(intro w a;(try dsimp only at a);go_simp;try with_reducible rfl)
 refine cY 5 (v:= ?vv5) rfl uA uA uA uA (fun _ _ _ m=>m) (u5 ⟨by rfl,?hy5⟩) h ?rest5
 case hy5=>(intro w a;(try dsimp only at a);go_simp;try with_reducible rfl)
 refine cY 6 (v:= ?vv6) rfl uA uA uA uA (fun _ _ _ m=>m) (u5 ⟨by rfl,?hy6⟩) h ?rest6
 case hy6=>(intro w a;(try dsimp only at a);go_simp;try with_reducible rfl)
 refine cY 7 (v:= ?vv7) rfl uA uA uA uA (fun _ _ _ m=>m) (u5 ⟨by rfl,?hy7⟩) h ?rest7
 case hy7=>(intro w a;(try dsimp only at a);go_simp;try with_reducible rfl)
 refine cY 8 (v:= ?vv8) rfl uA uA uA uA (fun _ _ _ m=>m) (u5 ⟨by rfl,?hy8⟩) h ?rest8
 case hy8=>(intro w a;(try dsimp only at a);go_simp;try with_reducible rfl)
 refine on1 9 fun n f=> ?_;go_wp2_with fail;refine(jV c 64 d s _ (af.out.below t2.drew) t7).mono ?_;rintro e bb ⟨Z,X,rfl,b,M⟩;simp only[DR]at b M;replace b:=l4 b;go_wp2_with fail;refine f.out _ _ (fun _=>t.out bb b) ?_;clear f n;have Q:=t.out bb b;refine cY 10 (v:= ?vv10) rfl uA uA uA uA (fun _ _ _ m=>m) (u5 ⟨by rfl,?hy10⟩) Q ?rest10
 case hy10=>(intro w a;(try dsimp only at a);go_simp;try with_reducible rfl)
 refine cJ 11 uA rfl (fun n f=> ?_);go_simp;refine f.out _ _ (fun _=>t.out _ (b.alloc b.size _)) ?_;clear f n;refine cJ 12 uA rfl (fun n f=> ?_);refine jS (w0:=z) rfl _ _ 33 rfl 1 133 B underlying33 qB uv o K.m pc (aI K) N P O K.D rfl r.out.pend ?_ (fun _=>(T:Int)) Z 64 X s ?_ af.out.byte ?_ _ rfl ?_ ?_ ?_
 ·exact b
 ·exact M
 ·omega
 ·rfl
 ·omega
 intro A C x a9 an a4 J;have y:=kl b r.out.pend.row bk.out uv J;have bd:=kl b r.out.pend.row bg.out uv J;have ab:x.cell? ⟨g,1,none⟩=some (.slice o K.m pc):=by rw[CV x _ 1 _ _ _ y];rfl
 have bv:=frozen_of_row x _ 1 _ _ y;have ba:=r.out.safe.keptT b r.out.pend.row uv uv J;have F:=bl.out x bd;clear a4 J bd;refine f.out _ _ (fun _=>⟨F.1,F.2,ab⟩) ?_;clear f n;have D:=u2 F.1 (u2 F.2 ab);refine cJ 13 uA rfl (fun n f=> ?_);go_simp;refine f.out _ _ (fun _=>D) ?_;clear f n;refine cJ 14 uA rfl (fun n f=> ?_);go_simp;refine f.out _ _ (fun _=>D) ?_;clear f n;refine cJ 15 uA rfl (fun n f=> ?_);go_simp;refine f.out _ _ (fun m=>by cases m) ?_;clear f n;refine j5 uA ?_ _;have bn:Below B w (x.setCell ⟨g,1,none⟩ (.slice A (K.m+1) C)):=
  (((bm.out.mono t7).trans (b.mono t7)).trans an).setCell (p:=⟨g,1,none⟩) bs _
 have bB:=heap_setCell_same x _ 1 _ _ (.slice A (K.m+1) C) y;have bx:=(a9.setOther y uv uv 1 (.slice A (K.m+1) C)).congr' (I':=aI (wrK K T s)) (L':=(wrK K T s).D) (fun i L q bW=>by show upd (aI K) K.m (fun _=>(T:Int)) i q=upd K.At K.m (T:Int) i;unfold upd;split<;>rfl) (fun i L=>rfl);have bA:=ba.setOther y uv uv 1 (.slice A (K.m+1) C);have bz:Hid (∀i j,i<K.n->j<K.m+1->∀k,(Value.slice (ac i) (ae i) (ad i)).ownBlock=some k->(Value.slice (upd N K.m Z j) (upd P K.m 64 j) (upd O K.m X j)).ownBlock≠some k):=fun i j L bR k a1 u=>by
  by_cases e:j=K.m
  ·subst e;rw[be,be,be]at u;have bX:=(fA (r.out.safe.data i L) a1).2;have bY:=(fA M u).1;omega
  ·rw[bw _ _ _ e,bw _ _ _ e,bw _ _ _ e]at u;exact r.out.sepX i j L t7 k a1 u
 clear ab bv y a9 an b M ba a3 a5 a6 h Q D F;go_wp2;go_ret;exact⟨rfl,bn,⟨G,H,ac,ae,ad,A,C,upd N K.m Z,upd P K.m 64,upd O K.m X⟩,bB,bA,bx,bz.out⟩
theorem CZ(g q p r pc K k t a on b w)(L:K.n<=4096)(J:K.m<=5000)(A:on<=maxLen)(hx:w.heap[g]?=some (.cells #[.slice q K.n r,.slice p K.m pc] 35 (0,0)))(y:¬wrP K k t on)(z:¬syP k t on):
 Calls prog 103 #[.pointer (some ⟨g,0,none⟩),.agg #[.int .i64 k,.int .i64 t,.slice a on b]] w fun e w'=>e= .returned (.bool false)/\Below w.1.size w w':=by
 unfold wrP at y;unfold syP at z;unfold maxLen at A;have m:=(vR.1 hx).1;have f:=(Bn w.1.size w).alloc t1 (.cells #[.int .i64 k,.int .i64 t,.slice a on b] 157);have d:=hx;rw[<-f.block g m]at d;have c:Hid _:=f;have F:(w.alloc (.cells #[.int .i64 k,.int .i64 t,.slice a on b] 157)).cell? ⟨g,0,none⟩=some (.slice q K.n r):=by rw[CV _ _ 0 _ _ _ d];rfl
 have G:(w.alloc (.cells #[.int .i64 k,.int .i64 t,.slice a on b] 157)).cell? ⟨g,1,none⟩=some (.slice p K.m pc):=by rw[CV _ _ 1 _ _ _ d];rfl
 have M:(w.alloc (.cells #[.int .i64 k,.int .i64 t,.slice a on b] 157)).cell? ⟨w.1.size,0,none⟩=some (.int .i64 k):=by simp
 have N:(w.alloc (.cells #[.int .i64 k,.int .i64 t,.slice a on b] 157)).cell? ⟨w.1.size,1,none⟩=some (.int .i64 t):=by simp
 have O:(w.alloc (.cells #[.int .i64 k,.int .i64 t,.slice a on b] 157)).cell? ⟨w.1.size,2,none⟩=some (.slice a on b):=by simp
 clear f hx d;by_cases n:k=2
 ·subst n;by_cases o:t=0
  ·subst o;have C:((on:Int) !=0)=true:=by simp;omega
   go_enter func103,ntmps103;go_wp2;go_ret;exact⟨rfl,c.out⟩
  ·have D:(t !=0)=true:=by simp[o]
   go_enter func103,ntmps103;go_wp2;go_ret;exact⟨rfl,c.out⟩
 ·have B:(k==2)=false:=by simp[n]
  go_enter func103,ntmps103;go_wp2_with fail;generalize l:w.alloc (.cells #[.int .i64 k,.int .i64 t,.slice a on b] 157)=E at*;clear l;by_cases h:k=1
  ·subst h;by_cases i:t<0
   ·have s:=B2 i
    go_quiet (fail)
    go_wp2;go_ret;exact⟨rfl,C5 c.out _⟩
   ·have s:=B1 i;by_cases j:(K.n:Int)<=t
    ·have u:=B2 j
     go_quiet (fail)
     go_wp2;go_ret;exact⟨rfl,C5 c.out _⟩
    ·have u:=B1 j;by_cases x:on=64
     ·have v:((on:Int) !=64)=false:=by simp;omega
      have I:decide ((5000:Int)<=(K.m:Int))=true:=B2 t7;clear x
      go_quiet (fail)
      go_wp2;go_ret;exact⟨rfl,C5 c.out _⟩
     ·have v:((on:Int) !=64)=true:=by simp;omega
      go_quiet (fail)
      go_wp2;go_ret;exact⟨rfl,C5 c.out _⟩
  ·have H:(k !=1)=true:=by simp[h]
   go_quiet (fail)
   go_wp2;go_ret;exact⟨rfl,C5 c.out _⟩
theorem C6{K k t n l}(c:l.length=n)(d:doB K k t n=false):doK K k t l=K:=by
 have b:=of_decide_eq_false d;exact qD (fun a=>b (u5 (by rw[c]at a;exact a))) (fun a=>b (u4 (by rw[c]at a;exact a)))
def plK(K:DK)(I:Nat->Nat->Int)(L:Nat->List Int):Nat->DK
 |0=>K
 |j+1=>doK (plK K I L j) (I j 0) (I j 1) (L j)
theorem mj{K}(a L)(b:dOk K):∀j,dOk (plK K a L j)
 |0=>b
 |j+1=>CQ (mj a L b j)
def plB(K:DK)(I:Nat->Nat->Int)(N:Nat->Nat)(L:Nat->List Int)(j:Nat):Bool:=doB (plK K I L j) (I j 0) (I j 1) (N j)
def gP(f:Nat->Bool):Nat->Nat->Nat
 |0,j=>j
 |n+1,j=>match f j with|true=>gP f n (j+1)|false=>j
theorem C7{f a j}(d:j<a)(b:f j=true):gP f (a-j) j=gP f (a-(j+1)) (j+1):=by
 obtain⟨r,c⟩:∃r,a-j=r+1:=⟨a-j-1,t7⟩;rw[c,show a-(j+1)=r by omega,gP,b]
theorem C9{f a j}(d:j<a)(b:f j=false):gP f (a-j) j=j:=by
 obtain⟨r,c⟩:∃r,a-j=r+1:=⟨a-j-1,t7⟩;rw[c,gP,b]
theorem Da{f a j}(b:a<=j):gP f (a-j) j=j:=by
 rw[show a-j=0 by omega,gP]
def iB(n:Nat)(most:Int):Nat:=min n most.toNat
def plN(K:DK)(I:Nat->Nat->Int)(N:Nat->Nat)(L:Nat->List Int)(n:Nat)(most:Int):Nat:=gP (plB K I N L) (iB n most) 0
noncomputable def kw(K:DK)(n:Nat):Bool:=aR K&&decide (n<=5000)
noncomputable def ppN(K:DK)(I:Nat->Nat->Int)(N:Nat->Nat)(L:Nat->List Int)(n:Nat)(most:Int):Nat:=match kw K n with|true=>plN K I N L n most|false=>0
noncomputable def ppK(K:DK)(I:Nat->Nat->Int)(N:Nat->Nat)(L:Nat->List Int)(n:Nat)(most:Int):DK:=match kw K n with|true=>plK K I L (plN K I N L n most)|false=>K
theorem vf{K n}(b:dOk K)(a:n<=5000):kw K n=true:=by unfold kw;rw[fj b,B2 a];rfl
theorem vg{K n}(c:¬(dOk K/\n<=5000)):kw K n=false:=by
 unfold kw;by_cases a:dOk K
 ·rw[B1 (fun b=>c ⟨a,b⟩)];simp
 ·rw[gk a];rfl
theorem Db{K n}(d:dOk K)(b:n<=5000)(c N L a):ppN K c N L n a=plN K c N L n a:=by unfold ppN;rw[vf d b]
theorem vh{K n}(d:dOk K)(c:n<=5000)(b N L a):ppK K b N L n a=plK K b L (plN K b N L n a):=by unfold ppK;rw[vf d c]
theorem Dc{K n}(c:¬(dOk K/\n<=5000))(b N L a):ppN K b N L n a=0:=by unfold ppN;rw[vg c]
theorem qI{K n}(c:¬(dOk K/\n<=5000))(b N L a):ppK K b N L n a=K:=by unfold ppK;rw[vg c]
def bp(At:Nat->Int)(t:Int):Nat->List Nat
 |0=>[]
 |m+1=>if At m=t then bp At t m++[m]else bp At t m
theorem nN{At t m}(a:At m=t):bp At t (m+1)=bp At t m++[m]:=by simp[bp,a]
theorem nO{At t m}(a:At m≠t):bp At t (m+1)=bp At t m:=by simp[bp,a]
theorem qJ{At t}:∀{m i:Nat},i∈bp At t m->i<m/\At i=t
 |0,i,a=>by simp[bp]at a
 |m+1,i,a=>by
  by_cases e:At m=t
  ·rw[nN e]at a;rcases wE.1 a with a|a
   ·have:=qJ a;exact⟨t7,this.2⟩
   ·simp at a;subst a;exact⟨t7,e⟩
  ·rw[nO e]at a;have:=qJ a;exact⟨t7,this.2⟩
theorem nP{At t}:∀m,(bp At t m).length<=m
 |0=>by simp[bp]
 |m+1=>by
  have:=nP (At:=At) (t:=t) m;by_cases e:At m=t
  ·rw[nN e];simp;omega
  ·rw[nO e];omega
def cnt(K:DK)(t:Nat):Nat:=(bp K.At (t:Int) K.m).length
def chB(c:List Int)(n:Nat):Int:=if c.length=0 then 0 else c.getD (n%c.length) 0
def de(K:DK):Nat->Nat
 |0=>0
 |t+1=>if cnt K t=0 then de K t else de K t+1
theorem vi(K):∀t,de K t<=t
 |0=>t1
 |t+1=>by
  have:=vi K t;unfold de;split<;>omega
def chJ(K:DK)(c:List Int)(t:Nat):Nat:=(chB c (de K t)).toNat%(cnt K t+1)
def chQ(K:DK)(c:List Int)(t:Nat):Option Nat:=if chJ K c t=0 then none else some ((bp K.At (t:Int) K.m).getD (chJ K c t-1) 0)
theorem qK(K c t):chJ K c t<=cnt K t:=by
 have:=Nat.mod_lt (chB c (de K t)).toNat (show 0<cnt K t+1 by omega);unfold chJ;omega
theorem Dd{K c t}(a:cnt K t=0):chJ K c t=0:=by have:=qK K c t;omega
theorem nQ{K c t}(a:chJ K c t=0):chQ K c t=none:=by simp[chQ,a]
theorem vj{K c t}(a:chJ K c t≠0):chQ K c t=some ((bp K.At (t:Int) K.m).getD (chJ K c t-1) 0):=by simp[chQ,a]
theorem De{l:List Nat}{i}(a:i<l.length):l.getD i 0∈l:=by
 rw[x3,wy a];exact yb a
theorem vl{K c t q}(b:chQ K c t=some q):q<K.m/\K.At q=(t:Int):=by
 by_cases a:chJ K c t=0
 ·rw[nQ a]at b;cases b
 ·rw[vj a]at b;cases b;have d:=qK K c t;unfold cnt at d;exact qJ (De t7)
def pk{α:Type}(ch:Nat->Option Nat)(f g:Nat->α)(t:Nat):α:=match ch t with|some q=>f q|none=>g t
theorem vm{c:Type}{a t}(f g:Nat->c)(b:a t=none):pk a f g t=g t:=by simp[pk,b]
theorem vn{c:Type}{a t q}(f g:Nat->c)(b:a t=some q):pk a f g t=f q:=by simp[pk,b]
def dK{α:Type}(ch:Nat->Option Nat)(f g:Nat->α)(j t:Nat):α:=if t<j then pk ch f g t else g t
theorem Df{b:Type}(a)(f g:Nat->b)(t):dK a f g 0 t=g t:=by simp[dK]
theorem Dg{b:Type}(a)(f g:Nat->b)(j):dK a f g j j=g j:=by simp[dK]
theorem Dh{c:Type}(a)(f g:Nat->c){n t}(b:t<n):dK a f g n t=pk a f g t:=by simp[dK,b]
theorem vp{c:Type}(a)(f g:Nat->c){j t}(d:t≠j):dK a f g (j+1) t=dK a f g j t:=by
 unfold dK;by_cases b:t<j
 ·rw[BC b,BC t7]
 ·rw[BX b,BX t7]
theorem Di{c:Type}{a}(f g:Nat->c){j}(b:a j=none)(t):dK a f g (j+1) t=dK a f g j t:=by
 by_cases e:t=j
 ·subst e;rw[Dg];unfold dK;rw[BC t7,vm f g b]
 ·exact vp a f g e
theorem Dj{c:Type}{a}(f g:Nat->c){j q}(b:a j=some q):dK a f g (j+1) j=f q:=by unfold dK;rw[BC t7,vn f g b]
def crK(K:DK)(c:List Int):DK:=⟨K.n,pk (chQ K c) K.D K.S,0,K.At,K.D⟩
theorem Dk{K}(c)(b:dOk K):dOk (crK K c):=by
 refine⟨⟨b.1.1,b.1.2.1,u6 _⟩,fun i d=> ?_,fun j e=>absurd e (w8 _)⟩;show(pk (chQ K c) K.D K.S i).length=64;cases a:chQ K c i with
 |none=>rw[vm _ _ a];exact b.2.1 i d
 |some q=>rw[vn _ _ a];exact(b.2.2 q (vl a).1).2.2
theorem Dl{l}(a:IsB l)(n):0<=chB l n/\chB l n<256:=by
 unfold chB;split
 ·omega
 ·exact a _
def wrV(pA:Nat->Option Addr)(pN pC:Nat->Nat)(l:List Nat):List Value:=l.map fun q=> .slice (pA q) (pN q) (pC q)
theorem Dm(a c b l m):wrV a c b l++[.slice (a m) (c m) (b m)]=wrV a c b (l++[m]):=by simp[wrV]
theorem Dn(r m s pc f l h K)(t:Nat)(w)(ag:RRecs 1 w m K.m pc (aI K) f l h K.D)(a0:K.m<=5000)(a1:t<4096):
 Calls prog 104 #[.agg #[.slice r K.n s,.slice m K.m pc],.int .i64 (t:Int)] w fun e w'=> ∃a c,e= .returned (.slice a (cnt K t) c)/\Below w.1.size w w'/\w'.ownsRow w.1.size 56 1 (.slice a (cnt K t) c) (cnt K t) (wrV f l h (bp K.At (t:Int) K.m)):=by
 obtain⟨i,ae,U,V,W⟩:=CT ql;have ad:Hid _:=(Bn w.1.size w).alloc t1 (.cells #[.slice r K.n s,.slice m K.m pc] 35);have M:=World.ownsRow_lit (base:=w.1.size+1) (e:=56) (size:=1) (w.alloc (.cells #[.slice r K.n s,.slice m K.m pc] 35)) #[] 0 uB (u6 _) uB;rw[World.size_alloc]at M;have X:Below (w.1.size+1) (w.alloc (.cells #[.slice r K.n s,.slice m K.m pc] 35)) ((w.alloc (.cells #[.slice r K.n s,.slice m K.m pc] 35)).alloc (.cells #[] 56)):=t2.alloc uB _;have I:=t6 M X;clear M X;go_enter func104,ntmps104;go_wp2;go_loopw [5,6] (fun u i wr=> ∃(j:Nat)(a:Option Addr)(c:Nat),j<=K.m/\i= .int .i64 j/\u= .slice a (bp K.At (t:Int) j).length c/\Below (w.1.size+1) (w.alloc (.cells #[.slice r K.n s,.slice m K.m pc] 35)) wr/\wr.ownsRow (w.1.size+1) 56 1 (.slice a (bp K.At (t:Int) j).length c) (bp K.At (t:Int) j).length (wrV f l h (bp K.At (t:Int) j))) (fun _ i _=>K.m-(intOf i).toNat)
 case atStart=>exact⟨0,some ⟨w.1.size+1,0,none⟩,0,u6 _,rfl,rfl,I.out.2,I.out.1⟩
 case round=>
  clear I;obtain⟨j,a,c,R,rfl,rfl,n,q⟩:=hrel;have aS:wr.cell? ⟨w.1.size,1,none⟩=some (.slice m K.m pc):=by rw[n.cell (p:=⟨w.1.size,1,none⟩) (xc _)];simp
  have G:Hid (Below w.1.size w wr):=ad.out.trans (n.mono (xa _));have aB:=nP (At:=K.At) (t:=(t:Int)) j;by_cases F:j<K.m
  ·obtain⟨A,d,rfl,x,E⟩:=ag.at_ t7;have k0:wr.cell? ⟨A,d+j*2,none⟩=some (.int .i64 (K.At j)):=by rw[G.out.cell (p:=⟨A,d+j*2,none⟩) x];exact(E j F).1 0 t7
   have a2:wr.cell? ⟨A,d+j*2+1,none⟩=some (.slice (f j) (l j) (h j)):=by rw[G.out.cell (p:=⟨A,d+j*2+1,none⟩) x];exact(E j F).2
   have ap:(0:Int)<=(j:Int):=t7;have aA:(j:Int)< (K.m:Int):=t7;by_cases b:K.At j=(t:Int)
   ·have ak:(K.At j==(t:Int))=true:=by simp[b]
    have v:Hid (bp K.At (t:Int) (j+1)=bp K.At (t:Int) j++[j]):=nN b;generalize aX:bp K.At (t:Int) j=N at*;have H:Hid _:=n;have z:Hid _:=q;have T:=n.size;rw[World.size_alloc]at T;have o:∀C u,[Value.slice (f j) (l j) (h j)][C]?=some u->(wr.alloc (.cells #[.slice (f j) (l j) (h j)] 56)).cell? ((⟨wr.1.size,0,none⟩:Addr).add C)=some u:=fun C u R=>cell_one_new _ _ _ C u R;have Z:Hid _:=o;clear n q b o;go_wp2_with (at_builtin;refine wpList_append_own _ rfl _ _ 22 rfl (w.1.size+1) 56 i _ 1 24 underlying22 ae U V W rfl t7 _ N.length (wrV f l h N) rfl ?own ⟨wr.1.size,0,none⟩ 1 1 [.slice (f j) (l j) (h j)] rfl ?len ?cells ?one ?l1 ?l2 ?B ?_)
    case own=>exact B4 z.out _
    case len=>rfl
    case cells=>exact Z.out
    case one=>intro u S;simp at S;subst S;rfl
    case l1=>unfold maxLen;omega
    case l2=>omega
    case B=>simp;omega
    intro v1 w1 D Q _;have am:∃J L,v1= .slice J (N.length+1) L:=by
     rcases D.2 with⟨_,aT⟩|⟨g,P,an,e,_⟩
     ·omega
     ·exact⟨_,P,e⟩
    obtain⟨J,L,y⟩:=am;rw[y]at D;rw[y];have O:=(H.out.alloc T (.cells #[.slice (f j) (l j) (h j)] 56)).grown Q (by simp;omega) (fun k af=>(BS z.out k af).1);have ab:Hid _:=D;have Y:Hid _:=O;clear D Q y O;go_wp2;go_roundw
    case rel=>exact⟨j+1,J,L,t7,by go_num,by rw[v.out];simp,Y.out,by rw[v.out,<-Dm,u7];exact ab.out⟩
    case measure=>simp[intOf];omega
   ·have ak:(K.At j==(t:Int))=false:=by simp[b]
    have v:Hid (bp K.At (t:Int) (j+1)=bp K.At (t:Int) j):=nO b;have H:Hid _:=n;have z:Hid _:=q;clear n q b;go_wp2;go_roundw
    case rel=>exact⟨j+1,a,c,t7,by go_num,by rw[v.out],H.out,by rw[v.out];exact z.out⟩
    case measure=>simp[intOf];omega
  ·have e:j=K.m:=t7;subst e;have ac:Hid _:=q;clear q;go_wp2;go_ret;exact⟨a,c,rfl,G.out,World.ownsRow.mono ac.out (xa _)⟩
