import Derived.Test.YtnohmedccbogkaaGreatDoorCo3
import Derived.Test.YtnohmedccbogkaaGreatDoorCo2
import Derived.Lib.SmallJoins
namespace Go.Proofs.YtnohmedccbogkaaGreatDoor
open Go.Proofs.Tryz
open Go.RowKit Go.Maps Go.ChangeShapes Go.WideShapes Go.ChangeAt Go.Joins Go.Deep
set_option linter.unusedVariables false
set_option maxRecDepth 100000
set_option maxHeartbeats 32000000
def dOk(K:DK):Prop:=(1<=K.n/\K.n<=4096/\K.m<=5000)/\(∀i,i<K.n->(K.S i).length=64)/\∀j,j<K.m->0<=K.At j/\K.At j<K.n/\(K.D j).length=64
noncomputable def bK(K:DK):Bool:= @decide (dOk K) (Classical.propDecidable _)
theorem oV{K}(h:dOk K):bK K=true:= @decide_eq_true _ (Classical.propDecidable _) h
theorem rS{K}(h:¬dOk K):bK K=false:= @decide_eq_false _ (Classical.propDecidable _) h
theorem jj{K}(h:bK K=true):dOk K:= @of_decide_eq_true _ (Classical.propDecidable _) h
theorem Gc(D o z pc an ak s ap C am K w)(n:RRecs 0 w D K.n z zI an s ap K.S)(m:RRecs 1 w o K.m pc (aI K) ak C am K.D):
 Calls prog 138 #[.agg #[.slice D K.n z,.slice o K.m pc]] w fun e w'=>e= .returned (.bool (bK K))/\Below w.1.size w w':=by
 have ah:=k2 n.le n.le';have ag:=k2 m.le m.le';unfold maxLen at ah ag;have r:=(p4 w.1.size w).alloc kE (.cells #[.slice D K.n z,.slice o K.m pc] 37);have v:Hid _:=r;have g:Hid (∀(_:¬dOk K),bK K=false):=rS;have Y:Hid (∀(_:dOk K),bK K=true):=oV;by_cases a8:(K.n:Int)<1
 ·have c:Hid (bK K=false):=g.out (fun a=>by have:=a.1;omega);clear r;go_enter func138,ntmps138;go_wp2;go_ret;exact⟨by rw[c.out];rfl,v.out⟩
 ·by_cases a9:(4096:Int)< (K.n:Int)
  ·have c:Hid (bK K=false):=g.out (fun a=>by have:=a.1;omega);clear r;go_enter func138,ntmps138;go_wp2;go_ret;exact⟨by rw[c.out];rfl,v.out⟩
  ·by_cases ba:(5000:Int)< (K.m:Int)
   ·have c:Hid (bK K=false):=g.out (fun a=>by have:=a.1;omega);clear r;go_enter func138,ntmps138;go_wp2;go_ret;exact⟨by rw[c.out];rfl,v.out⟩
   ·have R:=n.below r;have Q:=m.below r;clear r;have M:=fun i f=>(n.data i f).len_eq;have J:=fun i f=>(m.data i f).len_eq;have L:=fun i f=>k2 (m.data i f).le (m.data i f).le';have N:=fun i f=>k2 (n.data i f).le (n.data i f).le';have H:Hid _:=M;have G:Hid _:=J;have W:Hid _:=L;have X:Hid _:=N;clear M J L N n m;have a3:decide ((K.n:Int)<1)=false:=by simp;omega
    have a4:decide ((4096:Int)< (K.n:Int))=false:=by simp;omega
    have a5:decide ((5000:Int)< (K.m:Int))=false:=by simp;omega
    have a6:((K.n:Int))<=4096:=kH;have a7:((K.m:Int))<=5000:=kH;go_enter func138,ntmps138;go_wp2
    go_loop [4] (fun i=> ∃j:Nat,j<=K.n/\i= .int .i64 j/\∀k,k<j->s k=64) (fun i=>K.n-(intOf i).toNat)
    case atStart=>exact⟨0,kX _,rfl,fun k a=>absurd a kH⟩
    case round=>
     obtain⟨j,bc,rfl,B⟩:=hrel;have A:Hid _:=B;clear B;by_cases u:j<K.n
     ·obtain⟨b,off,rfl,ad,x⟩:=R.at_ kH;have k0:(w.alloc (.cells #[.slice (some ⟨b,off,none⟩) K.n z,.slice o K.m pc] 37)).cell? ⟨b,off+j,none⟩=some (.slice (an j) (s j) (ap j)):=by have:=(x j u).2;simpa using this
      have P:=X.out j u;unfold maxLen at P;have ae:(0:Int)<=(j:Int):=kH;have af:(j:Int)< (K.n:Int):=kH;clear x R Q;by_cases t:s j=64
      ·have h:((s j:Int) !=64)=false:=by simp;omega
       have S:Hid (s j=64):=t;clear t;go_wp2
       go_round
       case rel=>
        refine⟨j+1,kH,by go_num,fun k a=> ?_⟩;by_cases e:k=j
        ·subst e;exact S.out
        ·exact A.out k kH
       case measure=>simp[intOf];omega
      ·have h:((s j:Int) !=64)=true:=by simp;omega
       have c:Hid (bK K=false):=g.out (fun a=>t (by rw[<-H.out j u];exact a.2.1 j u));clear t;go_wp2;go_ret;exact⟨by rw[c.out];rfl,v.out⟩
     ·have e:j=K.n:=kH;have aH:Hid (j=K.n):=e;clear e R;have bb:decide ((j:Int)< (K.n:Int))=false:=by simp;omega
      go_wp2;go_loopw [5,6] (fun i _ wr=> ∃q:Nat,q<=K.m/\i= .int .i64 q/\Below (w.alloc (.cells #[.slice D K.n z,.slice o K.m pc] 37)).1.size (w.alloc (.cells #[.slice D K.n z,.slice o K.m pc] 37)) wr/\∀k,k<q->0<=K.At k/\K.At k<K.n/\C k=64) (fun i _ _=>K.m-(intOf i).toNat)
      case atStart=>exact⟨0,kX _,rfl,kF,fun k a=>absurd a kH⟩
      case round=>
       obtain⟨q,bd,rfl,h,I⟩:=hrel;have F:Hid _:=I;clear I;have a2:wr.cell? ⟨w.1.size,1,none⟩=some (.slice o K.m pc):=by rw[h.cell (p:=⟨w.1.size,1,none⟩) kP];simp
       have bf:w.1.size<wr.1.size:=by have:=h.size;simp at this;omega
       have l:Hid (Below w.1.size w wr):=v.out.trans (h.mono v.out.size);have T:Hid _:=h;have ai:=Q.below h;clear h;by_cases d:q<K.m
       ·obtain⟨b,off,rfl,ad,x⟩:=ai.at_ kH;have k0:wr.cell? ⟨b,off+q*2,none⟩=some (.int .i64 (K.At q)):=(x q d).1 0 kH;have be:wr.cell? ⟨b,off+q*2+1,none⟩=some (.slice (ak q) (C q) (am q)):=(x q d).2;have P:=W.out q d;unfold maxLen at P;have ae:(0:Int)<=(q:Int):=kH;have af:(q:Int)< (K.m:Int):=kH;clear x Q ai;have U:=G.out q d;have V:Hid _:=U;clear U;generalize ab:K.At q=ar at*;have O:Hid (K.At q=ar):=ab;clear ab;generalize ac:C q=y at*;have aO:Hid (C q=y):=ac;clear ac;by_cases g1:ar<0
        ·have c:Hid (bK K=false):=g.out (fun a=>by have:=(a.2.2 q d).1;rw[O.out]at this;omega);go_wp2;go_ret;exact⟨by rw[c.out];rfl,l.out.alloc l.out.size _⟩
        ·have aX:decide (ar<0)=false:=by simp;omega
         by_cases g2:(K.n:Int)<=ar
         ·have c:Hid (bK K=false):=g.out (fun a=>by have:=(a.2.2 q d).2.1;rw[O.out]at this;omega);go_wp2;go_ret;exact⟨by rw[c.out];rfl,l.out.alloc l.out.size _⟩
         ·have a0:decide ((K.n:Int)<=ar)=false:=by simp;omega
          by_cases E:y=64
          ·have Z:((y:Int) !=64)=false:=by simp;omega
           have aw:Hid (y=64):=E;clear E;go_wp2;go_roundw
           case rel=>
            refine⟨q+1,kH,by go_num,T.out.alloc T.out.size _,fun k a=> ?_⟩;by_cases e:k=q
            ·subst e;rw[O.out,aO.out];exact⟨kH,kH,aw.out⟩
            ·exact F.out k kH
           case measure=>simp[intOf];omega
          ·have Z:((y:Int) !=64)=true:=by simp;omega
           have c:Hid (bK K=false):=g.out (fun a=>E (by have:=(a.2.2 q d).2.2;rw[V.out]at this;exact this));clear E;go_wp2;go_ret;exact⟨by rw[c.out];rfl,l.out.alloc l.out.size _⟩
       ·have a1:decide ((q:Int)< (K.m:Int))=false:=by simp;omega
        have c:Hid (bK K=true):=Y.out ⟨⟨kH,kH,kH⟩,fun i f=>by rw[H.out i f];exact A.out i (by have:=aH.out;omega),fun i f=>by have:=F.out i kH;rw[G.out i f];exact this⟩;go_wp2;go_ret;exact⟨by rw[c.out];rfl,l.out⟩
theorem rT(d K w)(h:RDisk w d K):
 Calls prog 138 #[bC d K] w fun e w'=>e= .returned (.bool (bK K))/\Below w.1.size w w':=Gc d.sa d.pa d.sc d.pc d.sA d.pA d.sN d.sC d.pN d.pC K w h.safe h.pend
def gK(At:Nat->Int)(t:Int):Nat->Option Nat
 |0=>none
 |j+1=>if At j=t then some j else gK At t j
theorem oY{a b}:∀{j i:Nat},gK a b j=some i->i<j
 |0,i,h=>by simp[gK]at h
 |j+1,i,h=>by
  simp only[gK]at h;split at h
  ·cases h;omega
  ·have:=oY h;omega
def cJ{α:Type}(At:Nat->Int)(f g:Nat->α)(j t:Nat):α:=match gK At (t:Int) j with|some i=>f i|none=>g t
theorem rU{c:Type}(a)(f g:Nat->c)(b):cJ a f g 0 b=g b:=rfl
theorem rV{c:Type}(a)(f g:Nat->c)(j b:Nat)(h:a j=(b:Int)):cJ a f g (j+1) b=f j:=by simp[cJ,gK,h]
theorem rW{c:Type}(a)(f g:Nat->c)(j b:Nat)(h:a j≠(b:Int)):cJ a f g (j+1) b=cJ a f g j b:=by simp[cJ,gK,h]
def jH(K:DK)(t:Nat):List Int:=cJ K.At K.D K.S K.m t
theorem Gd{l:Type}{a f g j e n m}{P:l->Prop}(d:e<n)(k:j<=m)(b:∀i,i<m->P (f i))(c:∀i,i<n->P (g i)):P (cJ a f g j e):=by
 unfold cJ;split
 ·rename_i i h;exact b i (by have:=oY h;omega)
 ·exact c e d
theorem oZ{w d K}(h:RDisk w d K)(a)(c:a<K.n):Bs w (cJ K.At d.pA d.sA K.m a) (cJ K.At d.pN d.sN K.m a) (cJ K.At d.pC d.sC K.m a) (jH K a):=by
 unfold jH cJ;split
 ·rename_i i b;exact h.pend.data i (oY b)
 ·exact h.safe.data a c
def fB(At:Nat->Int)(pA sA:Nat->Option Addr)(pN sN pC sC:Nat->Nat)(n j:Nat):List Value:=(List.range n).map fun t=> .slice (cJ At pA sA j t) (cJ At pN sN j t) (cJ At pC sC j t)
theorem lJ(a b e d g c f n j):(fB a b e d g c f n j).length=n:=by simp[fB]
theorem lK(a b e d g c f n j i)(h:i<n):(fB a b e d g c f n j)[i]?=some (.slice (cJ a b e j i) (cJ a d g j i) (cJ a c f j i)):=by simp[fB,h]
theorem Ge(a d i g m f k)(n j T:Nat)(h:a j=(T:Int)):(fB a d i g m f k n j).set T (.slice (d j) (g j) (f j))=fB a d i g m f k n (j+1):=by
 apply o3;intro o;rw[List.getElem?_set];by_cases c:o<n
 ·by_cases e:T=o
  ·subst e;rw[qb rfl,qb (by rw[lJ];exact c),lK _ _ _ _ _ _ _ _ _ _ c,rV _ _ _ _ _ h,rV _ _ _ _ _ h,rV _ _ _ _ _ h]
  ·have b:a j≠(o:Int):=kH;rw[q4 e,lK _ _ _ _ _ _ _ _ _ _ c,lK _ _ _ _ _ _ _ _ _ _ c,rW _ _ _ _ _ b,rW _ _ _ _ _ b,rW _ _ _ _ _ b]
 ·rw[ot (by rw[lJ];omega),ot (l:=fB a d i g m f k n (j+1)) (by rw[lJ];omega)];split
  ·rw[q4 (by rw[lJ];omega)]
  ·rfl
theorem Gf(b c f e h d g n j):∀i∈fB b c f e h d g n j,i.oneCell'=true:=by
 intro i a;simp only[fB,oj]at a;obtain⟨_,_,rfl⟩:=a
 rfl
theorem Gg(ag r s pc l a n m f d K w)(af:RRecs 0 w ag K.n s zI l n m K.S)(ae:RRecs 1 w r K.m pc (aI K) a f d K.D)(ad:dOk K):
 Calls prog 178 #[.agg #[.slice ag K.n s,.slice r K.m pc]] w fun e w'=> ∃g c,e= .returned (.slice (some ⟨g,0,none⟩) K.n c)/\Below w.1.size w w'/\w'.ownsRow w.1.size 70 1 (.slice (some ⟨g,0,none⟩) K.n c) K.n (fB K.At a l f n d m K.n K.m):=by
 obtain⟨⟨a3,a4,a2⟩,_,X⟩:=ad;obtain⟨i,ac,H,I,J⟩:=sk vf;obtain⟨b,off,rfl,Z,ab⟩:=af.at_ kH;have t:∀o P,∀j aw,(fB K.At a l f n d m K.n 0)[j]?=some aw->((w.alloc o).alloc P).cell? ((⟨b,off,none⟩:Addr).add j)=some aw:=fun o P j aw F=>by
  have G:j<K.n:=by have:=(lb.1 F).1;rw[lJ]at this;exact this
  rw[lK _ _ _ _ _ _ _ _ _ _ G,rU,rU,rU]at F;rw[sj,(eT w o P).cell (p:=⟨b,off+j,none⟩) Z,<-F];have:=(ab j G).2;simpa using this
 have S:Hid _:=t;have an:Hid _:=(p4 w.1.size w).alloc kE (.cells #[.slice (some ⟨b,off,none⟩) K.n s,.slice r K.m pc] 37);have ak:Hid _:=X;clear t ab X;go_enter func178,ntmps178;go_wp2_with (at_builtin;refine wpList_append_own _ rfl _ _ 22 rfl (w.1.size+1) 70 i _ 1 24 underlying22 ac H I J rfl kH _ 0 [] rfl ?own ⟨b,off,none⟩ K.n s (fB K.At a l f n d m K.n 0) rfl ?len ?cells ?one ?l1 ?l2 ?B ?_)
 case own=>
  have:=World.ownsRow_lit (base:=w.1.size+1) (e:=70) (size:=1) (w.alloc (.cells #[.slice (some ⟨b,off,none⟩) K.n s,.slice r K.m pc] 37)) #[] 0 kP (kX _) kP;rw[World.size_alloc]at this;exact this
 case len=>rw[lJ,oG]
 case cells=>exact S.out _ _
 case one=>exact Gf _ _ _ _ _ _ _ _ _
 case l1=>unfold maxLen;omega
 case l2=>omega
 case B=>simp
 clear ac H I J;intro aH w1 o g1 _;have ar:∃g c,aH= .slice (some ⟨g,0,none⟩) K.n c/\w.1.size+1<=g:=by
  rcases o.2 with⟨_,a8⟩|⟨g,W,aO,e,N,_⟩
  ·omega
  ·exact⟨g,W,e,N⟩
 obtain⟨g,c,A,N⟩:=ar;rw[A]at o;rw[A];have L:w1.ownsRow (w.1.size+1) 70 1 (.slice (some ⟨g,0,none⟩) K.n c) K.n (fB K.At a l f n d m K.n 0):=o;have V:Below (w.1.size+1) (w.alloc (.cells #[.slice (some ⟨b,off,none⟩) K.n s,.slice r K.m pc] 37)) w1:=by
  have q:Below (w.1.size+1) (w.alloc (.cells #[.slice (some ⟨b,off,none⟩) K.n s,.slice r K.m pc] 37)) _:=kF.alloc kP (.cells #[] 70);exact q.grown g1 kP (fun k ap=>by simp[Value.ownBlock]at ap;omega)
 have R:Hid _:=V;have U:Hid _:=L;clear o g1 A V L;go_wp2;go_loopw [4] (fun i wr=> ∃j:Nat,j<=K.m/\i= .int .i64 j/\Below (w.1.size+1) (w.alloc (.cells #[.slice (some ⟨b,off,none⟩) K.n s,.slice r K.m pc] 37)) wr/\wr.ownsRow (w.1.size+1) 70 1 (.slice (some ⟨g,0,none⟩) K.n c) K.n (fB K.At a l f n d m K.n j)) (fun i _=>K.m-(intOf i).toNat)
 case atStart=>exact⟨0,kX _,rfl,R.out,U.out⟩
 case round=>
  clear R U;obtain⟨j,F,rfl,E,u⟩:=hrel;have a6:wr.cell? ⟨w.1.size,1,none⟩=some (.slice r K.m pc):=by rw[E.cell (p:=⟨w.1.size,1,none⟩) (n4 _)];simp
  have M:Hid (Below w.1.size w wr):=an.out.trans (E.mono (n0 _));by_cases z:j<K.m
  ·obtain⟨C,h,rfl,x,y⟩:=ae.at_ kH;have v:=ak.out j z;obtain⟨T,D⟩:=n3 v.1;have a5:Hid (K.At j=(T:Int)):=D;have Y:T<K.n:=by have:=v.2.1;omega
   have k0:wr.cell? ⟨C,h+j*2,none⟩=some (.int .i64 (T:Int)):=by rw[M.out.cell (p:=⟨C,h+j*2,none⟩) x,<-D];exact(y j z).1 0 kH
   have a9:wr.cell? ⟨C,h+j*2+1,none⟩=some (.slice (a j) (f j) (d j)):=by rw[M.out.cell (p:=⟨C,h+j*2+1,none⟩) x];exact(y j z).2
   have O:wr.cell? ⟨g,T,none⟩=some (.slice (cJ K.At a l j T) (cJ K.At f n j T) (cJ K.At d m j T)):=by rw[u.cellAt T kH,lK _ _ _ _ _ _ _ _ _ _ Y]
   have a7:wr.frozen? ⟨g,T,none⟩=false:=u.frozenAt T;have Q:=(u.stored T (.slice (a j) (f j) (d j))).1;rw[Ge _ _ _ _ _ _ _ _ _ _ D]at Q;have ST:Hid (World.ownsRow (wr.setCell ⟨g,T,none⟩ (.slice (a j) (f j) (d j))) (w.1.size+1) 70 1 (.slice (some ⟨g,0,none⟩) K.n c) K.n (fB K.At a l f n d m K.n (j+1))):=Q;have ah:Hid _:=E.setCell (p:=⟨g,T,none⟩) N (.slice (a j) (f j) (d j));have aX:(0:Int)<=(j:Int):=kH;have a0:(j:Int)< (K.m:Int):=kH;have a1:(0:Int)<=(T:Int):=kH;have hi4:(T:Int)< (K.n:Int):=kH;generalize cJ K.At a l j T=ba at O;generalize cJ K.At f n j T=bc at O;generalize cJ K.At d m j T=bb at O;clear Q u E y ae af D v S;go_wp2_with fail;go_region
   all_goals
    go_wp2;go_roundw
    case rel=>exact⟨j+1,kH,by go_num,ah.out.drew,ST.out⟩
    case measure=>simp[intOf];omega
  ·have e:j=K.m:=kH;have ai:Hid (j=K.m):=e;clear e;have am:Hid _:=u;clear u;go_wp2;go_ret;refine⟨g,c,rfl,M.out,?_⟩;have:=am.out;rw[ai.out]at this;exact World.ownsRow.mono this (n0 _)
theorem wW(d K w)(h:RDisk w d K)(a:dOk K):
 Calls prog 178 #[bC d K] w fun e w'=> ∃g c,e= .returned (.slice (some ⟨g,0,none⟩) K.n c)/\Below w.1.size w w'/\w'.ownsRow w.1.size 70 1 (.slice (some ⟨g,0,none⟩) K.n c) K.n (fB K.At d.pA d.sA d.pN d.sN d.pC d.sC K.n K.m):=
 Gg d.sa d.pa d.sc d.pc d.sA d.pA d.sN d.sC d.pN d.pC K w h.safe h.pend a
theorem wX{K}(a:dOk K){d}(c:d<K.n):(jH K d).length=64:=
 Gd (P:=fun l:List Int=>l.length=64) c kE (fun i b=>(a.2.2 i b).2.2) (fun i b=>a.2.1 i b)
theorem pd{w d K}(h:RDisk w d K)(a:dOk K)(c)(b:c<K.n):cJ K.At d.pN d.sN K.m c=64:=by
 have:=(oZ h c b).len_eq;rw[wX a b]at this;exact this.symm
noncomputable def iI(id:Int)(l:List Int):Bool:= @decide (dh id l) (Classical.propDecidable _)
noncomputable def iJ(id:Int)(l:List Int):Int:=match iI id l with|true=>kd l|false=>0
noncomputable def ei(id:Int)(l:List Int):List Int:=match iI id l with|true=>bm l|false=>[]
theorem pe{id l}(h:dh id l):iI id l=true:= @decide_eq_true _ (Classical.propDecidable _) h
theorem kz{id l}(h:¬dh id l):iI id l=false:= @decide_eq_false _ (Classical.propDecidable _) h
theorem wY{id l}(h:dh id l):iJ id l=kd l:=by unfold iJ;rw[pe h]
theorem mM{id l}(h:¬dh id l):iJ id l=0:=by unfold iJ;rw[kz h]
theorem pg{id l}(h:dh id l):ei id l=bm l:=by unfold ei;rw[pe h]
theorem kJ{id l}(h:¬dh id l):ei id l=[]:=by unfold ei;rw[kz h]
theorem kK{B w w'}(h:Below B w.drew w'):Below B w w':=⟨h.os,h.tape,h.output,h.size,h.block⟩
theorem Gh(id a n c l w)(h:Bs w a n c l)(i:n≠256):
 Calls prog 203 #[.int .i64 id,.slice a n c] w fun e w'=> ∃d f,e= .returned (.tuple #[.int .i64 0,.slice d 0 f,.bool false])/\Below w.1.size w w'/\Own w.1.size w' d 0 f []:=by
 have g:=k2 h.le h.le';unfold maxLen at g;have j:((n:Int) !=256)=true:=by simp;omega
 have b:Hid _:=dZ w [] 0 rfl kH w.1.size kE;clear h i;go_enter func203,ntmps203;go_wp2;refine p6 (v:= .tuple #[.int .i64 0,.slice (some ⟨w.1.size,0,none⟩) 0 0,.bool false]) (by simp[results,results203,go_sem]) rfl ?_;exact⟨_,_,rfl,bAl _ _,b.out⟩
theorem Gj(id b off f l w)(h:Bs w (some ⟨b,off,none⟩) 256 f l):
 Calls prog 203 #[.int .i64 id,.slice (some ⟨b,off,none⟩) 256 f] w fun e w'=> ∃ag ai,e= .returned (.tuple #[.int .i64 (iJ id l),.slice ag (ei id l).length ai,.bool (iI id l)])/\Below w.1.size w w'/\Own w.1.size w' ag (ei id l).length ai (ei id l):=by
 have a8:256<=f:=h.le;have K:f<=maxLen:=h.le';have an:=h.len_eq;have af:Hid (Bs w (some ⟨b,off+10,none⟩) 2 (f-10) (bo l 10 2)):=h.piece 10 2 kH _ kH kH;have ap:=qY h.byte;have F:=fun a n c v a7 g=>iR a n c (bo l 10 2) v a7 g;obtain⟨N,Y⟩:=n3 ap;have S:Hid (sz l=(N:Int)):=Y;have O:low (bo l 10 2)=(N:Int):=Y;rw[O]at F;have ab:Hid _:=F;obtain⟨bn,ba,e,P,am⟩:=h.at_ kH;cases e;have W:=am 8 kH;have bd:=h.byte 8;have L:Hid (l.getD 8 0=kd l):=rfl;have x:Hid (N<=240->Bs w (some ⟨b,off+16,none⟩) N (f-16) (bm l)):=fun g=>by
  have:=h.piece 16 N kH (f-16) kH kH;have e:bm l=(l.drop 16).take N:=by unfold bm bo;rw[S.out];simp
  rw[e];exact this
 have a0:Hid _:=h;have u:=(p4 w.1.size w).alloc kE (.cells #[] 5);have ac:Hid (Own w.1.size (w.alloc (.cells #[] 5)) (some ⟨w.1.size,0,none⟩) 0 0 []):=dZ w [] 0 rfl kH w.1.size kE;have bq:(w.alloc (.cells #[] 5)).cell? ⟨b,off+8,none⟩=some (.int .u8 (l.getD 8 0)):=by rw[u.cell (p:=⟨b,off+8,none⟩) P];exact W
 have T:Hid (∀v,Below w.1.size w v->v.cell? ⟨b,off+8,none⟩=some (.int .u8 (l.getD 8 0))):=fun v a4=>by rw[a4.cell (p:=⟨b,off+8,none⟩) P];exact W
 unfold maxLen at K;generalize l.getD 8 0=j at*;have be:IntKind.i64.wrap j=j:=by simp[IntKind.wrap,IntKind.bits,IntKind.signed];omega
 have bt:(12:Int)<=(f:Int):=kH;have bi:¬f=10:=kH;have bj:¬f=16:=kH;clear F Y O ap am h W;go_enter func203,ntmps203;go_wp2_with fail;refine(ab.out _ _ _ _ (af.out.below u) kH).mono ?_;rintro e w' ⟨rfl,rfl⟩;by_cases g:N<=240
 case neg=>
  have d:¬dh id l:=fun C=>by have:=mD C.2.1;rw[S.out]at this;omega
  have r:Hid _:=mM d;have I:Hid _:=kJ d;have q:Hid _:=kz d;have a9:(240:Int)< (N:Int):=kH;clear d g;go_wp2;refine p6 (v:= .tuple #[.int .i64 0,.slice (some ⟨w.1.size,0,none⟩) 0 0,.bool false]) (by simp[results,results203,go_sem]) rfl ?_;rw[r.out,I.out,q.out];exact⟨_,_,rfl,u,ac.out⟩
 have a9:¬(240:Int)< (N:Int):=kH;obtain⟨M,bs⟩:∃M,M=16+N:=⟨_,rfl⟩;have bc:IntKind.i64.wrap (16+(N:Int))=(M:Int):=by simp[IntKind.wrap,IntKind.bits,IntKind.signed];omega
 have bf:(16:Int)<=(M:Int):=kH;have bg:(M:Int)<=(f:Int):=kH;have bh:M-16=N:=kH;go_wp2_with fail;generalize ak:w.alloc (.cells #[] 5)=bk at*;clear ak;go_region_with (first|(go_at_call 219;refine(Df id j _ _ _ (bm l) _ ?_ ?_).mono ?_;exact(x.out g).below u.drew;omega;rintro e bu ⟨bl,bp,rfl,m,G⟩;simp only[s6]at m G;replace m:=kK m;have A:=u.trans (m.mono u.size)))
 all_goals
  have Q:((bm l).length:Int)=(N:Int):=by have:=(x.out g).len_eq;omega
  have D:dh id l↔eJ id j (N:Int)=true/\iv id j (bm l)=l:=by
   unfold dh;rw[S.out,<-L.out];constructor
   ·rintro⟨_,B,J⟩;exact⟨B,by rw[qV (by rw[Q];exact B)];exact J⟩
   ·rintro⟨B,J⟩;exact⟨an,B,by rw[qV (by rw[Q];exact B)]at J;exact J⟩
  have R:Hid _:=D;have ar:IsB (iv id j (bm l)):=Db (x.out g).byte;have z:=T.out _ A;have o:=ac.out.below (m);generalize iv id j (bm l)=I at*;clear D;cases E:eJ id j (N:Int)with
  |false=>
   have d:¬dh id l:=fun C=>by have:=(R.out.1 C).1;rw[E]at this;cases this
   have r:Hid _:=mM d;have k:Hid _:=kJ d;have q:Hid _:=kz d;have aH:Hid _:=A;have ad:Hid _:=o;clear d E m G z o;go_wp2;refine p6 (v:= .tuple #[.int .i64 0,.slice (some ⟨w.1.size,0,none⟩) 0 0,.bool false]) (by simp[results,results203,go_sem]) rfl ?_;rw[r.out,k.out,q.out];exact⟨_,_,rfl,aH.out,ad.out⟩
  |true=>
   go_wp2_with fail;refine(uN _ _ _ _ _ _ I l _ (G.bs ar) (a0.out.below A)).mono ?_;rintro e aw ⟨rfl,ah⟩;have s:=A.trans (ah.mono A.size);have H:=o.below ah;have a6:=T.out _ s;by_cases t:I=l
   ·rw[q6 t];have i:dh id l:=R.out.2 ⟨E,t⟩;have r:Hid _:=wY i;have k:Hid _:=pg i;have q:Hid _:=pe i;clear i E m G z o t H;go_wp2_with fail;go_region_with (first|(go_at_call 195;(try rw[show(16+(N:Int)).toNat-16=N from by omega]);refine(uF _ _ _ (bm l) _ ?_ ?_).mono ?_;exact(x.out g).below s.drew;omega;rintro e bb ⟨U,V,rfl,y,Z⟩;simp only[s6]at y Z;replace y:=kK y;have X:=s.trans (y.mono s.size);have a5:=T.out _ X))
    all_goals
     have a1:Hid ((bm l).length=N):=by have:=(x.out g).len_eq;exact this
     have aX:Hid _:=X;have a2:Hid (Own aw.1.size bb U N V (bm l)):=Z;have a3:Hid (w.1.size<=aw.1.size):=s.size;clear X Z y a5;go_wp2;refine p6 (v:= .tuple #[.int .i64 j,.slice U N V,.bool true]) (by simp[results,results203,go_sem]) rfl ?_;rw[r.out,k.out,q.out,<-L.out,a1.out];exact⟨U,V,rfl,aX.out,a2.out.mono a3.out⟩
   ·rw[q5 t];have d:¬dh id l:=fun C=>t (R.out.1 C).2;have r:Hid _:=mM d;have k:Hid _:=kJ d;have q:Hid _:=kz d;have aO:Hid _:=s;have ae:Hid _:=H;clear d E m G z o t s H;go_wp2;refine p6 (v:= .tuple #[.int .i64 0,.slice (some ⟨w.1.size,0,none⟩) 0 0,.bool false]) (by simp[results,results203,go_sem]) rfl ?_;rw[r.out,k.out,q.out];exact⟨_,_,rfl,aO.out,ae.out⟩
theorem Gk{id l}(h:IsB l):IsB (ei id l):=by
 by_cases a:dh id l
 ·rw[pg a];exact n9 h 16 _
 ·rw[kJ a];exact ir
theorem Gl(id l):(ei id l).length<=l.length:=by
 by_cases a:dh id l
 ·rw[pg a];unfold bm bo;rw[lw,k3];omega
 ·rw[kJ a];simp
theorem Gm(id a n c l w)(h:Bs w a n c l):
 Calls prog 203 #[.int .i64 id,.slice a n c] w fun e w'=> ∃g i,e= .returned (.tuple #[.int .i64 (iJ id l),.slice g (ei id l).length i,.bool (iI id l)])/\Below w.1.size w w'/\Own w.1.size w' g (ei id l).length i (ei id l):=by
 by_cases f:n=256
 ·subst f;obtain⟨b,off,rfl,_⟩:=h.at_ kH;exact Gj id b off c l w h
 ·have d:¬dh id l:=fun d=>f (by rw[<-h.len_eq];exact d.1);rw[mM d,kJ d,kz d];exact Gh id a n c l w h f
def hU(K:DK)(T:Nat):Nat->List Int
 |0=>[]
 |j+1=>hU K T j++jH K (4*T+j)
def pgL(K:DK)(T:Nat):List Int:=hU K T 4
theorem wZ{K}(a:dOk K){T}(b:4*T+3<K.n):∀j,j<=4->(hU K T j).length=64*j
 |0,_=>rfl
 |j+1,h=>by rw[hU,kY,wZ a b j kH,wX a kH];omega
theorem xd{w d K}(h:RDisk w d K){T}(a:4*T+3<K.n):∀j,j<=4->IsB (hU K T j)
 |0,_=>ir
 |j+1,b=>cY (xd h a j kH) (oZ h (4*T+j) kH).byte
theorem Gn{K}(a:dOk K){T}(b:4*T+3<K.n):(pgL K T).length=256:=wZ a b 4 kE
theorem rX{w d K}(h:RDisk w d K){T}(a:4*T+3<K.n):IsB (pgL K T):=xd h a 4 kE
def fC(K:DK)(t:Int):Prop:=0<=t/\t< (K.n:Int)/4
theorem ph{K}{T:Nat}(h:fC K (T:Int)):4*T+3<K.n:=by unfold fC at h;omega
def VRow(w:World)(d:DV)(K:DK)(g:Nat):Prop:=g<w.1.size/\∀t,t<K.n->w.cell? ⟨g,t,none⟩=some (.slice (cJ K.At d.pA d.sA K.m t) 64 (cJ K.At d.pC d.sC K.m t))
theorem VRow.below{w w' d K g}(h:VRow w d K g)(b:Below w.1.size w w'):VRow w' d K g:=
 ⟨lk h.1 b.size,fun c a=>by rw[b.cell (p:=⟨g,c,none⟩) h.1];exact h.2 c a⟩
theorem Gp(d K)(T g c:Nat)(w)(h:RDisk w d K)(n:dOk K)(O:VRow w d K g)(J:fC K (T:Int)):
 Calls prog 179 #[.agg #[.slice (some ⟨g,0,none⟩) K.n c],.int .i64 T] w fun e w'=> ∃a b,e= .returned (.tuple #[.int .i64 (iJ T (pgL K T)),.slice a (ei T (pgL K T)).length b,.bool (iI T (pgL K T))])/\Below w.1.size w w'/\Own w.1.size w' a (ei T (pgL K T)).length b (ei T (pgL K T)):=by
 have an:=n.1.2.1;have M:=ph J;obtain⟨ag,ah⟩:=J;have aw:(K.n:Int).tdiv 4=(K.n:Int)/4:=p3 kH;have x:=(p4 w.1.size w).alloc kE (.cells #[.slice (some ⟨g,0,none⟩) K.n c] 249);have af:=s2 w (.cells #[.slice (some ⟨g,0,none⟩) K.n c] 249);have S:(w.alloc (.cells #[.slice (some ⟨g,0,none⟩) K.n c] 249)).1.size=w.1.size+1:=by simp
 have X:Hid _:=O.below x;have F:Hid _:=h.below x;have E:Hid (dOk K):=n;have W:Hid (IsB (pgL K T)):=rX h M;have Z:Hid _:=x;have ap:¬(K.n:Int)/4<=(T:Int):=kH;have z:Own (w.1.size+1) ((w.alloc (.cells #[.slice (some ⟨g,0,none⟩) K.n c] 249)).alloc (.cells #[] 5)) (some ⟨w.1.size+1,0,none⟩) 0 0 []:=by
  have:=dZ (w.alloc (.cells #[.slice (some ⟨g,0,none⟩) K.n c] 249)) [] 0 rfl kH (w.1.size+1) kP;rw[S]at this;exact this
 have y:=(p4 (w.1.size+1) (w.alloc (.cells #[.slice (some ⟨g,0,none⟩) K.n c] 249))).alloc kP (.cells #[] 5);clear n h O;go_enter func179,ntmps179;go_wp2_with fail;generalize L:w.alloc (.cells #[.slice (some ⟨g,0,none⟩) K.n c] 249)=s at*;clear L;go_loopw [7,8] (fun o i wr=> ∃(j:Nat)(a:Option Addr)(b:Nat),j<=4/\i= .int .i64 (j:Nat)/\o= .slice a (64*j) b/\Below (w.1.size+1) s wr/\Own (w.1.size+1) wr a (64*j) b (hU K T j)) (fun _ i _=>4-(intOf i).toNat)
 case atStart=>exact⟨0,_,0,kH,rfl,rfl,y,z⟩
 case round=>
  obtain⟨j,a,b,ar,rfl,rfl,f,p⟩:=hrel;have q:Hid _:=f;have D:Hid _:=p;by_cases ai:j<4
  ·have l:Below s.1.size s wr:=by rw[S];exact f
   have k0:wr.cell? ⟨w.1.size,0,none⟩=some (.slice (some ⟨g,0,none⟩) K.n c):=by rw[so wr _ 0 _ _ _ ((f.block w.1.size (n4 _)).trans af)];rfl
   have k:=(VRow.below X.out l).2 (4*T+j) kH;have A:=oZ (F.out.below l) (4*T+j) kH;rw[pd F.out E.out (4*T+j) kH]at A;have ab:Hid _:=A;generalize cJ K.At d.pA d.sA K.m (4*T+j)=aO at*;generalize cJ K.At d.pC d.sC K.m (4*T+j)=ae at*;have V:Hid (hU K T (j+1)=hU K T j++jH K (4*T+j)):=rfl;obtain⟨m,N⟩:∃m:Nat,m=4*T+j:=⟨_,rfl⟩;rw[<-N]at k;have ak:4*(T:Int)+(j:Int)=(m:Int):=kH;have am:(m:Int)< (K.n:Int):=kH;have aX:=f.size;clear A f p l y z N;go_wp2_with (at_builtin;refine db rfl _ _ rfl (w.1.size+1) a (64*j) b (hU K T j) rfl ?own _ 64 ae (jH K (4*T+j)) rfl ?bs ?len ?B ?_)
   case own=>exact D.out
   case bs=>exact ab.out
   case len=>omega
   case B=>omega
   intro ac ad aH P H _;have U:Hid _:=q.out.trans H;have Y:Hid _:=P;clear P H k0 k;go_wp2;go_roundw
   case rel=>exact⟨j+1,ac,ad,kH,by go_num,rfl,U.out,by rw[V.out];exact Y.out⟩
   case measure=>simp[intOf];omega
  ·have e:j=4:=kH;subst e;have r:Hid (Below w.1.size w wr):=Z.out.trans (f.mono kH);have G:=Gm (T:Int) a 256 b (pgL K T) wr (Own.bs (B:=w.1.size+1) p W.out);clear f p y z q D;go_wp2_with fail;refine G.mono ?_;rintro e R ⟨t,u,rfl,I,Q⟩;have C:Hid (Below w.1.size w R/\Own w.1.size R t (ei T (pgL K T)).length u (ei T (pgL K T))):=⟨r.out.trans (I.mono r.out.size),Q.mono r.out.size⟩;clear I Q G;go_wp2;refine p6 (v:= .tuple #[.int .i64 (iJ T (pgL K T)),.slice t (ei T (pgL K T)).length u,.bool (iI T (pgL K T))]) (by simp[results,results179,go_sem]) rfl ?_;exact⟨t,u,rfl,C.out⟩
theorem Gq(K k g c w)(l:K.n<=4096)(f:¬fC K k):
 Calls prog 179 #[.agg #[.slice (some ⟨g,0,none⟩) K.n c],.int .i64 k] w fun e w'=> ∃b d,e= .returned (.tuple #[.int .i64 0,.slice b 0 d,.bool false])/\Below w.1.size w w'/\Own w.1.size w' b 0 d []:=by
 have o:(K.n:Int).tdiv 4=(K.n:Int)/4:=p3 kH;have j:(w.alloc (.cells #[.slice (some ⟨g,0,none⟩) K.n c] 249)).1.size=w.1.size+1:=by simp
 have i:Own w.1.size ((w.alloc (.cells #[.slice (some ⟨g,0,none⟩) K.n c] 249)).alloc (.cells #[] 5)) (some ⟨w.1.size+1,0,none⟩) 0 0 []:=by
  have:=dZ (w.alloc (.cells #[.slice (some ⟨g,0,none⟩) K.n c] 249)) [] 0 rfl kH w.1.size kP;rw[j]at this;exact this
 have h:=((p4 w.1.size w).alloc kE (.cells #[.slice (some ⟨g,0,none⟩) K.n c] 249)).alloc kP (.cells #[] 5);have a:=kG h i;clear h i j;by_cases m:k<0
 ·go_enter func179,ntmps179;go_wp2;refine p6 (v:= .tuple #[.int .i64 0,.slice (some ⟨w.1.size+1,0,none⟩) 0 0,.bool false]) (by simp[results,results179,go_sem]) rfl ?_;exact⟨_,_,rfl,a.out⟩
 ·have n:(K.n:Int)/4<=k:=by unfold fC at f;omega
  clear f;go_enter func179,ntmps179;go_wp2;refine p6 (v:= .tuple #[.int .i64 0,.slice (some ⟨w.1.size+1,0,none⟩) 0 0,.bool false]) (by simp[results,results179,go_sem]) rfl ?_;exact⟨_,_,rfl,a.out⟩
noncomputable def vIn(K:DK)(t:Int):Bool:= @decide (fC K t) (Classical.propDecidable _)
noncomputable def vK(K:DK)(t:Int):Int:=match vIn K t with|true=>iJ t (pgL K t.toNat)|false=>0
noncomputable def vL(K:DK)(t:Int):List Int:=match vIn K t with|true=>ei t (pgL K t.toNat)|false=>[]
noncomputable def vB(K:DK)(t:Int):Bool:=match vIn K t with|true=>iI t (pgL K t.toNat)|false=>false
theorem jI{K a}(h:fC K a):vIn K a=true:= @decide_eq_true _ (Classical.propDecidable _) h
theorem jk{K a}(h:¬fC K a):vIn K a=false:= @decide_eq_false _ (Classical.propDecidable _) h
theorem xg(d K b g c w)(h:RDisk w d K)(f:dOk K)(n:VRow w d K g):
 Calls prog 179 #[.agg #[.slice (some ⟨g,0,none⟩) K.n c],.int .i64 b] w fun e w'=> ∃l m,e= .returned (.tuple #[.int .i64 (vK K b),.slice l (vL K b).length m,.bool (vB K b)])/\Below w.1.size w w'/\Own w.1.size w' l (vL K b).length m (vL K b):=by
 by_cases a:fC K b
 ·obtain⟨T,rfl⟩:=n3 a.1;have i:vK K (T:Int)=iJ T (pgL K T):=by unfold vK;rw[jI a];rfl
  have j:vL K (T:Int)=ei T (pgL K T):=by unfold vL;rw[jI a];rfl
  have k:vB K (T:Int)=iI T (pgL K T):=by unfold vB;rw[jI a];rfl
  rw[i,j,k];exact Gp d K T g c w h f n a
 ·have i:vK K b=0:=by unfold vK;rw[jk a]
  have j:vL K b=[]:=by unfold vL;rw[jk a]
  have k:vB K b=false:=by unfold vB;rw[jk a]
  rw[i,j,k];exact Gq K b g c w f.1.2.1 a
theorem rY{w d K}(h:RDisk w d K)(c):IsB (vL K c):=by
 by_cases a:fC K c
 ·have b:vL K c=ei c (pgL K c.toNat):=by unfold vL;rw[jI a]
  rw[b];refine Gk (rX h (ph (K:=K) (T:=c.toNat) ?_));rw[Int.toNat_of_nonneg a.1];exact a
 ·have b:vL K c=[]:=by unfold vL;rw[jk a]
  rw[b];exact ir
theorem mN{K}(d:dOk K)(c):(vL K c).length<=256:=by
 by_cases a:fC K c
 ·have b:vL K c=ei c (pgL K c.toNat):=by unfold vL;rw[jI a]
  rw[b];refine k2 (Gl _ _) (Nat.le_of_eq (Gn d (ph (K:=K) (T:=c.toNat) ?_)));rw[Int.toNat_of_nonneg a.1];exact a
 ·have b:vL K c=[]:=by unfold vL;rw[jk a]
  rw[b];simp
theorem xh{e w d K B g c}(h:RDisk e d K)(a:dOk K)(o:w.ownsRow B 70 1 (.slice (some ⟨g,0,none⟩) K.n c) K.n (fB K.At d.pA d.sA d.pN d.sN d.pC d.sC K.n K.m)):VRow w d K g:=
 ⟨(qX o g rfl).2,fun f b=>by rw[sD o f kH,lK _ _ _ _ _ _ _ _ _ _ b,pd h a f b]⟩
def mO(K:DK)(t:Int)(n:Nat):Bool:=decide (0<=t/\t<K.n/\n=64)
theorem r5(d c f pc)(K:DK)(a w)(j:K.n<=4096):
 Calls prog 206 #[.agg #[.slice d K.n f,.slice c K.m pc],.int .i64 a] w fun e w'=>e= .returned (.bool (decide (0<=a/\a<K.n)))/\Below w.1.size w w':=by
 have b:Hid _:=(p4 w.1.size w).alloc kE (.cells #[.slice d K.n f,.slice c K.m pc] 37);by_cases h:0<=a
 ·by_cases i:a< (K.n:Int)
  ·rw[show decide (0<=a/\a< (K.n:Int))=true from q6 ⟨h,i⟩];go_enter func206,ntmps206;go_wp2;go_ret;exact⟨rfl,b.out⟩
  ·rw[show decide (0<=a/\a< (K.n:Int))=false from q5 kH];have g:decide (a< (K.n:Int))=false:=by simp;omega
   go_enter func206,ntmps206;go_wp2;go_ret;exact⟨rfl,b.out⟩
 ·rw[show decide (0<=a/\a< (K.n:Int))=false from q5 kH];have g:decide (0<=a)=false:=by simp;omega
  go_enter func206,ntmps206;go_wp2;go_ret;exact⟨rfl,b.out⟩
theorem Gr(k j l pc K d a n c w)(q:n<=maxLen)(p:K.n<=4096):
 Calls prog 182 #[.agg #[.slice k K.n l,.slice j K.m pc],.int .i64 d,.slice a n c] w fun e w'=>e= .returned (.bool (mO K d n))/\Below w.1.size w w':=by
 unfold maxLen at q;have r:=(p4 w.1.size w).alloc kE (.cells #[.slice k K.n l,.slice j K.m pc] 37);have f:Hid _:=r;clear r;by_cases b:0<=d/\d< (K.n:Int)
 ·have m:Hid (decide (0<=d/\d< (K.n:Int))=true):=q6 b;by_cases o:n=64
  ·rw[show mO K d n=true from q6 ⟨b.1,b.2,o⟩];have s:((n:Int)==64)=true:=by simp;omega
   clear b o;go_enter func182,ntmps182;go_wp2_with fail;refine(r5 k j l pc K d _ p).mono ?_;rw[m.out];rintro e w1 ⟨rfl,g⟩;have i:=f.out.trans (g.mono f.out.size);go_wp2;go_ret;exact⟨rfl,i⟩
  ·rw[show mO K d n=false from q5 (fun h=>o h.2.2)];have s:((n:Int)==64)=false:=by simp;omega
   clear b o;go_enter func182,ntmps182;go_wp2_with fail;refine(r5 k j l pc K d _ p).mono ?_;rw[m.out];rintro e w1 ⟨rfl,g⟩;have i:=f.out.trans (g.mono f.out.size);go_wp2;go_ret;exact⟨rfl,i⟩
 ·have m:Hid (decide (0<=d/\d< (K.n:Int))=false):=q5 b;rw[show mO K d n=false from q5 (fun h=>b ⟨h.1,h.2.1⟩)];clear b;go_enter func182,ntmps182;go_wp2_with fail;refine(r5 k j l pc K d _ p).mono ?_;rw[m.out];rintro e w1 ⟨rfl,g⟩;have i:=f.out.trans (g.mono f.out.size);go_wp2;go_ret;exact⟨rfl,i⟩
theorem xi(v s n pc ah R u ai D S K w)(r:RRecs 0 w v K.n n zI ah u ai K.S)(o:RRecs 1 w s K.m pc (aI K) R D S K.D):
 Calls prog 148 #[.agg #[.slice v K.n n,.slice s K.m pc]] w fun e w'=>e= .returned (.bool (bK K))/\Below w.1.size w w':=by
 have af:=k2 r.le r.le';have ae:=k2 o.le o.le';unfold maxLen at af ae;have t:=(p4 w.1.size w).alloc kE (.cells #[.slice v K.n n,.slice s K.m pc] 37);have l:Hid _:=t;have h:Hid (∀(_:¬dOk K),bK K=false):=rS;have Y:Hid (∀(_:dOk K),bK K=true):=oV;by_cases a6:(K.n:Int)<1
 ·have d:Hid (bK K=false):=h.out (fun a=>by have:=a.1;omega);clear t;go_enter func148,ntmps148;go_wp2;go_ret;exact⟨by rw[d.out];rfl,l.out⟩
 ·by_cases a7:(4096:Int)< (K.n:Int)
  ·have d:Hid (bK K=false):=h.out (fun a=>by have:=a.1;omega);clear t;go_enter func148,ntmps148;go_wp2;go_ret;exact⟨by rw[d.out];rfl,l.out⟩
  ·by_cases a8:(5000:Int)< (K.m:Int)
   ·have d:Hid (bK K=false):=h.out (fun a=>by have:=a.1;omega);clear t;go_enter func148,ntmps148;go_wp2;go_ret;exact⟨by rw[d.out];rfl,l.out⟩
   ·have T:=r.below t;have Q:=o.below t;clear t;have M:=fun i c=>(r.data i c).len_eq;have J:=fun i c=>(o.data i c).len_eq;have L:=fun i c=>k2 (o.data i c).le (o.data i c).le';have N:=fun i c=>k2 (r.data i c).le (r.data i c).le';have H:Hid _:=M;have G:Hid _:=J;have W:Hid _:=L;have X:Hid _:=N;clear M J L N r o;have a1:decide ((K.n:Int)<1)=false:=by simp;omega
    have a2:decide ((4096:Int)< (K.n:Int))=false:=by simp;omega
    have a3:decide ((5000:Int)< (K.m:Int))=false:=by simp;omega
    have a4:((K.n:Int))<=4096:=kH;have a5:((K.m:Int))<=5000:=kH;go_enter func148,ntmps148;go_wp2
    go_loop [4,26] (fun _ i=> ∃j:Nat,j<=K.n/\i= .int .i64 j/\∀k,k<j->u k=64) (fun _ i=>K.n-(intOf i).toNat)
    case atStart=>exact⟨0,kX _,rfl,fun k a=>absurd a kH⟩
    case round=>
     obtain⟨j,ba,rfl,C⟩:=hrel;have A:Hid _:=C;clear C;by_cases y:j<K.n
     ·obtain⟨b,off,rfl,ab,z⟩:=T.at_ kH;have k0:(w.alloc (.cells #[.slice (some ⟨b,off,none⟩) K.n n,.slice s K.m pc] 37)).cell? ⟨b,off+j,none⟩=some (.slice (ah j) (u j) (ai j)):=by have:=(z j y).2;simpa using this
      have P:=X.out j y;unfold maxLen at P;have ac:(0:Int)<=(j:Int):=kH;have ad:(j:Int)< (K.n:Int):=kH;clear z T Q;by_cases x:u j=64
      ·have g:((u j:Int) !=64)=false:=by simp;omega
       have U:Hid (u j=64):=x;clear x;go_wp2
       go_round
       case rel=>
        refine⟨j+1,kH,by go_num,fun k a=> ?_⟩;by_cases e:k=j
        ·subst e;exact U.out
        ·exact A.out k kH
       case measure=>simp[intOf];omega
      ·have g:((u j:Int) !=64)=true:=by simp;omega
       have d:Hid (bK K=false):=h.out (fun a=>x (by rw[<-H.out j y];exact a.2.1 j y));clear x;go_wp2;go_ret;exact⟨by rw[d.out];rfl,l.out⟩
     ·have e:j=K.n:=kH;have ap:Hid (j=K.n):=e;clear e T;have a9:decide ((j:Int)< (K.n:Int))=false:=by simp;omega
      go_wp2;go_loopw [6,37] (fun _ i wr=> ∃q:Nat,q<=K.m/\i= .int .i64 q/\Below (w.alloc (.cells #[.slice v K.n n,.slice s K.m pc] 37)).1.size (w.alloc (.cells #[.slice v K.n n,.slice s K.m pc] 37)) wr/\∀k,k<q->0<=K.At k/\K.At k<K.n/\D k=64) (fun _ i _=>K.m-(intOf i).toNat)
      case atStart=>exact⟨0,kX _,rfl,kF,fun k a=>absurd a kH⟩
      case round=>
       obtain⟨q,bb,rfl,g,I⟩:=hrel;have F:Hid _:=I;clear I;have aw:wr.cell? ⟨w.1.size,0,none⟩=some (.slice v K.n n):=by rw[g.cell (p:=⟨w.1.size,0,none⟩) kP];simp
       have aH:wr.cell? ⟨w.1.size,1,none⟩=some (.slice s K.m pc):=by rw[g.cell (p:=⟨w.1.size,1,none⟩) kP];simp
       have bc:w.1.size<wr.1.size:=by have:=g.size;simp at this;omega
       have an:Hid (Below w.1.size w wr):=l.out.trans (g.mono l.out.size);have O:Hid _:=g;have ag:=Q.below g;clear g;by_cases f:q<K.m
       ·obtain⟨b,off,rfl,ab,z⟩:=ag.at_ kH;have k0:wr.cell? ⟨b,off+q*2,none⟩=some (.int .i64 (K.At q)):=(z q f).1 0 kH;have aO:wr.cell? ⟨b,off+q*2+1,none⟩=some (.slice (R q) (D q) (S q)):=(z q f).2;have P:=W.out q f;have V:Hid _:=G.out q f;have ac:(0:Int)<=(q:Int):=kH;have ad:(q:Int)< (K.m:Int):=kH;clear z Q ag;go_wp2_with fail;refine(Gr v (some ⟨b,off,none⟩) n pc K (K.At q) (R q) (D q) (S q) _ P kH).mono ?_;rintro e aX ⟨rfl,Z⟩;have B:=(O.out.alloc O.out.size _).trans (Z.mono (k2 O.out.size kP));have am:Hid (Below w.1.size w aX):=l.out.trans (B.mono l.out.size);have ak:Hid _:=B;clear Z B k0 aO aw aH;cases E:mO K (K.At q) (D q)with
        |true=>
         have m:=r6 E;have ar:Hid _:=m;clear E m;go_wp2;go_roundw
         case rel=>
          refine⟨q+1,kH,by go_num,ak.out,fun k a=> ?_⟩;by_cases e:k=q
          ·subst e;exact ar.out
          ·exact F.out k kH
         case measure=>simp[intOf];omega
        |false=>
         have m:=of_decide_eq_false E;have d:Hid (bK K=false):=h.out (fun a=>m (by have:=a.2.2 q f;rw[V.out]at this;exact this));clear E m;go_wp2;go_ret;exact⟨by rw[d.out];rfl,am.out⟩
       ·have a0:decide ((q:Int)< (K.m:Int))=false:=by simp;omega
        have d:Hid (bK K=true):=Y.out ⟨⟨kH,kH,kH⟩,fun i c=>by rw[H.out i c];exact A.out i (by have:=ap.out;omega),fun i c=>by have:=F.out i kH;rw[G.out i c];exact this⟩;go_wp2;go_ret;exact⟨by rw[d.out];rfl,an.out⟩
theorem Gs(d K w)(h:RDisk w d K):
 Calls prog 148 #[bC d K] w fun e w'=>e= .returned (.bool (bK K))/\Below w.1.size w w':=xi d.sa d.pa d.sc d.pc d.sA d.pA d.sN d.sC d.pN d.pC K w h.safe h.pend
theorem se:Keyed prog 3:=int_keyed r7
theorem xj(w):(zeroValue 3).run prog w= .ok (.int .i64 0) w:=kO
def eZ(At:Nat->Int):Nat->DataW Unit
 |0=> .map []
 |j+1=>(eZ At j).put (.int .i64 (At j)) (.lit (.int .i64 (j:Int)))
theorem sh(a):∀j,IsMap (eZ a j)
 |0=>⟨[],rfl⟩
 |j+1=>(sh a j).put _ _
theorem xk(a b):∀j,Maps.has (eZ a j) (.int .i64 b)=(gK a b j).isSome
 |0=>rfl
 |j+1=>by
  show Maps.has ((eZ a j).put _ _) _= _;by_cases e:a j=b
  ·subst e;rw[has_put_same (sh a j) (by exact trivial)];simp[gK]
  ·rw[has_put_other (by intro h;apply e;cases h;rfl),xk a b j];simp[gK,e]
theorem xl(a b):∀j i,gK a b j=some i->(eZ a j).atKey (.int .i64 b) (.lit (.int .i64 0))= .lit (.int .i64 (i:Int))
 |0,i,h=>by simp[gK]at h
 |j+1,i,h=>by
  show((eZ a j).put _ _).atKey _ _= _;simp only[gK]at h;by_cases e:a j=b
  ·subst e;rw[qb rfl]at h;cases h;rw[atKey_put_same (sh a j) (by exact trivial)]
  ·rw[q4 e]at h;rw[atKey_put_other (by intro h;apply e;cases h;rfl)];exact xl a b j i h
def rZ:Value:= .agg #[.slice none 0 0,.slice none 0 0,.map none]
theorem Gt(d K w)(h:RDisk w d K)(b:¬dOk K):
 Calls prog 83 #[bC d K] w fun e w'=>e= .returned (.tuple #[rZ,.bool false])/\Below w.1.size w w':=by
 have c:Hid _:=((p4 w.1.size w).alloc kE (.cells #[.slice d.sa K.n d.sc,.slice d.pa K.m d.pc] 37)).alloc kP (.cells #[.slice none 0 0,.slice none 0 0,.map none] 140);have f:Hid (bK K=false):=rS b;clear b;unfold bC;go_enter func83,ntmps83;go_wp2_with fail;refine(Gs d K _ (h.below c.out)).mono ?_;rw[f.out];rintro e w1 ⟨rfl,a⟩;have k0:w1.cell? ⟨w.1.size+1,0,none⟩=some (.slice none 0 0):=by rw[a.cell (p:=⟨w.1.size+1,0,none⟩) kP];simp
 have j:w1.cell? ⟨w.1.size+1,1,none⟩=some (.slice none 0 0):=by rw[a.cell (p:=⟨w.1.size+1,1,none⟩) kP];simp
 have k:w1.cell? ⟨w.1.size+1,2,none⟩=some (.map none):=by rw[a.cell (p:=⟨w.1.size+1,2,none⟩) kP];simp
 have l:w1.frozen? ⟨w.1.size+1,0,none⟩=false:=by rw[a.frozen (p:=⟨w.1.size+1,0,none⟩) kP];simp
 have f1:w1.frozen? ⟨w.1.size+1,1,none⟩=false:=by rw[a.frozen (p:=⟨w.1.size+1,1,none⟩) kP];simp
 have m:w1.frozen? ⟨w.1.size+1,2,none⟩=false:=by rw[a.frozen (p:=⟨w.1.size+1,2,none⟩) kP];simp
 have i:=c.out.trans (a.mono c.out.size);clear a;go_wp2;have g:=((i.setCell (p:=⟨w.1.size+1,0,none⟩) (n0 _) (.slice none 0 0)).setCell (p:=⟨w.1.size+1,1,none⟩) (n0 _) (.slice none 0 0)).setCell (p:=⟨w.1.size+1,2,none⟩) (n0 _) (.map none);exact p6 (v:= .tuple #[rZ,.bool false]) (by simp[results,results83,go_sem,k0,j,k,rZ]) rfl ⟨rfl,g⟩
theorem xm{a}(b:0<=a)(c:a<4096):keyOf prog 3 (.int .i64 a)=some (.int .i64 a):=keyOf_int_mk r7 (WalkArith.wf_i64 kH)
theorem Gu(f c h pc ab I ad ac L J K w)(S:RRecs 0 w f K.n h zI ab ad ac K.S)(l:RRecs 1 w c K.m pc (aI K) I L J K.D)(y:dOk K):
 Calls prog 83 #[.agg #[.slice f K.n h,.slice c K.m pc]] w fun e w'=> ∃g,e= .returned (.tuple #[.agg #[.slice f K.n h,.slice c K.m pc,.map (some g)],.bool true])/\Below w.1.size w w'/\w'.ownsMap prog 3 (plainElem prog 3) g K.m (eZ K.At K.m):=by
 obtain⟨⟨aO,aX,aw⟩,_,X⟩:=id y;have aH:= @run_makeMap prog;have D:Hid _:=((p4 w.1.size w).alloc kE (.cells #[.slice f K.n h,.slice c K.m pc] 37)).alloc kP (.cells #[.slice none 0 0,.slice none 0 0,.map none] 140);have ak:Hid (bK K=true):=oV y;have ai:Hid _:=X;clear X y;go_enter func83,ntmps83;go_wp2_with fail;refine(xi f c h pc ab I ad ac L J K _ (S.below D.out) (l.below D.out)).mono ?_;rw[ak.out];rintro e w1 ⟨rfl,b⟩;have E:w1.cell? ⟨w.1.size,0,none⟩=some (.slice f K.n h):=by rw[b.cell (p:=⟨w.1.size,0,none⟩) (by simp;omega)];simp
 have r:w1.cell? ⟨w.1.size,1,none⟩=some (.slice c K.m pc):=by rw[b.cell (p:=⟨w.1.size,1,none⟩) (by simp;omega)];simp
 have k0:w1.cell? ⟨w.1.size+1,0,none⟩=some (.slice none 0 0):=by rw[b.cell (p:=⟨w.1.size+1,0,none⟩) kP];simp
 have q:w1.cell? ⟨w.1.size+1,1,none⟩=some (.slice none 0 0):=by rw[b.cell (p:=⟨w.1.size+1,1,none⟩) kP];simp
 have z:w1.cell? ⟨w.1.size+1,2,none⟩=some (.map none):=by rw[b.cell (p:=⟨w.1.size+1,2,none⟩) kP];simp
 have F:w1.frozen? ⟨w.1.size+1,0,none⟩=false:=by rw[b.frozen (p:=⟨w.1.size+1,0,none⟩) kP];simp
 have f1:w1.frozen? ⟨w.1.size+1,1,none⟩=false:=by rw[b.frozen (p:=⟨w.1.size+1,1,none⟩) kP];simp
 have G:w1.frozen? ⟨w.1.size+1,2,none⟩=false:=by rw[b.frozen (p:=⟨w.1.size+1,2,none⟩) kP];simp
 have W:=D.out.trans (b.mono D.out.size);have af:w.1.size+1<w1.1.size:=by have:=b.size;simp at this;omega
 have V:Hid _:=(kR (kR E r) (kR (kR k0 (kR q z)) (kR F (kR f1 G))));have B:Hid _:=W;have Y:(w1.alloc (.map #[] 0)).cell? ⟨w.1.size,1,none⟩=some (.slice c K.m pc):=by rw[((p4 w1.1.size w1).alloc kE _).cell (p:=⟨w.1.size,1,none⟩) (by show w.1.size<_;omega)];exact r
 clear b k0 q z F f1 G W;go_wp2;go_loopw [5,6,15] (fun _ _ i wr=> ∃j:Nat,j<=K.m/\i= .int .i64 j/\Below w1.1.size w1 wr/\wr.ownsMap prog 3 (plainElem prog 3) w1.1.size j (eZ K.At j)) (fun _ _ i _=>K.m-(intOf i).toNat)
 case atStart=>exact⟨0,kX _,rfl,bAl _ _,World.ownsMap_made _ _ _ _⟩
 case round=>
  obtain⟨j,a0,rfl,m,H⟩:=hrel;by_cases x:j<K.m
  ·obtain⟨o,d,rfl,t,u⟩:=l.at_ kH;have s:=ai.out j x;have C:=B.out.trans (m.mono B.out.size);have k0:wr.cell? ⟨o,d+j*2,none⟩=some (.int .i64 (K.At j)):=by rw[C.cell (p:=⟨o,d+j*2,none⟩) t];exact(u j x).1 0 kH
   have q:wr.cell? ⟨o,d+j*2+1,none⟩=some (.slice (I j) (L j) (J j)):=by rw[C.cell (p:=⟨o,d+j*2+1,none⟩) t];exact(u j x).2
   have R:=xm s.1 (by have:=s.2.1;omega);have ap:(0:Int)<=(j:Int):=kH;have ar:(j:Int)< (K.m:Int):=kH;have P:Hid _:=m;have Q:Hid (wr.ownsMap prog 3 (plainElem prog 3) w1.1.size j (eZ K.At j)):=H;clear u l S s m H E r Y;have N:=Q.out.alloc (.cells #[.int .i64 (K.At j),.slice (I j) (L j) (J j)] 211);have T:Hid _:=N;clear N;go_wp2_with (first
    |(at_mapUpdate;refine wpList_mapUpdate_own _ rfl _ _ _ 138 rfl 3 3 se underlying138 (plainElem prog 3) w1.1.size j _ rfl T.out (by unfold maxLen;omega) _ _ _ rfl rfl R (.lit (.int .i64 (j:Int))) [] (plainElem_int r7 (WalkArith.wf_i64 kH)) ?_;intro ae O M)
    |go_in)
   have ag:Hid (Below w1.1.size w1 ae):=(P.out.alloc P.out.size _).grown M (by have:=P.out.size;simp;omega) (fun k am=>by cases am;exact kE);have U:Hid (ae.ownsMap prog 3 (plainElem prog 3) w1.1.size (j+1) (eZ K.At (j+1))):=O;clear O M;go_roundw
   case rel=>exact⟨j+1,kH,by go_num,ag.out,U.out⟩
   case measure=>simp[intOf];omega
  ·have e:j=K.m:=kH;obtain⟨⟨E,r⟩,⟨k0,q,z⟩,F,f1,G⟩:=V.out;have ah:Hid (j=K.m):=e;have Q:Hid (wr.ownsMap prog 3 (plainElem prog 3) w1.1.size j (eZ K.At j)):=H;have n:∀p:Addr,p.block<w1.1.size->wr.cell? p=w1.cell? p:=fun p l=>m.cell l;have A:∀p:Addr,p.block<w1.1.size->wr.frozen? p=w1.frozen? p:=fun p l=>m.frozen l;have an:w.1.size<w1.1.size:=kH;rw[<-n _ an]at E r;rw[<-n _ af]at k0 q z;rw[<-A _ af]at F f1 G;have C:Hid (Below w.1.size w wr):=B.out.trans (m.mono B.out.size);clear n A e H m Y V S l;go_wp2;have o:=((C.out.setCell (p:=⟨w.1.size+1,0,none⟩) (n0 _) (.slice f K.n h)).setCell (p:=⟨w.1.size+1,1,none⟩) (n0 _) (.slice c K.m pc)).setCell (p:=⟨w.1.size+1,2,none⟩) (n0 _) (.map (some w1.1.size));have Z:=((Q.out.setCell (a:=⟨w.1.size+1,0,none⟩) (by show w1.1.size≠w.1.size+1;omega) (.slice f K.n h)).setCell (a:=⟨w.1.size+1,1,none⟩) (by show w1.1.size≠w.1.size+1;omega) (.slice c K.m pc)).setCell (a:=⟨w.1.size+1,2,none⟩) (by show w1.1.size≠w.1.size+1;omega) (.map (some w1.1.size));rw[ah.out]at Z;exact p6 (v:= .tuple #[.agg #[.slice f K.n h,.slice c K.m pc,.map (some w1.1.size)],.bool true]) (by simp[results,results83,go_sem,k0,q,z]) rfl ⟨_,rfl,o,Z⟩
theorem Gv(n m o pc B y D C A z K w)(v:RRecs 0 w n K.n o zI B D C K.S)(u:RRecs 1 w m K.m pc (aI K) y A z K.D)(H:dOk K)(g T)(I:T<K.n)(t:w.ownsMap prog 3 (plainElem prog 3) g K.m (eZ K.At K.m)):
 Calls prog 212 #[.agg #[.slice n K.n o,.slice m K.m pc,.map (some g)],.int .i64 T] w fun e w'=>e= .returned (.slice (cJ K.At y B K.m T) (cJ K.At A D K.m T) (cJ K.At z C K.m T))/\Below w.1.size w w':=by
 obtain⟨⟨P,Q,O⟩,_,G⟩:=H;have l:Hid _:=(p4 w.1.size w).alloc kE (.cells #[.slice n K.n o,.slice m K.m pc,.map (some g)] 140);have F:Hid _:=t.alloc (.cells #[.slice n K.n o,.slice m K.m pc,.map (some g)] 140);have k:keyOf prog 3 (.int .i64 (T:Int))=some (.int .i64 (T:Int)):=xm kH kH;have N:(0:Int)<=(T:Int):=kH;have hi4:(T:Int)< (K.n:Int):=kH;have a:=xk K.At (T:Int) K.m;unfold cJ;cases h:gK K.At (T:Int) K.m with
 |some i=>
  rw[h]at a;have q:=xl K.At (T:Int) K.m i h;have J:=oY h;obtain⟨j,b,rfl,f,d⟩:=u.at_ kH;have x:w.cell? ⟨j,b+i*2+1,none⟩=some (.slice (y i) (A i) (z i)):=(d i J).2;rw[<-l.out.cell (p:=⟨j,b+i*2+1,none⟩) f]at x;have E:Hid _:=q;have r:Hid _:=a;have L:(0:Int)<=(i:Int):=kH;have M:(i:Int)< (K.m:Int):=kH;clear q a d u v t G h;simp only[];go_enter func212,ntmps212;go_wp2_with (first
   |(at_lookup;refine wpList_lookup_own_ok_int _ rfl _ _ 138 rfl 3 3 .i64 se underlying138 r7 (xj _) g K.m (eZ K.At K.m) rfl F.out _ _ rfl k ?_;intro c s _;rw[E.out]at s;cases s;rw[r.out];simp only[Option.isSome])
   |go_in)
  go_ret;exact⟨rfl,l.out⟩
 |none=>
  rw[h]at a;obtain⟨j,b,rfl,f,d⟩:=v.at_ kH;have x:w.cell? ⟨j,b+T,none⟩=some (.slice (B T) (D T) (C T)):=by have:=(d T I).2;simpa using this
  rw[<-l.out.cell (p:=⟨j,b+T,none⟩) f]at x;have r:Hid _:=a;clear a d u v t G h;simp only[];go_enter func212,ntmps212;go_wp2_with (first
   |(at_lookup;refine wpList_lookup_own_ok_int _ rfl _ _ 138 rfl 3 3 .i64 se underlying138 r7 (xj _) g K.m (eZ K.At K.m) rfl F.out _ _ rfl k ?_;intro c s _;rw[r.out];simp only[Option.isSome])
   |go_in)
  go_ret;exact⟨rfl,l.out⟩
theorem Gw(b id a n c l w)(h:Bs w a n c l)(f:n≠256)(i:w.cell? ⟨2,0,none⟩=some (errV b)):
 Calls prog 213 #[.int .i64 id,.slice a n c] w fun e w'=>Below w.1.size w w'/\e= .returned (.tuple #[.int .i64 0,.slice none 0 0,errV b]):=by
 have d:=k2 h.le h.le';unfold maxLen at d;have g:((n:Int) !=256)=true:=by simp;omega
 clear h f;go_enter func213,ntmps213;go_wp2_with fail
 go_quiet (fail)
 go_wp2;refine p6 (v:= .tuple #[.int .i64 0,.slice none 0 0,errV b]) (by simp[results,results213,go_sem]) rfl ⟨sP kF _,rfl⟩
theorem Gx(B id b off f l w)(h:Bs w (some ⟨b,off,none⟩) 256 f l)(bb:w.cell? ⟨2,0,none⟩=some (errV B)):
 Calls prog 213 #[.int .i64 id,.slice (some ⟨b,off,none⟩) 256 f] w fun e w'=>Below w.1.size w w'/\((dh id l/\∃a c,e= .returned (.tuple #[.int .i64 (kd l),.slice a (bm l).length c,.nilIface])/\Own w.1.size w' a (bm l).length c (bm l))\/(¬dh id l/\e= .returned (.tuple #[.int .i64 0,.slice none 0 0,errV B]))):=by
 have bv:256<=f:=h.le;have bn:f<=maxLen:=h.le';have bf:=h.len_eq;have K:Hid _:=Dg (id:=id) h.byte;have bg:=qY h.byte;obtain⟨N,a4⟩:=n3 bg;have a8:Hid (sz l=(N:Int)):=a4;have bd:2<w.1.size:=sd w ⟨2,0,none⟩ bb;have bq:Hid (Bs w (some ⟨b,off+4,none⟩) 252 (f-4) (l.drop 4)):=by
  have:=h.piece 4 252 kH (f-4) kH kH;rw[mm (by rw[k3];omega)]at this;exact this
 have a9:Hid (Bs w (some ⟨b,off+4,none⟩) 12 (f-4) (bo l 4 12)):=h.piece 4 12 kH (f-4) kH kH;have V:Hid (N<=240->Bs w (some ⟨b,off+16,none⟩) N (f-16) (bm l)):=fun E=>by
  have:=h.piece 16 N kH (f-16) kH kH;have e:bm l=(l.drop 16).take N:=by unfold bm bo;rw[a8.out];simp
  rw[e];exact this
 have bs:Hid (N<=240->Bs w (some ⟨b,off+(16+N),none⟩) (256-(16+N)) (f-(16+N)) (l.drop (16+N))):=fun E=>by
  have:=h.piece (16+N) (256-(16+N)) kH (f-(16+N)) kH kH;rw[mm (by rw[k3];omega)]at this;exact this
 have y:Hid (nZ id l↔low (bo l 4 4)=id/\eJ id (kd l) (N:Int)=true/\low (bo l 0 4)=(crc (l.drop 4):Int)/\head id (kd l) (N:Int)=bo l 4 12/\ja (l.drop (16+N))=true):=by
  show nZ id l↔_;unfold nZ;rw[a8.out];simp only[Int.toNat_natCast];exact⟨fun h=>h.2,fun h=>⟨bf,h⟩⟩
 have a5:=CW b off f l w h;rw[show l.getD 8 0=kd l from rfl,show low (bo l 10 2)=(N:Int)from a4]at a5;have a7:Hid _:=fun a n c v bu E=>CY a n c (l.drop 4) v bu E;have bY:Hid _:=h;generalize low (bo l 4 4)=k at*;generalize low (bo l 0 4)=C at*;generalize crc (l.drop 4)=a1 at*;generalize kd l=s at*;have bt:Hid (Calls prog 232 #[.slice (some ⟨b,off,none⟩) 256 f] w fun e w'=>e= .returned (.agg #[.int .i64 k,.int .i64 s,.int .i64 (N:Int),.int .i64 C])/\Below w.1.size w w'):=a5;clear a5 a4 bg h;go_enter func213,ntmps213;go_wp2_with fail;refine q2 bt.out ?_;rintro e w1 ⟨rfl,an⟩;have bk:=(p4 w1.1.size w1).alloc kE (.cells #[.int .i64 k,.int .i64 s,.int .i64 (N:Int),.int .i64 C] 334);have L:=an.trans (bk.mono an.size);have bH:=s2 w1 (.cells #[.int .i64 k,.int .i64 s,.int .i64 (N:Int),.int .i64 C] 334);have cb:(w1.alloc (.cells #[.int .i64 k,.int .i64 s,.int .i64 (N:Int),.int .i64 C] 334)).1.size=w1.1.size+1:=by simp
 have cc:=an.size;clear bk an;go_wp2_with fail;generalize bc:w1.alloc (.cells #[.int .i64 k,.int .i64 s,.int .i64 (N:Int),.int .i64 C] 334)=af at*;clear bc;have A:Hid (∀v,Below af.1.size af v->v.cell? ⟨w1.1.size,0,none⟩=some (.int .i64 k)/\v.cell? ⟨w1.1.size,1,none⟩=some (.int .i64 s)/\v.cell? ⟨w1.1.size,2,none⟩=some (.int .i64 (N:Int))/\v.cell? ⟨w1.1.size,3,none⟩=some (.int .i64 C)/\v.cell? ⟨2,0,none⟩=some (errV B)):=fun v ag=>by
  have ap:=(ag.block w1.1.size kH).trans bH;exact⟨so _ _ 0 _ _ _ ap,so _ _ 1 _ _ _ ap,so _ _ 2 _ _ _ ap,so _ _ 3 _ _ _ ap,by
   rw[ag.cell (p:=⟨2,0,none⟩) (by show 2<_;omega),L.cell (p:=⟨2,0,none⟩) bd];exact bb⟩
 obtain⟨k0,b2,b3,b4,b5⟩:=A.out af kF;by_cases hA:k=id
 case neg=>
  have hx:(k !=id)=true:=by simp[hA]
  have j:¬dh id l:=fun D=>hA (y.out.1 (K.out.1 D)).1;have bp:Hid _:=L;have r:Hid _:=j;clear j hA
  go_quiet (fail)
  go_wp2_with fail
  go_quiet (fail)
  go_wp2;refine p6 (v:= .tuple #[.int .i64 0,.slice none 0 0,errV B]) (by simp[results,results213,go_sem]) rfl ?_;exact⟨sP (sP bp.out _) _,kT ⟨r.out,rfl⟩⟩
 subst hA;have hx:(k !=k)=false:=by simp
 have ca:¬f=4:=kH;have bR:¬f=16:=kH;have b9:(4:Int)<=(f:Int):=kH;have bP:(16:Int)<=(f:Int):=kH;cases x:eJ k s (N:Int)with
 |false=>
  have j:¬dh k l:=fun D=>by have:=(y.out.1 (K.out.1 D)).2.1;rw[x]at this;cases this
  have r:Hid _:=j;have P:Hid _:=x;clear j x;refine ay (fun v=>v.cell? ⟨w1.1.size,0,none⟩=some (.int .i64 k)/\v.cell? ⟨w1.1.size,1,none⟩=some (.int .i64 s)/\v.cell? ⟨w1.1.size,2,none⟩=some (.int .i64 (N:Int))/\v.cell? ⟨w1.1.size,3,none⟩=some (.int .i64 C)/\v.cell? ⟨2,0,none⟩=some (errV B)) (fun _=>false) kO ?_;have d:=A.out af.drew kF.drew;refine aa 0 d ?_;refine aa 1 d ?_;refine aa 2 d ?_;refine aa 3 d ?_;refine aa 4 d ?_;refine aa 5 d ?_;refine aa 6 d ?_;refine aa 7 d ?_;refine aj 8 fun z o=> ?_;go_wp2_with fail;refine(CQ k s (N:Int) _ P.out).mono ?_;rintro e am ⟨rfl,m⟩;simp only[s6]at m;replace m:=kK m;go_wp2_with fail;refine o.out _ _ (fun _=>A.out am m) ?_;clear o z;have i:=A.out am m;refine aa 9 i ?_;refine aa 10 i ?_;refine aa 11 i ?_;refine aq 12 i ?_;refine aq 13 i ?_;refine aq 14 i ?_;refine aq 15 i ?_;refine aq 16 i ?_;refine aq 17 i ?_;refine aa 18 i ?_;refine ax ?_;obtain⟨Y,Z,ab,ac,ad⟩:=i;have I:Hid _:=L.trans (m.mono L.size);clear m d;go_wp2_with fail
  go_quiet (fail)
  go_wp2;refine p6 (v:= .tuple #[.int .i64 0,.slice none 0 0,errV B]) (by simp[results,results213,go_sem]) rfl ?_;exact⟨sP I.out _,kT ⟨r.out,rfl⟩⟩
 |true=>
  have E:N<=240:=by have:=mD x;omega
  have P:Hid _:=x;clear x;refine ay (fun v=>v.cell? ⟨w1.1.size,0,none⟩=some (.int .i64 k)/\v.cell? ⟨w1.1.size,1,none⟩=some (.int .i64 s)/\v.cell? ⟨w1.1.size,2,none⟩=some (.int .i64 (N:Int))/\v.cell? ⟨w1.1.size,3,none⟩=some (.int .i64 C)/\v.cell? ⟨2,0,none⟩=some (errV B)) (fun _=>false) kO ?_;have d:=A.out af.drew kF.drew;refine aa 0 d ?_;refine aa 1 d ?_;refine aa 2 d ?_;refine aa 3 d ?_;refine aa 4 d ?_;refine aa 5 d ?_;refine aa 6 d ?_;refine aa 7 d ?_;refine aj 8 fun z o=> ?_;go_wp2_with fail;refine(CP k s (N:Int) _ P.out).mono ?_;rintro e am ⟨rfl,m⟩;simp only[s6]at m;replace m:=kK m;go_wp2_with fail;refine o.out _ _ (fun _=>A.out am m) ?_;clear o z;have i:=A.out am m;have ba:=L.trans (m.mono L.size);refine aa 9 i ?_;refine aa 10 i ?_;refine aa 11 i ?_;refine aa 12 i ?_;refine aa 13 i ?_;refine aa 14 i ?_;refine aa 15 i ?_;refine aj 16 fun z o=> ?_;go_wp2_with fail;refine(a7.out _ _ _ _ (bq.out.below ba) kH).mono ?_;rintro e w' ⟨rfl,rfl⟩;go_wp2_with fail;refine al o ?_;clear o z;refine aa 17 i ?_;refine aa 18 i ?_;refine ax ?_;obtain⟨a6,bh⟩:∃a6,a6=w':=⟨_,rfl⟩;subst bh;obtain⟨Y,Z,ab,ac,ad⟩:=i;by_cases W:C=(a1:Int)
  case neg=>
   have j:¬dh k l:=fun D=>W (y.out.1 (K.out.1 D)).2.2.1;have r:Hid _:=j;have bi:(C !=(a1:Int))=true:=by simp[W]
   have I:Hid _:=ba;clear j W d;go_wp2_with fail
   go_quiet (fail)
   go_wp2;refine p6 (v:= .tuple #[.int .i64 0,.slice none 0 0,errV B]) (by simp[results,results213,go_sem]) rfl ?_;exact⟨sP I.out _,kT ⟨r.out,rfl⟩⟩
  have bi:(C !=(a1:Int))=false:=by simp[W]
  obtain⟨M,a3⟩:∃M,M=16+N:=⟨_,rfl⟩;have bN:IntKind.i64.wrap (16+(N:Int))=(M:Int):=by simp[IntKind.wrap,IntKind.bits,IntKind.signed];omega
  have b7:(16:Int)<=(M:Int):=kH;have b8:(M:Int)<=256:=kH;have s3:(M:Int)<=(f:Int):=kH;have b6:(0:Int)<=(M:Int):=kH;have ar:Hid (f=M->∀v,Below w.1.size w v->Bs v (some ⟨b,off,none⟩) (256-M) 0 (l.drop (16+N))):=fun H v ag=>by
   have be:l.drop (16+N)=[]:=by rw[p2];omega
   rw[be,show 256-M=0 by omega];exact⟨rfl,kE,kX _,fun e=>(by cases e),fun h=>absurd h (oP 0),ir⟩
  have aw:Hid (∀v,Below w.1.size w v->Bs v (some ⟨b,off+M,none⟩) (256-M) (f-M) (l.drop (16+N))):=fun v ag=>by
   have bj:=(bs.out E).below ag;rw[<-a3]at bj ⊢;exact bj
  have U:Hid (M=16+N):=a3;clear d a3;go_wp2_with fail;refine ay (fun v=>v.cell? ⟨w1.1.size,0,none⟩=some (.int .i64 k)/\v.cell? ⟨w1.1.size,1,none⟩=some (.int .i64 s)/\v.cell? ⟨w1.1.size,2,none⟩=some (.int .i64 (N:Int))/\v.cell? ⟨w1.1.size,3,none⟩=some (.int .i64 C)/\v.cell? ⟨2,0,none⟩=some (errV B)) (fun _=>false) kO ?_;have d:=A.out a6.drew m.drew;refine aa 0 d ?_;refine aa 1 d ?_;refine aa 3 d ?_;refine aa 4 d ?_;refine aj 2 fun z o=> ?_;go_wp2_with fail;refine(CR k s (N:Int) _ P.out kH).mono ?_;rintro e bl ⟨b0,b1,rfl,G,S⟩;simp only[s6]at G S;replace G:=kK G;go_wp2_with fail;refine o.out _ _ (fun _=>A.out bl (m.trans (G.mono m.size))) ?_;clear o z;have t:=m.trans (G.mono m.size);have g:=A.out bl t;have q:=L.trans (t.mono L.size);refine aj 5 fun z o=> ?_;go_wp2_with fail;refine(CV _ _ _ _ _ _ (head k s (N:Int)) (bo l 4 12) _ (S.bs (vh P.out)) (a9.out.below q) kH kH).mono ?_;rintro e bS ⟨rfl,rfl⟩;go_wp2_with fail;refine al o ?_;clear o z;by_cases X:head k s (N:Int)=bo l 4 12
  case neg=>
   rw[q5 X];have j:¬dh k l:=fun D=>X (y.out.1 (K.out.1 D)).2.2.2.1;have r:Hid _:=j;have I:Hid _:=q;clear j X;refine aa 6 g ?_;refine aa 7 g ?_;refine aq 8 g ?_;refine aq 9 g ?_;refine aq 10 g ?_;refine aq 11 g ?_;refine aq 12 g ?_;refine aa 13 g ?_;refine ax ?_;obtain⟨Y,Z,ab,ac,ad⟩:=g;clear G S t d;go_wp2_with fail
   go_quiet (fail)
   go_wp2;refine p6 (v:= .tuple #[.int .i64 0,.slice none 0 0,errV B]) (by simp[results,results213,go_sem]) rfl ?_;exact⟨sP I.out _,kT ⟨r.out,rfl⟩⟩
  rw[q6 X];refine aa 6 g ?_;refine aa 7 g ?_;refine aa 8 g ?_;refine aa 9 g ?_;refine aa 10 g ?_;refine aj 11 fun z o=> ?_;go_wp2_with fail
  ·first
   |(have H:f=M:=(by assumption);refine(nP (some ⟨b,off,none⟩) (256-M) 0 (l.drop (16+N)) _ (ar.out H _ q)).mono ?_)
   |(have H:¬f=M:=(by assumption);refine(nP (some ⟨b,off+M,none⟩) (256-M) (f-M) (l.drop (16+N)) _ (aw.out _ q)).mono ?_)
   rintro e O ⟨rfl,rfl⟩;go_wp2_with fail;refine al o ?_;clear o z;cases J:ja (l.drop (16+N))with
   |false=>
    have j:¬dh k l:=fun D=>by have:=(y.out.1 (K.out.1 D)).2.2.2.2;rw[J]at this;cases this
    have r:Hid _:=j;have I:Hid _:=q;clear j J;refine aa 12 g ?_;refine aa 13 g ?_;refine ax ?_;obtain⟨Y,Z,ab,ac,ad⟩:=g;clear G S t d;go_wp2_with fail
    go_quiet (fail)
    go_wp2;refine p6 (v:= .tuple #[.int .i64 0,.slice none 0 0,errV B]) (by simp[results,results213,go_sem]) rfl ?_;exact⟨sP I.out _,kT ⟨r.out,rfl⟩⟩
   |true=>
    have F:dh k l:=K.out.2 (y.out.2 (by refine⟨?_,P.out,W,X,J⟩;trivial));have aO:Hid _:=F;clear F J;refine aa 12 g ?_;refine aa 13 g ?_;refine ax ?_;obtain⟨Y,Z,ab,ac,ad⟩:=g;have ae:Hid ((bm l).length=N):=(V.out E).len_eq;clear G S d;go_wp2_with fail;go_region_with (first|(go_at_call 238;(try rw[show M-16=N from by have a2:=U.out;omega]);refine(uG _ _ _ (bm l) _ ?_ ?_).mono ?_;(first|exact(V.out E).below q.drew|(have ai:=(V.out E).below q.drew;rw[show f-16=N from by have a2:=U.out;omega]at ai;exact ai));omega;rintro e ak ⟨Q,R,rfl,u,T⟩;simp only[s6]at u T;replace u:=kK u;have ah:=q.trans (u.mono q.size);obtain⟨bw,bx,bz,bE,bF⟩:=A.out ak (t.trans (u.mono t.size))))
    all_goals
     have aH:Hid _:=ah;have aX:Hid (Own O.1.size ak Q N R (bm l)):=T;have a0:Hid (w.1.size<=O.1.size):=q.size;clear ah T u;go_wp2;refine p6 (v:= .tuple #[.int .i64 s,.slice Q N R,.nilIface]) (by simp[results,results213,go_sem]) rfl ?_;refine⟨aH.out,kV ⟨aO.out,Q,R,?_,?_⟩⟩
     ·rw[ae.out]
     ·rw[ae.out];exact aX.out.mono a0.out
  ·first
   |(have H:f=M:=(by assumption);refine(nP (some ⟨b,off,none⟩) (256-M) 0 (l.drop (16+N)) _ (ar.out H _ q)).mono ?_)
   |(have H:¬f=M:=(by assumption);refine(nP (some ⟨b,off+M,none⟩) (256-M) (f-M) (l.drop (16+N)) _ (aw.out _ q)).mono ?_)
   rintro e O ⟨rfl,rfl⟩;go_wp2_with fail;refine al o ?_;clear o z;cases J:ja (l.drop (16+N))with
   |false=>
    have j:¬dh k l:=fun D=>by have:=(y.out.1 (K.out.1 D)).2.2.2.2;rw[J]at this;cases this
    have r:Hid _:=j;have I:Hid _:=q;clear j J;refine aa 12 g ?_;refine aa 13 g ?_;refine ax ?_;obtain⟨Y,Z,ab,ac,ad⟩:=g;clear G S t d;go_wp2_with fail
    go_quiet (fail)
    go_wp2;refine p6 (v:= .tuple #[.int .i64 0,.slice none 0 0,errV B]) (by simp[results,results213,go_sem]) rfl ?_;exact⟨sP I.out _,kT ⟨r.out,rfl⟩⟩
   |true=>
    have F:dh k l:=K.out.2 (y.out.2 (by refine⟨?_,P.out,W,X,J⟩;trivial));have aO:Hid _:=F;clear F J;refine aa 12 g ?_;refine aa 13 g ?_;refine ax ?_;obtain⟨Y,Z,ab,ac,ad⟩:=g;have ae:Hid ((bm l).length=N):=(V.out E).len_eq;clear G S d;go_wp2_with fail;go_region_with (first|(go_at_call 238;(try rw[show M-16=N from by have a2:=U.out;omega]);refine(uG _ _ _ (bm l) _ ?_ ?_).mono ?_;(first|exact(V.out E).below q.drew|(have ai:=(V.out E).below q.drew;rw[show f-16=N from by have a2:=U.out;omega]at ai;exact ai));omega;rintro e ak ⟨Q,R,rfl,u,T⟩;simp only[s6]at u T;replace u:=kK u;have ah:=q.trans (u.mono q.size);obtain⟨bw,bx,bz,bE,bF⟩:=A.out ak (t.trans (u.mono t.size))))
    all_goals
     have aH:Hid _:=ah;have aX:Hid (Own O.1.size ak Q N R (bm l)):=T;have a0:Hid (w.1.size<=O.1.size):=q.size;clear ah T u;go_wp2;refine p6 (v:= .tuple #[.int .i64 s,.slice Q N R,.nilIface]) (by simp[results,results213,go_sem]) rfl ?_;refine⟨aH.out,kV ⟨aO.out,Q,R,?_,?_⟩⟩
     ·rw[ae.out]
     ·rw[ae.out];exact aX.out.mono a0.out
def stV(d:DV)(K:DK)(g r u f:Int):List Value:=[.slice d.sa K.n d.sc,.slice d.pa K.m d.pc,.int .i64 g,.int .i64 r,.int .i64 u,.int .i64 f]
def stZ:List Value:=[.slice none 0 0,.slice none 0 0,.int .i64 0,.int .i64 0,.int .i64 0,.int .i64 0]
theorem xn(d K g r a f):∀x∈stV d K g r a f,x.oneCell'=true:=by intro x hx;simp[stV]at hx;rcases hx with rfl|rfl|rfl|rfl|rfl|rfl<;>rfl
theorem mP:(prog.info? 40).map (·.size)=some 6:=kO
theorem xp{B e s:Nat}{w w':World}{v n xs}(h:w.ownsRow B e s v n xs)(a:∀k,B<=k->k<w.1.size->w'.heap[k]?=w.heap[k]?):w'.ownsRow B e s v n xs:=by
 refine⟨h.1,?_⟩;rcases h.2 with h2|⟨g,cap,cur,e1,hB,hh,r⟩
 ·exact kV h2
 ·exact kT ⟨g,cap,cur,e1,hB,(a g hB (k6.1 hh).1).trans hh,r⟩
theorem ORecs.low{p e B w w' a n c I f N g j}(h:ORecs p e B w a n c I f N g j)(b:∀k,B<=k->k<w.1.size->w'.heap[k]?=w.heap[k]?):ORecs p e B w' a n c I f N g j:=
 ⟨xp h.row b,fun i d=>xp (h.data i d) b,h.byte,h.sep1⟩
theorem xq{B B0 g w w' d K}(h:ODisk B w d K)(o:OnlyB g w w')(a:B0<=B)(f:g<B):ODisk B0 w' d K:=by
 have b:∀k,B<=k->k<w.1.size->w'.heap[k]?=w.heap[k]?:=fun k e c=>o.block k c kH;exact⟨(h.safe.low b).mono a,(h.pend.low b).mono a,h.sepX⟩
theorem Gy{B B0 g w d K cells}(h:ODisk B w d K)(a:B0<=B)(f:g<B):ODisk B0 (w.setRow g cells) d K:=by
 have o:=aN w g cells;have b:∀k,B<=k->k<w.1.size->(w.setRow g cells).heap[k]?=w.heap[k]?:=fun k e c=>o.block k c kH;exact⟨(h.safe.low b).mono a,(h.pend.low b).mono a,h.sepX⟩
def cN(N:Nat->Nat):Nat->Nat
 |0=>0
 |k+1=>cN N k+N k
theorem xr(N){i n}(h:i<n):N i<=cN N n:=by
 induction n with
 |zero=>omega
 |succ n ih=>
  simp only[cN];by_cases e:i=n
  ·subst e;omega
  ·have:=ih kH;omega
theorem xt(a)(n c:Nat)(b w)(d:b<=1048576)(h:(n:Int)<=b):
 Calls prog 136 #[.slice a n c,.int .i64 b] w fun e w'=>e= .returned (.int .i64 (b-n))/\w'=w:=by
 have f:¬(b-(n:Int)<0):=kH;go_enter func136,ntmps136;go_wp2;go_ret;exact⟨rfl,rfl⟩
theorem xu(a n c b w)(f:0<=b)(g:b<=1048576)(d:n<=maxLen)(h:b< (n:Int)):
 Calls prog 136 #[.slice a n c,.int .i64 b] w fun e w'=>e= .returned (.int .i64 (-1))/\w'=w:=by
 have i:b-(n:Int)<0:=kH;unfold maxLen at d;go_enter func136,ntmps136;go_wp2;go_ret;exact⟨rfl,rfl⟩
theorem Gz(a n c I s N t E d w)(h:RRecs 0 w a n c I s N t E)(F:0<=d)(G:d<=1048576):
 Calls prog 76 #[.slice a n c,.int .i64 d] w fun e w'=> ∃z:Int,e= .returned (.int .i64 z)/\w'=w/\(z= -1\/(z=d-n-cN N n/\0<=z)):=by
 have q:=k2 h.le h.le';unfold maxLen at q;by_cases u:d< (n:Int)
 ·have v:d-(n:Int)<0:=kH;go_enter func76,ntmps76;go_wp2;go_ret;exact⟨-1,rfl,rfl,kV rfl⟩
 ·have v:¬(d-(n:Int)<0):=kH;have C:decide (d-(n:Int)<0)=false:=by simp;omega
  go_enter func76,ntmps76;go_wp2
  go_loop [1,5] (fun x i=> ∃j:Nat,j<=n/\i= .int .i64 j/\x= .int .i64 (d-n-cN N j)/\0<=d-n-cN N j) (fun _ i=>n-(intOf i).toNat)
  case atStart=>exact⟨0,kX _,rfl,by simp[cN],by simp only[cN];omega⟩
  case round=>
   obtain⟨j,H,rfl,rfl,r⟩:=hrel;by_cases f:j<n
   ·obtain⟨b,off,rfl,B,p⟩:=h.at_ kH;have k0:w.cell? ⟨b,off+j,none⟩=some (.slice (s j) (N j) (t j)):=by have:=(p j f).2;simpa using this
    have y:=k2 (h.data j f).le (h.data j f).le';have l:Hid ((cN N (j+1):Int)=cN N j+N j):=by show((cN N j+N j:Nat):Int)= _;omega
    clear p h;generalize o:d-(n:Int)-(cN N j:Int)=k at*;have m:Hid (d-(n:Int)-(cN N j:Int)=k):=o;have g:k<=1048576:=kH;clear o;by_cases A:(N j:Int)<=k
    ·have J:¬(k-(N j:Int)<0):=kH;have D:decide (k-(N j:Int)<0)=false:=by simp;omega
     go_wp2_with fail;refine(xt (s j) (N j) (t j) k _ g A).mono ?_;rintro e w1 ⟨rfl,rfl⟩;go_wp2
     go_round
     case rel=>exact⟨j+1,kH,by go_num,by rw[l.out];have:=m.out;congr 1;omega,by rw[l.out];have:=m.out;omega⟩
     case measure=>simp[intOf];omega
    ·go_wp2_with fail;refine(xu (s j) (N j) (t j) k _ r g y kH).mono ?_;rintro e w1 ⟨rfl,rfl⟩;go_wp2;go_ret;exact⟨-1,rfl,rfl,kV rfl⟩
   ·have e:j=n:=kH;subst e;go_wp2;go_ret;exact⟨_,rfl,rfl,kT ⟨rfl,r⟩⟩
theorem GA(f a)(n c:Nat)(b w)(d:b<=1048576)(h:(n:Int)<=b):
 Calls prog 137 #[.agg #[.int .i64 f,.slice a n c],.int .i64 b] w fun e w'=>e= .returned (.int .i64 (b-n))/\Below w.1.size w w':=by
 go_enter func137,ntmps137;go_wp2_with fail;refine(xt a n c b _ d h).mono ?_;rintro e w1 ⟨rfl,rfl⟩;go_wp2;go_ret;exact⟨rfl,bAl _ _⟩
theorem GB(i a n c b w)(d:0<=b)(f:b<=1048576)(g:n<=maxLen)(h:b< (n:Int)):
 Calls prog 137 #[.agg #[.int .i64 i,.slice a n c],.int .i64 b] w fun e w'=>e= .returned (.int .i64 (-1))/\Below w.1.size w w':=by
 go_enter func137,ntmps137;go_wp2_with fail;refine(xu a n c b _ d f g h).mono ?_;rintro e w1 ⟨rfl,rfl⟩;go_wp2;go_ret;exact⟨rfl,bAl _ _⟩
theorem GD(a n c I A N B K d w)(h:RRecs 1 w a n c I A N B K)(L:0<=d)(M:d<=1048576):
 Calls prog 77 #[.slice a n c,.int .i64 d] w fun e w'=> ∃z:Int,e= .returned (.int .i64 z)/\Below w.1.size w w'/\(z= -1\/(z=d-n-cN N n/\0<=z)):=by
 have v:=k2 h.le h.le';unfold maxLen at v;by_cases C:d< (n:Int)
 ·have D:d-(n:Int)<0:=kH;go_enter func77,ntmps77;go_wp2;go_ret;exact⟨-1,rfl,kF,kV rfl⟩
 ·have D:¬(d-(n:Int)<0):=kH;have H:decide (d-(n:Int)<0)=false:=by simp;omega
  go_enter func77,ntmps77;go_wp2;go_loopw [1,5] (fun x i wr=> ∃j:Nat,j<=n/\i= .int .i64 j/\x= .int .i64 (d-n-cN N j)/\0<=d-n-cN N j/\Below w.1.size w wr) (fun _ i _=>n-(intOf i).toNat)
  case atStart=>exact⟨0,kX _,rfl,by simp[cN],by simp only[cN];omega,kF⟩
  case round=>
   obtain⟨j,O,rfl,rfl,y,f⟩:=hrel;by_cases g:j<n
   ·obtain⟨b,off,rfl,o,r⟩:=h.at_ kH;have k0:wr.cell? ⟨b,off+j*2,none⟩=some (.int .i64 (I j 0)):=by rw[f.cell (p:=⟨b,off+j*2,none⟩) o];exact(r j g).1 0 kH
    have G:wr.cell? ⟨b,off+j*2+1,none⟩=some (.slice (A j) (N j) (B j)):=by rw[f.cell (p:=⟨b,off+j*2+1,none⟩) o];exact(r j g).2
    have E:=k2 (h.data j g).le (h.data j g).le';have s:Hid ((cN N (j+1):Int)=cN N j+N j):=by show((cN N j+N j:Nat):Int)= _;omega
    clear r h;generalize u:d-(n:Int)-(cN N j:Int)=q at*;have t:Hid (d-(n:Int)-(cN N j:Int)=q):=u;have m:q<=1048576:=kH;clear u;by_cases F:(N j:Int)<=q
    ·have P:¬(q-(N j:Int)<0):=kH;have J:decide (q-(N j:Int)<0)=false:=by simp;omega
     go_wp2_with fail;refine(GA (I j 0) (A j) (N j) (B j) q _ m F).mono ?_;rintro e w1 ⟨rfl,l⟩;have k:=f.trans (l.mono f.size);clear l k0 G;go_wp2;go_roundw
     case rel=>exact⟨j+1,kH,by go_num,by rw[s.out];have:=t.out;congr 1;omega,by rw[s.out];have:=t.out;omega,k⟩
     case measure=>simp[intOf];omega
    ·go_wp2_with fail;refine(GB (I j 0) (A j) (N j) (B j) q _ y m E kH).mono ?_;rintro e w1 ⟨rfl,l⟩;have k:=f.trans (l.mono f.size);go_wp2;go_ret;exact⟨-1,rfl,k,kV rfl⟩
   ·have e:j=n:=kH;subst e;go_wp2;go_ret;exact⟨_,rfl,f,kT ⟨rfl,y⟩⟩
theorem GE(d K a w)(h:RDisk w d K)(r:0<=a)(s:a<=1048576):
 Calls prog 37 #[bC d K,.int .i64 a] w fun e w'=> ∃z:Int,e= .returned (.int .i64 z)/\Below w.1.size w w'/\(z= -1\/(z=a-K.n-cN d.sN K.n-K.m-cN d.pN K.m/\0<=z)):=by
 have f:=(p4 w.1.size w).alloc kE (.cells #[.slice d.sa K.n d.sc,.slice d.pa K.m d.pc] 25);have l:=h.safe.below f;have k:=h.pend.below f;have p:Hid _:=l;have o:Hid _:=k;have g:Hid _:=f;clear l k f h;unfold bC;go_enter func37,ntmps37;go_wp2_with fail;refine(Gz d.sa K.n d.sc zI d.sA d.sN d.sC K.S a _ p.out r s).mono ?_;rintro e w1 ⟨z,rfl,rfl,c⟩;rcases c with rfl|⟨c,hz0⟩
 ·go_wp2;go_ret;exact⟨-1,rfl,g.out,kV rfl⟩
 ·have j:z<=1048576:=kH;have n:Hid (z=a-K.n-cN d.sN K.n):=c;clear c;go_wp2_with fail;refine(GD d.pa K.m d.pc (aI K) d.pA d.pN d.pC K.D z _ o.out hz0 j).mono ?_;rintro e t ⟨y,rfl,q,b⟩;have i:=g.out.trans (q.mono g.out.size);rcases b with rfl|⟨b,hy0⟩
  ·go_wp2;go_ret;exact⟨-1,rfl,i,kV rfl⟩
  ·have m:Hid (y=z-K.m-cN d.pN K.m):=b;clear b;go_wp2;go_ret;exact⟨y,rfl,i,kT ⟨by rw[m.out,n.out],hy0⟩⟩
theorem GG:(prog.info? 211).map (fun i=>(i.zero,i.size,i.bytes))=some (some (.agg #[.int .i64 0,.slice none 0 0]),2,32):=kO
theorem GH(a n c I U N V K w)(h:RRecs 0 w a n c I U N V K)(ae:n<=1048576)(Y:∀i,i<n->N i<=1048576):
 Calls prog 81 #[.slice a n c] w fun e w'=> ∃g f l,e= .returned (.slice (some ⟨g,0,none⟩) n n)/\Below w.1.size w w'/\ORecs 0 70 w.1.size w' (some ⟨g,0,none⟩) n n zI f N l K:=by
 obtain⟨i,d,A,B,C⟩:=sk vf;go_enter func81,ntmps81;go_wp2_with (at_make;refine wpList_make_full _ rfl _ _ 22 rfl w.1.size 70 i _ 1 underlying22 d A B _ _ _ _ n rfl rfl rfl rfl ?b1 ?b2 ?b3 ?_)
 case b1=>rw[C];omega
 case b2=>unfold maxLen;omega
 case b3=>exact kE
 clear d A B C;intro w1 o z;rw[CN]at o;have x:=kF.grown z kE (fun _ e=>by cases e);have T:=CE 70 w.1.size w1 _ n o zI;clear o z;go_wp2;go_loopw [4] (fun i wr=> ∃j f u l L',j<=n/\i= .int .i64 (j:Nat)/\Below w.1.size w wr/\ORecs 0 70 w.1.size wr (some ⟨w.1.size,0,none⟩) n n zI f u l L'/\∀i,i<j->L' i=K i/\u i=N i) (fun i _=>n-(intOf i).toNat)
 case atStart=>exact⟨0,_,_,_,_,kX _,rfl,x,T,fun i d=>absurd d kH⟩
 case round=>
  clear x T;obtain⟨j,f,u,l,L',ad,rfl,t,hr,v⟩:=hrel;by_cases m:j<n
  ·obtain⟨b,off,rfl,O,P⟩:=h.at_ kH;have k0:wr.cell? ⟨b,off+j,none⟩=some (.slice (U j) (N j) (V j)):=by rw[t.cell (p:=⟨b,off+j,none⟩) O];have:=(P j m).2;simpa using this
   have H:=(h.data j m).below t;have M:=Y j m;have ab:(0:Int)<=(j:Int):=kH;have ac:(j:Int)< (n:Int):=kH;have Z:=(qX hr.row w.1.size rfl).2;clear P h;go_wp2_with fail;refine(lF (U j) (N j) (V j) (K j) _ H M).mono ?_;rintro e J ⟨g2,rfl,s,S⟩;have D:Own wr.1.size J (some ⟨g2,0,none⟩) (N j) (N j) (K j):=S;have F:=hr.below s;have af:J.cell? ⟨w.1.size,j,none⟩=some (.slice (f j) (u j) (l j)):=by have:=F.cellData j m;simpa using this
   have f1:J.frozen? ⟨w.1.size,j,none⟩=false:=sx F.row _;obtain⟨G,_⟩:=hr.setSlice kN s j m (some ⟨g2,0,none⟩) (N j) (N j) (K j) D H.byte (Nat.le_of_lt Z);rw[show j*(0+1)+0=j by simp]at G;have y:=(t.trans (s.mono t.size)).setCell (p:=⟨w.1.size,j,none⟩) kE (.slice (some ⟨g2,0,none⟩) (N j) (N j));have r:Hid _:=G;have W:Hid _:=y;clear G y F hr t s S D H k0;go_wp2;go_roundw
   case rel=>
    refine⟨j+1,_,_,_,_,kH,by go_num,W.out,r.out,fun i d=> ?_⟩;by_cases e:i=j
    ·subst e;rw[fp,fp];exact⟨rfl,rfl⟩
    ·rw[eI _ _ _ e,eI _ _ _ e];exact v i kH
   case measure=>simp[intOf];omega
  ·have e:j=n:=kH;subst e;have r:Hid _:=hr;clear hr;go_wp2;go_ret;refine⟨w.1.size,f,l,rfl,t,?_⟩;have E:∀i,i<j->Value.slice (f i) (u i) (l i)= .slice (f i) (N i) (l i):=fun i d=>by rw[(v i d).2]
   refine⟨?_,fun i d=> ?_,fun i d=> ?_,fun i R X L k Q=> ?_⟩
   ·rw[<-lC 0 j (fun i d=>⟨fun q _=>rfl,E i d⟩)];exact r.out.row
   ·rw[<-(v i d).2,<-(v i d).1];exact r.out.data i d
   ·rw[<-(v i d).1];exact r.out.byte i d
   ·rw[<-E i kH]at Q;rw[<-E R L];exact r.out.sep1 i R X L k Q
theorem GI(i a n c l w)(h:Bs w a n c l)(s:n<=1048576):
 Calls prog 147 #[.agg #[.int .i64 i,.slice a n c]] w fun e w'=> ∃g,e= .returned (.agg #[.int .i64 i,.slice (some ⟨g,0,none⟩) n n])/\Below w.1.size w w'/\Own w.1.size w' (some ⟨g,0,none⟩) n n l:=by
 have q:=fun d u x=>(((p4 w.1.size w).alloc kE d).alloc kP u).alloc (by simp;omega) x;have m:Hid _:=q;clear q;go_enter func147,ntmps147;go_wp2_with fail;refine(lF a n c l _ (h.below (m.out _ _ _)) s).mono ?_;rintro e w1 ⟨g1,rfl,b,d⟩;have f:Own _ w1 (some ⟨g1,0,none⟩) n n l:=d;have A:=b.size;simp only[World.size_alloc]at A;have k0:w1.cell? ⟨w.1.size+1,0,none⟩=some (.int .i64 0):=by rw[b.cell (p:=⟨w.1.size+1,0,none⟩) kP];go_simp
 have t:w1.cell? ⟨w.1.size+1,1,none⟩=some (.slice none 0 0):=by rw[b.cell (p:=⟨w.1.size+1,1,none⟩) kP];go_simp
 have E:w1.cell? ⟨w.1.size+1+1,0,none⟩=some (.int .i64 i):=by rw[b.cell (p:=⟨w.1.size+1+1,0,none⟩) kP];go_simp
 have F:w1.cell? ⟨w.1.size+1+1,1,none⟩=some (.slice none 0 0):=by rw[b.cell (p:=⟨w.1.size+1+1,1,none⟩) kP];go_simp
 have B:w1.frozen? ⟨w.1.size+1,0,none⟩=false:=by rw[b.frozen (p:=⟨w.1.size+1,0,none⟩) kP];go_simp
 have f1:w1.frozen? ⟨w.1.size+1,1,none⟩=false:=by rw[b.frozen (p:=⟨w.1.size+1,1,none⟩) kP];go_simp
 have C:w1.frozen? ⟨w.1.size+1+1,0,none⟩=false:=by rw[b.frozen (p:=⟨w.1.size+1+1,0,none⟩) kP];go_simp
 have D:w1.frozen? ⟨w.1.size+1+1,1,none⟩=false:=by rw[b.frozen (p:=⟨w.1.size+1+1,1,none⟩) kP];go_simp
 have o:=(m.out _ _ _).trans (b.mono (m.out _ _ _).size);have k:Hid (Own (w.1.size+1+1+1) w1 (some ⟨g1,0,none⟩) n n l):=by have j:=f;simp only[World.size_alloc]at j;exact j
 clear b d f h;go_wp2;have y:=ownsRow_setCell_below (a:=⟨w.1.size+1+1,1,none⟩) k.out (n4 _) (.slice (some ⟨g1,0,none⟩) n n);have z:=ownsRow_setCell_below (a:=⟨w.1.size+1,0,none⟩) y (by show w.1.size+1<_;omega) (.int .i64 i);have s3:=ownsRow_setCell_below (a:=⟨w.1.size+1,1,none⟩) z (by show w.1.size+1<_;omega) (.slice (some ⟨g1,0,none⟩) n n);have r:=((o.setCell (p:=⟨w.1.size+1+1,1,none⟩) (by show w.1.size<=_;simp;omega) (.slice (some ⟨g1,0,none⟩) n n)).setCell (p:=⟨w.1.size+1,0,none⟩) (by show w.1.size<=_;simp) (.int .i64 i)).setCell (p:=⟨w.1.size+1,1,none⟩) (by show w.1.size<=_;simp) (.slice (some ⟨g1,0,none⟩) n n);refine p6 (v:= .agg #[.int .i64 i,.slice (some ⟨g1,0,none⟩) n n]) (by simp[results,results147,go_sem,k0,t]) rfl ⟨g1,rfl,r,?_⟩;exact Own.mono s3 kH
theorem GJ(a n c I Z N ab G w)(h:RRecs 1 w a n c I Z N ab G)(an:n<=1048576)(af:∀i,i<n->N i<=1048576):
 Calls prog 82 #[.slice a n c] w fun e w'=> ∃g l m,e= .returned (.slice (some ⟨g,0,none⟩) n n)/\Below w.1.size w w'/\ORecs 1 211 w.1.size w' (some ⟨g,0,none⟩) n n I l N m G:=by
 obtain⟨i,d,D,E,F⟩:=sk GG;go_enter func82,ntmps82;go_wp2_with (at_make;refine wpList_make_full _ rfl _ _ 35 rfl w.1.size 211 i _ 2 underlying35 d D E _ _ _ _ n rfl rfl rfl rfl ?b1 ?b2 ?b3 ?_)
 case b1=>rw[F];omega
 case b2=>unfold maxLen;omega
 case b3=>exact kE
 clear d D E F;intro w1 z C;have y:=kF.grown C kE (fun _ e=>by cases e);have W:=CI 211 w.1.size w1 _ n z;clear z C;go_wp2;go_loopw [4] (fun i wr=> ∃j I' l o m L',j<=n/\i= .int .i64 (j:Nat)/\Below w.1.size w wr/\ORecs 1 211 w.1.size wr (some ⟨w.1.size,0,none⟩) n n I' l o m L'/\∀i,i<j->I' i 0=I i 0/\L' i=G i/\o i=N i) (fun i _=>n-(intOf i).toNat)
 case atStart=>exact⟨0,_,_,_,_,_,kX _,rfl,y,W,fun i d=>absurd d kH⟩
 case round=>
  clear y W;obtain⟨j,I',l,o,m,L',am,rfl,r,hr,t⟩:=hrel;by_cases f:j<n
  ·obtain⟨b,off,rfl,B,J⟩:=h.at_ kH;have k0:wr.cell? ⟨b,off+j*2,none⟩=some (.int .i64 (I j 0)):=by rw[r.cell (p:=⟨b,off+j*2,none⟩) B];exact(J j f).1 0 kH
   have ag:wr.cell? ⟨b,off+j*2+1,none⟩=some (.slice (Z j) (N j) (ab j)):=by rw[r.cell (p:=⟨b,off+j*2+1,none⟩) B];exact(J j f).2
   have L:=(h.data j f).below r;have P:=af j f;have ah:(0:Int)<=(j:Int):=kH;have ai:(j:Int)< (n:Int):=kH;have S:=(qX hr.row w.1.size rfl).2;clear J h;go_wp2_with fail;refine(GI (I j 0) (Z j) (N j) (ab j) (G j) _ L P).mono ?_;rintro e v ⟨g2,rfl,x,K⟩;have u:=hr.below x;have ar:v.cell? ⟨w.1.size,j*2,none⟩=some (.int .i64 (I' j 0)):=u.cellInt j 0 f kH;have aw:v.cell? ⟨w.1.size,j*2+1,none⟩=some (.slice (l j) (o j) (m j)):=u.cellData j f;have f1:v.frozen? ⟨w.1.size,j*2,none⟩=false:=sx u.row _;have ak:v.frozen? ⟨w.1.size,j*2+1,none⟩=false:=sx u.row _;obtain⟨X,ad⟩:=u.setInt kN j 0 f kH (I j 0);have U:Own wr.1.size (v.setCell ⟨w.1.size,j*2,none⟩ (.int .i64 (I j 0))) (some ⟨g2,0,none⟩) (N j) (N j) (G j):=ownsRow_setCell_below K S _;obtain⟨Y,_⟩:=X.putSlice kN j f (some ⟨g2,0,none⟩) (N j) (N j) (G j) (Own.mono U (Nat.le_of_lt S)) L.byte (fun i d k A Q=>by
    have aH:=(qX K k Q).1;have aO:=(qX (hr.data i d) k A).2;omega)
   have M:=((r.trans (x.mono r.size)).setCell (p:=⟨w.1.size,j*2,none⟩) kE (.int .i64 (I j 0))).setCell (p:=⟨w.1.size,j*2+1,none⟩) kE (.slice (some ⟨g2,0,none⟩) (N j) (N j));have s:Hid (ORecs 1 211 w.1.size ((v.setCell ⟨w.1.size,j*2,none⟩ (.int .i64 (I j 0))).setCell ⟨w.1.size,j*2+1,none⟩ (.slice (some ⟨g2,0,none⟩) (N j) (N j))) (some ⟨w.1.size,0,none⟩) n n (gX I' j 0 (I j 0)) (upd l j (some ⟨g2,0,none⟩)) (upd o j (N j)) (upd m j (N j)) (upd L' j (G j))):=Y;have ac:Hid _:=M;clear X Y ad M u hr r x K U L k0 ag;go_wp2;go_roundw
   case rel=>
    refine⟨j+1,_,_,_,_,_,kH,by go_num,ac.out,s.out,fun i d=> ?_⟩;by_cases e:i=j
    ·subst e;rw[fp,fp];exact⟨by simp[gX],rfl,rfl⟩
    ·rw[eI _ _ _ e,eI _ _ _ e];have:=t i kH;exact⟨by simp[gX,e,this.1],this.2⟩
   case measure=>simp[intOf];omega
  ·have e:j=n:=kH;subst e;have s:Hid _:=hr;clear hr;go_wp2;go_ret;refine⟨w.1.size,l,m,rfl,r,?_⟩;have H:∀i,i<j->Value.slice (l i) (o i) (m i)= .slice (l i) (N i) (m i):=fun i d=>by rw[(t i d).2.2]
   refine⟨?_,fun i d=> ?_,fun i d=> ?_,fun i T ae O k A=> ?_⟩
   ·rw[<-lC 1 j (I:=I') (V:=fun i=> .slice (l i) (o i) (m i)) (fun i d=>⟨fun q ap=>by have R:q=0:=kH;subst R;exact(t i d).1,H i d⟩)];exact s.out.row
   ·rw[<-(t i d).2.2,<-(t i d).2.1];exact s.out.data i d
   ·rw[<-(t i d).2.1];exact s.out.byte i d
   ·rw[<-H i kH]at A;rw[<-H T O];exact s.out.sep1 i T ae O k A
theorem ORecs.setLow{p e B w a n c I g N j k}(h:ORecs p e B w a n c I g N j k){q}(b:q.block<B)(f):ORecs p e B (w.setCell q f) a n c I g N j k:=
 ⟨ownsRow_setCell_below h.row b f,fun i d=>ownsRow_setCell_below (h.data i d) b f,h.byte,h.sep1⟩
theorem GK(d K w)(h:RDisk w d K)(W:K.n<=1048576)(V:K.m<=1048576)(D:∀i,i<K.n->d.sN i<=1048576)(C:∀i,i<K.m->d.pN i<=1048576):
 Calls prog 40 #[bC d K] w fun e w'=> ∃m,e= .returned (bC m K)/\Below w.1.size w w'/\ODisk w.1.size w' m K/\m.sN=d.sN/\m.pN=d.pN:=by
 have q:=fun ad ae af=>(((p4 w.1.size w).alloc kE ad).alloc kP ae).alloc (by simp;omega) af;have M:Hid _:=q;have L:Hid _:=D;have J:Hid _:=C;clear q D C;unfold bC;go_enter func40,ntmps40;go_wp2_with fail;refine(GH d.sa K.n d.sc zI d.sA d.sN d.sC K.S _ (h.safe.below (M.out _ _ _)) W L.out).mono ?_;rintro e w1 ⟨g1,o,s,rfl,a,F⟩;have ak:=a.size;simp only[World.size_alloc]at ak;have ac:w1.cell? ⟨w.1.size,1,none⟩=some (.slice d.pa K.m d.pc):=by rw[a.cell (p:=⟨w.1.size,1,none⟩) (by simp;omega)];go_simp
 have k0:w1.cell? ⟨w.1.size+1,0,none⟩=some (.slice none 0 0):=by rw[a.cell (p:=⟨w.1.size+1,0,none⟩) kP];go_simp
 have X:w1.cell? ⟨w.1.size+1,1,none⟩=some (.slice none 0 0):=by rw[a.cell (p:=⟨w.1.size+1,1,none⟩) kP];go_simp
 have Y:w1.cell? ⟨w.1.size+1+1,0,none⟩=some (.slice none 0 0):=by rw[a.cell (p:=⟨w.1.size+1+1,0,none⟩) kP];go_simp
 have Z:w1.cell? ⟨w.1.size+1+1,1,none⟩=some (.slice none 0 0):=by rw[a.cell (p:=⟨w.1.size+1+1,1,none⟩) kP];go_simp
 have P:w1.frozen? ⟨w.1.size+1,0,none⟩=false:=by rw[a.frozen (p:=⟨w.1.size+1,0,none⟩) kP];go_simp
 have f1:w1.frozen? ⟨w.1.size+1,1,none⟩=false:=by rw[a.frozen (p:=⟨w.1.size+1,1,none⟩) kP];go_simp
 have Q:w1.frozen? ⟨w.1.size+1+1,0,none⟩=false:=by rw[a.frozen (p:=⟨w.1.size+1+1,0,none⟩) kP];go_simp
 have R:w1.frozen? ⟨w.1.size+1+1,1,none⟩=false:=by rw[a.frozen (p:=⟨w.1.size+1+1,1,none⟩) kP];go_simp
 have A:=(M.out _ _ _).trans (a.mono (M.out _ _ _).size);have y:Hid (ORecs 0 70 (w.1.size+1+1+1) w1 (some ⟨g1,0,none⟩) K.n K.n zI o d.sN s K.S):=by have g:=F;simp only[World.size_alloc]at g;exact g
 have f:=A.setCell (p:=⟨w.1.size+1+1,0,none⟩) (by show w.1.size<=_;simp;omega) (.slice (some ⟨g1,0,none⟩) K.n K.n);have n:=h.pend.below f;have x:Hid _:=n;have u:Hid _:=f;clear a F h n f A;go_wp2_with fail;refine(GJ d.pa K.m d.pc (aI K) d.pA d.pN d.pC K.D _ x.out V J.out).mono ?_;rintro e c ⟨g2,r,t,rfl,b,G⟩;have l:w.1.size+1+1< (w1.setCell ⟨w.1.size+1+1,0,none⟩ (.slice (some ⟨g1,0,none⟩) K.n K.n)).1.size:=by simp;omega
 have l0:c.cell? ⟨w.1.size+1,0,none⟩=some (.slice none 0 0):=by rw[b.cell (p:=⟨w.1.size+1,0,none⟩) (by show w.1.size+1<_;omega)];go_simp
 have ab:c.cell? ⟨w.1.size+1,1,none⟩=some (.slice none 0 0):=by rw[b.cell (p:=⟨w.1.size+1,1,none⟩) (by show w.1.size+1<_;omega)];go_simp
 have ap:c.cell? ⟨w.1.size+1+1,0,none⟩=some (.slice (some ⟨g1,0,none⟩) K.n K.n):=by rw[b.cell (p:=⟨w.1.size+1+1,0,none⟩) l];go_simp
 have ar:c.cell? ⟨w.1.size+1+1,1,none⟩=some (.slice none 0 0):=by rw[b.cell (p:=⟨w.1.size+1+1,1,none⟩) l];go_simp
 have e0:c.frozen? ⟨w.1.size+1,0,none⟩=false:=by rw[b.frozen (p:=⟨w.1.size+1,0,none⟩) (by show w.1.size+1<_;omega)];go_simp
 have am:c.frozen? ⟨w.1.size+1,1,none⟩=false:=by rw[b.frozen (p:=⟨w.1.size+1,1,none⟩) (by show w.1.size+1<_;omega)];go_simp
 have an:c.frozen? ⟨w.1.size+1+1,1,none⟩=false:=by rw[b.frozen (p:=⟨w.1.size+1+1,1,none⟩) l];go_simp
 have H:=(y.out.setLow (q:=⟨w.1.size+1+1,0,none⟩) (n4 _) (.slice (some ⟨g1,0,none⟩) K.n K.n)).below b;have B:=u.out.trans (b.mono u.out.size);have sz:(w1.setCell ⟨w.1.size+1+1,0,none⟩ (.slice (some ⟨g1,0,none⟩) K.n K.n)).1.size=w1.1.size:=World.size_setCell _ _ _;have z:Hid (ORecs 1 211 w1.1.size c (some ⟨g2,0,none⟩) K.m K.m (aI K) r d.pN t K.D):=by have g:=G;rw[sz]at g;exact g
 have O:Hid (∀i j,i<K.n->j<K.m->∀k,(Value.slice (o i) (d.sN i) (s i)).ownBlock=some k->(Value.slice (r j) (d.pN j) (t j)).ownBlock≠some k):=fun i j S T k U E=>by
  have aw:=(qX (y.out.data i S) k U).2;have aH:=(qX (z.out.data j T) k E).1;omega
 have N:Hid _:=H;have I:Hid _:=B;have aO:w1.1.size<=c.1.size:=by have:=b.size;omega
 clear b G H B sz l ac k0 X Y Z P f1 Q R;go_wp2;have ag:=((N.out.setLow (q:=⟨w.1.size+1+1,1,none⟩) (n4 _) (.slice (some ⟨g2,0,none⟩) K.m K.m)).setLow (q:=⟨w.1.size+1,0,none⟩) (by show w.1.size+1<_;omega) (.slice (some ⟨g1,0,none⟩) K.n K.n)).setLow (q:=⟨w.1.size+1,1,none⟩) (by show w.1.size+1<_;omega) (.slice (some ⟨g2,0,none⟩) K.m K.m);have ah:=((z.out.setLow (q:=⟨w.1.size+1+1,1,none⟩) (by show w.1.size+1+1<_;omega) (.slice (some ⟨g2,0,none⟩) K.m K.m)).setLow (q:=⟨w.1.size+1,0,none⟩) (by show w.1.size+1<_;omega) (.slice (some ⟨g1,0,none⟩) K.n K.n)).setLow (q:=⟨w.1.size+1,1,none⟩) (by show w.1.size+1<_;omega) (.slice (some ⟨g2,0,none⟩) K.m K.m);have ai:=((I.out.setCell (p:=⟨w.1.size+1+1,1,none⟩) (by show w.1.size<=_;simp;omega) (.slice (some ⟨g2,0,none⟩) K.m K.m)).setCell (p:=⟨w.1.size+1,0,none⟩) (by show w.1.size<=_;simp) (.slice (some ⟨g1,0,none⟩) K.n K.n)).setCell (p:=⟨w.1.size+1,1,none⟩) (by show w.1.size<=_;simp) (.slice (some ⟨g2,0,none⟩) K.m K.m);refine p6 (v:= .agg #[.slice (some ⟨g1,0,none⟩) K.n K.n,.slice (some ⟨g2,0,none⟩) K.m K.m]) (by simp[results,results40,go_sem,l0,ab]) rfl ⟨⟨some ⟨g1,0,none⟩,K.n,o,d.sN,s,some ⟨g2,0,none⟩,K.m,r,d.pN,t⟩,rfl,ai,⟨ag.mono kH,ah.mono kH,O.out⟩,rfl,rfl⟩
theorem GL(g r b f w):
 Calls prog 45 #[.agg #[.int .i64 g,.int .i64 r,.int .i64 b,.int .i64 f],.agg #[.int .i64 g,.int .i64 r,.int .i64 b,.int .i64 f]] w fun e w'=>e= .returned (.bool true)/\Below w.1.size w w':=by
 have a:Hid _:=eT w (.cells #[.int .i64 g,.int .i64 r,.int .i64 b,.int .i64 f] 38) (.cells #[.int .i64 g,.int .i64 r,.int .i64 b,.int .i64 f] 38);go_enter func45,ntmps45;go_wp2;go_ret;exact⟨rfl,a.out⟩
theorem GM{w:World}{B e size:Nat}{v n xs}(h:w.ownsRow B e size v n xs){k}(a:v.ownBlock=some k):B<=k/\k<w.1.size:=by
 rcases h.2 with⟨rfl,_⟩|⟨g,f,c,rfl,b,d,_⟩
 ·simp[Value.ownBlock]at a
 ·simp[Value.ownBlock]at a;subst a;exact⟨b,(k6.1 d).1⟩
theorem si(p N k):∀j,mk p N k j=k+p*j+cN N j
 |0=>by simp[mk,cN]
 |j+1=>by
  have:=si p N k j;have e:(p:Int)*((j+1:Nat):Int)=p*j+p:=by rw[Int.natCast_add,Int.mul_add];simp
  simp only[mk,cN];rw[this,e];simp;omega
theorem GN{d K}{z:Int}(c:z=1048576-K.n-cN d.sN K.n-K.m-cN d.pN K.m)(b:0<=z):Small d K:=by
 refine⟨kH,kH,fun i a=>by have:=xr d.sN a;omega,fun i a=>by have:=xr d.pN a;omega,?_⟩;show mk 1 d.pN (mk 0 d.sN 1 K.n) K.m<=_;rw[si,si];simp;omega
theorem Small.congr{d g K}(h:Small d K)(i:g.sN=d.sN)(j:g.pN=d.pN):Small g K:=by
 obtain⟨a,b,c,e,f⟩:=h;unfold dmk at f;exact⟨a,b,by rw[i];exact c,by rw[j];exact e,by unfold dmk;rw[i,j];exact f⟩
theorem GO(d a K g r p f w)(h:RDisk w d K)(h':RDisk w a K):
 Calls prog 13 #[.agg (stV d K g r p f).toArray,.agg (stV a K g r p f).toArray] w fun e w'=>e= .returned (.bool true)/\Below w.1.size w w':=by
 obtain⟨k,c⟩:∃D,D=w.alloc (.cells (stV d K g r p f).toArray 40):=⟨_,rfl⟩;obtain⟨l,m⟩:∃D,D=k.alloc (.cells (stV a K g r p f).toArray 40):=⟨_,rfl⟩;have x:Below w.1.size w k:=by rw[c];exact bAl _ _
 have y:Below k.1.size k l:=by rw[m];exact bAl _ _
 have C:k.1.size=w.1.size+1:=by rw[c];simp
 have s:=(by rw[c];exact ao w _ _:Blk k 40 w.1.size (stV d K g r p f)).below y;have t:Blk l 40 (w.1.size+1) (stV a K g r p f):=by rw[m,<-C];exact ao k _ _
 have n:=x.trans (y.mono x.size);have u:=CJ d a K l (h.below n) (h'.below n);have q:=kG s (kR t n);have E:l.cell? ⟨w.1.size,0,none⟩=some (.slice d.sa K.n d.sc):=s.cell 0;have F:l.cell? ⟨w.1.size,1,none⟩=some (.slice d.pa K.m d.pc):=s.cell 1;have L:l.cell? ⟨w.1.size+1,0,none⟩=some (.slice a.sa K.n a.sc):=t.cell 0;have M:l.cell? ⟨w.1.size+1,1,none⟩=some (.slice a.pa K.m a.pc):=t.cell 1;unfold bC at u;clear x y C n s t h h';go_enter func13,ntmps13;go_upto_region 1 with fail
 change Code.wp _ _ _ _ ((w.alloc (.cells (stV d K g r p f).toArray 40)).alloc (.cells (stV a K g r p f).toArray 40));rw[<-c,<-m];clear c m;go_wp2_with fail;refine u.mono ?_;rintro e b ⟨rfl,o⟩;have i:=q.out.1.below o;have j:=q.out.2.1.below o;have v:=q.out.2.2.trans (o.mono q.out.2.2.size);clear E F L M u o;have G:b.cell? ⟨w.1.size,2,none⟩=some (.int .i64 g):=i.cell 2;have H:b.cell? ⟨w.1.size,3,none⟩=some (.int .i64 r):=i.cell 3;have I:b.cell? ⟨w.1.size,4,none⟩=some (.int .i64 p):=i.cell 4;have J:b.cell? ⟨w.1.size,5,none⟩=some (.int .i64 f):=i.cell 5;have N:b.cell? ⟨w.1.size+1,2,none⟩=some (.int .i64 g):=j.cell 2;have o:b.cell? ⟨w.1.size+1,3,none⟩=some (.int .i64 r):=j.cell 3;have O:b.cell? ⟨w.1.size+1,4,none⟩=some (.int .i64 p):=j.cell 4;have P:b.cell? ⟨w.1.size+1,5,none⟩=some (.int .i64 f):=j.cell 5;have z:=GL g r p f b;clear i j;go_wp2_with fail;refine z.mono ?_;rintro e Q ⟨rfl,B⟩;have A:Hid _:=v.trans (B.mono v.size);clear B v z G H I J N o O P;go_wp2_with fail;go_ret;exact⟨rfl,A.out⟩
theorem GP{w:World}{B e size:Nat}{v n xs}(h:w.ownsRow B e size v n xs){g f d fr}(j:w.heap[g]?=some (.cells d f fr))(i:e≠f):v.ownBlock≠some g:=by
 intro b;rcases h.2 with⟨rfl,_⟩|⟨l,k,c,rfl,_,a,_⟩
 ·simp[Value.ownBlock]at b
 ·simp[Value.ownBlock]at b;subst b;rw[j]at a;simp at a;exact i a.2.1.symm
theorem sq{w:World}{B e size:Nat}{v n xs}(h:w.ownsRow B e size v n xs){g b a fr}(f:w.heap[g]?=some (.cells a b fr))(d:e≠b){k}(i:v.ownBlock=some k):g≠k:=
 fun c=>GP h f d (by rw[i,c])
theorem Turned.box{w w' B d K}(n:Turned (j8 d K) w w')(c:ODisk B w d K){g a:Nat}{b fr}(hx:w.heap[g]?=some (.cells b a fr))(h:211≠a)(f:5≠a):w'.heap[g]?=some (.cells b a fr):=by
 rw[n.block g (fun m=> ?_)]
 ·exact hx
 ·rcases m with⟨i,k,e⟩|e|⟨j,l,e⟩
  ·exact sq (c.safe.data i k) hx f e rfl
  ·exact sq c.pend.row hx h e rfl
  ·exact sq (c.pend.data j l) hx f e rfl
theorem GQ(B d K g r I f w)(h:ODisk B w d K)(S:Small d K)(O:B<=w.1.size):
 Calls prog 22 #[.agg (stV d K g r I f).toArray,.int .i64 1] w fun e w'=>e= .returned (.int .i64 (dmk d K 1))/\Below B w w'/\Marked B w' d K 1/\(∀(q b:Nat)(i:Array Value)(fr:Nat×Nat),w.heap[q]?=some (.cells i b fr)->211≠b->5≠b->w'.heap[q]?=some (.cells i b fr))/\∀(j:Nat)(a:Option Addr)(n c:Nat)(l:List Int),(∀k,j8 d K k->k<j)->Own j w a n c l->Own j w' a n c l:=by
 obtain⟨o,m⟩:∃T,T=w.alloc (.cells (stV d K g r I f).toArray 40):=⟨_,rfl⟩;have s:Below w.1.size w o:=by rw[m];exact bAl _ _
 have x:Blk o 40 w.1.size (stV d K g r I f):=by rw[m];exact ao w _ _
 have u:=CL B d K o (h.below s) S (by have:=s.size;omega);have J:o.cell? ⟨w.1.size,0,none⟩=some (.slice d.sa K.n d.sc):=x.cell 0;have L:o.cell? ⟨w.1.size,1,none⟩=some (.slice d.pa K.m d.pc):=x.cell 1;have p:=kG s (h.below s);unfold bC at u;generalize dmk d K 1=M at u ⊢;clear x s h;go_enter func22,ntmps22;go_upto_region 1 with fail
 change Code.wp _ _ _ _ (w.alloc (.cells (stV d K g r I f).toArray 40));rw[<-m];clear m;go_wp2_with fail;refine u.mono ?_;rintro e v ⟨rfl,A,y,H⟩;have t:=bAl o (.cells #[.slice d.sa K.n d.sc,.slice d.pa K.m d.pc] 37);have z:Hid (Below B w v/\Marked B v d K 1/\(∀(q b:Nat)(i:Array Value)(fr:Nat×Nat),w.heap[q]?=some (.cells i b fr)->211≠b->5≠b->v.heap[q]?=some (.cells i b fr))/\∀(j:Nat)(a:Option Addr)(n c:Nat)(l:List Int),(∀k,j8 d K k->k<j)->Own j w a n c l->Own j v a n c l):=by
  refine⟨(p.out.1.mono O).trans A,H,fun q b i fr G D N=> ?_,fun j a n c l P F=> ?_⟩
  rotate_left
  ·exact y.row (Own.below (Own.below F p.out.1) t) (fun k Q E=>by have U:=(GM (Own.below (Own.below F p.out.1) t) Q).1;have D:=P k E;omega)
  have R:=(k6.1 G).1;have C:=(p.out.1.block q R).trans G;exact y.box (p.out.2.below t) ((t.block q (k6.1 C).1).trans C) D N
 clear u A y H t J L;go_wp2_with fail;go_ret;exact⟨rfl,z.out⟩
theorem GR(c root b a w):
 Calls prog 41 #[.agg #[.int .i64 c,.int .i64 root,.int .i64 b,.int .i64 a]] w fun e w'=>e= .returned (.agg #[.int .i64 c,.int .i64 root,.int .i64 b,.int .i64 a])/\Below w.1.size w w':=by
 have q:=fun d f g=>(((p4 w.1.size w).alloc kE d).alloc kP f).alloc (by simp;omega) g;have h:Hid _:=q;clear q;go_enter func41,ntmps41;go_wp2;refine p6 (v:= .agg #[.int .i64 c,.int .i64 root,.int .i64 b,.int .i64 a]) (by simp[results,results41,go_sem]) rfl ⟨rfl,?_⟩;exact h.out _ _ _
theorem GS:prog.cellsOf 25=2:=kO
theorem GT:prog.cellsOf 195=2:=kO
theorem GU{d:Type}{l:List d}(h:l.length=2):∃a b,l=[a,b]:=by
 cases l with
 |nil=>simp at h
 |cons a l=>
  cases l with
  |nil=>simp at h
  |cons b l=>
   cases l with
   |nil=>exact⟨a,b,rfl⟩
   |cons c l=>simp at h
section
variable {H:Type} {enc:TypeId×Value->H} {W:World}
theorem su{e v x}(h:DataW.trod enc prog W 0 (fun _=>true) true e 70 [v]=some x):∃y:Option Addr×Nat×Nat×List Int,v= .slice y.1 y.2.1 y.2.2.1/\Bs W y.1 y.2.1 y.2.2.1 y.2.2.2:=by
 rcases open_ints rC sM uk h with⟨b,_⟩|⟨a,l,c,k,b,_,g,i,j,_,d,f⟩
 ·simp at b;subst b;exact⟨(none,0,0,[]),rfl,⟨rfl,kE,kX _,fun _=>rfl,fun h=>absurd h (oP 0),ir⟩⟩
 ·simp at b;subst b;exact⟨(some a,l,c,k.take l),rfl,BO (kT ⟨a,rfl,g,i,by simpa using j,d,f⟩)⟩
theorem xv{a:Addr}{v}(h:W.cell? (a.add 0)=some v):∃b off,a=⟨b,off,none⟩/\b<W.1.size:=by
 obtain⟨b,off,d⟩:=a;have c:d=none:=by simpa [Addr.add]using World.cell?_spot h
 subst c;exact⟨b,off,rfl,sd W _ h⟩
theorem GV{j v x}(h:DataW.trod enc prog W 0 (fun _=>true) true j 22 [v]=some x):
 ∃a n c z N A B,v= .slice a n c/\RRecs 0 W a n c zI z N A B:=by
 rcases open_slice1 underlying22 BK h with⟨d,_⟩|⟨a,l,c,m,k,V,E,C,d,_,t,u,g,_,hx⟩
 ·simp at d;subst d;exact⟨none,0,0,fun _=>none,fun _=>0,fun _=>0,fun _=>[],rfl,⟨kE,kX _,fun _=>rfl,fun h=>absurd h kH,fun i f=>absurd f kH⟩⟩
 ·simp at d g;subst d;subst g;obtain⟨r,o⟩:=choose_lt (n:=m) (p:=fun i(y:Option Addr×Nat×Nat×List Int)=>V i= .slice y.1 y.2.1 y.2.2.1/\Bs W y.1 y.2.1 y.2.2.1 y.2.2.2) (fun i f=>su (hx i f).2);refine⟨some a,l,m,fun i=>(r i).1,fun i=>(r i).2.1,fun i=>(r i).2.2.1,fun i=>(r i).2.2.2,rfl,⟨t,u,fun e=>(by cases e),fun D=> ?_,fun i f=>(o i kH).2⟩⟩;obtain⟨b,off,rfl,s⟩:=xv (hx 0 kH).1;refine⟨b,off,rfl,s,fun i f=>⟨fun q w=>absurd w kH,?_⟩⟩;have:=(hx i kH).1;rw[sj,(o i kH).1]at this;simpa using this
theorem GW{a cs x}(k:cs.length=2)(h:DataW.trod enc prog W 0 (fun _=>true) true a 195 cs=some x):
 ∃y:Int×Option Addr×Nat×Nat×List Int,cs=[.int .i64 y.1,.slice y.2.1 y.2.2.1 y.2.2.2.1]/\Bs W y.2.1 y.2.2.1 y.2.2.2.1 y.2.2.2.2:=by
 obtain⟨l,m,n,_,_,g,i⟩:=trod_struct2 underlying195 h;obtain⟨d,e,rfl⟩:=GU k;have b:DataW.trod enc prog W 0 (fun _=>true) true n 3 [d]=some l:=g;have c:DataW.trod enc prog W 0 (fun _=>true) true n 70 [e]=some m:=i;obtain⟨o,e0,_,_⟩:=DataW.trod_int r7 b;obtain⟨y,f,j⟩:=su c;simp at e0;subst e0 f;exact⟨(o,y),rfl,j⟩
theorem GX{r v x}(h:DataW.trod enc prog W 0 (fun _=>true) true r 23 [v]=some x):
 ∃(a:Option Addr)(n c:Nat)(I:Nat->Int)(E:Nat->Option Addr)(N F:Nat->Nat)(G:Nat->List Int),v= .slice a n c/\RRecs 1 W a n c (fun i _=>I i) E N F G:=by
 rcases open_slice underlying23 h with⟨d,_⟩|⟨a,l,c,m,k,L,H,d,_,B,C,o,_,hx⟩
 ·simp at d;subst d;exact⟨none,0,0,fun _=>0,fun _=>none,fun _=>0,fun _=>0,fun _=>[],rfl,⟨kE,kX _,fun _=>rfl,fun h=>absurd h kH,fun i g=>absurd g kH⟩⟩
 ·simp at d o;subst d;subst o;rw[GT]at hx;obtain⟨t,j⟩:=choose_lt (n:=m) (p:=fun i(y:Int×Option Addr×Nat×Nat×List Int)=>W.cells? 0 (a.add (i*2)) 2=some [.int .i64 y.1,.slice y.2.1 y.2.2.1 y.2.2.2.1]/\Bs W y.2.1 y.2.2.1 y.2.2.2.1 y.2.2.2.2) (fun i g=>by
   obtain⟨D,g1,g2⟩:=hx i g;obtain⟨y,A,s⟩:=GW (World.cells?_some g1).2.1 g2;subst A;exact⟨y,g1,s⟩)
  refine⟨some a,l,m,fun i=>(t i).1,fun i=>(t i).2.1,fun i=>(t i).2.2.1,fun i=>(t i).2.2.2.1,fun i=>(t i).2.2.2.2,rfl,⟨B,C,fun e=>(by cases e),fun J=> ?_,fun i g=>(j i kH).2⟩⟩;have z:=(World.cells?_some (j 0 kH).1).2.2 0 kH;have u:W.cell? (a.add 0)=some (.int .i64 (t 0).1):=by simpa [Addr.add]using z
  obtain⟨b,off,rfl,s⟩:=xv u;refine⟨b,off,rfl,s,fun i g=>⟨fun q K=> ?_,?_⟩⟩
  ·have f:=(World.cells?_some (j i kH).1).2.2 0 kH;have w:q=0:=kH;subst w;rw[sj,sj]at f;exact f
  ·have f:=(World.cells?_some (j i kH).1).2.2 1 kH;rw[sj,sj]at f;exact f
end
