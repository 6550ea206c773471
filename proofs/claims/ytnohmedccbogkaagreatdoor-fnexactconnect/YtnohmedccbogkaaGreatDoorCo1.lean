import Derived.Test.YtnohmedccbogkaaGreatDoorCo0
import Derived.Lib.Bytes
import Derived.Deep.RegionHeld3
import Derived.Deep.RegionLaw
import Derived.Deep.DeepCutAuto
import Derived.Lib.ConvBytes
namespace Go.Proofs.YtnohmedccbogkaaGreatDoor
open Go.Proofs.Tryz
open Go.RowKit
set_option linter.unusedVariables false
set_option maxRecDepth 100000
set_option maxHeartbeats 32000000
theorem uT(g B l w)(h:Cur w g B l)(d:4<=l.length):
 Calls prog 186 #[.pointer (some ⟨g,0,none⟩)] w fun e w'=>e= .returned (.int .i64 (low (l.take 4)))/\OnlyB g w w'/\Cur w' g B (l.drop 4):=by
 have T:=iu g B l 4 w h kH d;clear h;go_enter func186,ntmps186;go_wp2_with fail;refine q2 T ?_;rintro e w1 ⟨b,off,c,rfl,o,i,j,_⟩;have N:=lv _ 4 c (l.take 4) w1 j kH;have a:=kG o i;clear o i j T;go_wp2_with fail;refine q2 N ?_;rintro e k ⟨rfl,f⟩;obtain rfl:=f.symm;go_wp2;go_ret;exact⟨rfl,a.out⟩
theorem nS(g B l w)(h:Cur w g B l)(a:l.length<4):
 Calls prog 186 #[.pointer (some ⟨g,0,none⟩)] w fun e w'=>e= .panicked aU/\OnlyB g w w':=by
 have T:=jb g B l 4 w h a kH;clear h;go_enter func186,ntmps186;go_wp2_with fail;refine q2 T ?_;rintro e w1 ⟨rfl,b⟩;obtain rfl:=b.symm;go_wp2;exact⟨rfl,rfl,OnlyB.refl _ _⟩
theorem nT(g B l w)(h:Cur w g B l):
 Calls prog 124 #[.pointer (some ⟨g,0,none⟩)] w fun e w'=>e= .returned (.bool (decide (l.length=0)))/\w'=w:=by
 obtain⟨a,n,c,h⟩:=h;have f:=h.bs.len_eq;have j:=h.blk.cell 0;rw[f];clear h;by_cases b:n=0
 ·subst b;go_enter func124,ntmps124;go_wp2;go_ret;exact⟨rfl,rfl⟩
 ·have d:=q5 b;rw[d];have i:((n:Int)==0)=false:=by simp[b]
  clear d;go_enter func124,ntmps124;go_wp2;go_ret
  first|exact⟨rfl,rfl⟩|exact⟨by simp[b],rfl⟩
theorem uU(g B l w)(h:Cur w g B l)(t:1<=lfK l)(G:lfK l<=40)(H:1+lfK l<=l.length):
 Calls prog 191 #[.pointer (some ⟨g,0,none⟩)] w fun e w'=>e= .returned (.string (ez l))/\OnlyB g w w'/\Cur w' g B (l.drop (1+lfK l)):=by
 have j:=h.byte;obtain⟨k0,I⟩:=j 0;have T:=iu g B l 1 w h kH kH;have v:l.getD 0 0=((lfK l:Nat):Int):=by unfold lfK;omega
 have c:Hid (ez l=strOfNums ((l.drop 1).take (lfK l))):=rfl;have C:(l.drop 1).length=l.length-1:=k3;generalize lfK l=k at*;clear h;go_enter func191,ntmps191;go_wp2_with fail;refine q2 T ?_;rintro e w1 ⟨b,off,E,rfl,o,z,A,_⟩;obtain⟨_,_,s,_,m⟩:=A.at_ kH;cases s;have r:w1.cell? ⟨b,off,none⟩=some (.int .u8 (k:Nat)):=by
  have:=m 0 kH;rw[m2]at this;rw[this];have e:(l.take 1).getD 0 0=l.getD 0 0:=by cases l<;>simp
  rw[e,v]
 have u:decide ((k:Int)<=40)=true:=q6 kH;have N:=fl w1;have i:=iu g B (l.drop 1) k w1 z t kH;have q:Hid _:=o;clear o z A T m;go_wp2_with fail;refine q2 N ?_;rintro e J ⟨rfl,n⟩;obtain rfl:=n.symm;clear n N r;go_wp2_with fail;refine q2 i ?_;rintro e K ⟨D,y,F,rfl,p,d,f,_⟩;have x:=aP f;rw[<-c.out]at x;have a:=kG (q.out.trans p) d;clear p d f i;go_wp2_with fail;go_ret;exact⟨rfl,a.out.1,by have:=a.out.2;rwa [m0]at this⟩
theorem uV(g B l w)(h:Cur w g B l)(A:¬(1<=lfK l/\lfK l<=40/\1+lfK l<=l.length)):
 Calls prog 191 #[.pointer (some ⟨g,0,none⟩)] w fun e w'=>e= .panicked aU/\OnlyB g w w':=by
 have i:=h.byte;obtain⟨k0,D⟩:=i 0;by_cases t:l.length<1
 ·have T:=jb g B l 1 w h t kH;clear h;go_enter func191,ntmps191;go_wp2_with fail;refine q2 T ?_;rintro e w1 ⟨rfl,a⟩;obtain rfl:=a.symm;go_wp2;exact⟨rfl,rfl,OnlyB.refl _ _⟩
 have T:=iu g B l 1 w h kH kH;have v:l.getD 0 0=((lfK l:Nat):Int):=by unfold lfK;omega
 have z:lfK l<256:=kH;have y:(l.drop 1).length=l.length-1:=k3;generalize lfK l=k at*;clear h;go_enter func191,ntmps191;go_wp2_with fail;refine q2 T ?_;rintro e w1 ⟨b,off,C,rfl,o,p,x,_⟩;obtain⟨_,_,s,_,j⟩:=x.at_ kH;cases s;have r:w1.cell? ⟨b,off,none⟩=some (.int .u8 (k:Nat)):=by
  have:=j 0 kH;rw[m2]at this;rw[this];have e:(l.take 1).getD 0 0=l.getD 0 0:=by cases l<;>simp
  rw[e,v]
 have c:Hid _:=o;clear o x T j;by_cases m:1<=k/\k<=40
 ·obtain⟨u,f⟩:=m;have d:decide ((k:Int)<=40)=true:=q6 kH;have N:=fl w1;have q:=jb g B (l.drop 1) k w1 p kH kH;clear p;go_wp2_with fail;refine q2 N ?_;rintro e n ⟨rfl,a⟩;obtain rfl:=a.symm;clear a N r;go_wp2_with fail;refine q2 q ?_;rintro e E ⟨rfl,a⟩;obtain rfl:=a.symm;go_wp2;exact⟨rfl,rfl,c.out⟩
 ·have N:=f9 w1;clear p;by_cases u:1<=k
  ·have d:decide ((k:Int)<=40)=false:=q5 kH;go_wp2_with fail;refine q2 N ?_;rintro e n ⟨rfl,a⟩;obtain rfl:=a.symm;go_wp2;exact⟨rfl,rfl,c.out⟩
  ·have f:k=0:=kH;subst f;go_wp2_with fail;refine q2 N ?_;rintro e n ⟨rfl,a⟩;obtain rfl:=a.symm;go_wp2;exact⟨rfl,rfl,c.out⟩
theorem take_zero(g B l w)(h:Cur w g B l):
 Calls prog 97 #[.pointer (some ⟨g,0,none⟩),.int .i64 0] w fun e w'=> ∃a d,e= .returned (.slice a 0 d)/\OnlyB g w w'/\Cur w' g B l/\Bs w' a 0 d []:=by
 obtain⟨a,n,c,h⟩:=h;have q:=h.bs.len_eq;have f:=h.bs.le';unfold maxLen at f;have m:=h.blk.cell 0;have p:=h.blk.free 0;have o:=aB w g 0 (.slice a n c);have b:Hid (OnlyB g w (w.setCell ⟨g,0,none⟩ (.slice a n c))/\Cur (w.setCell ⟨g,0,none⟩ (.slice a n c)) g B l/\Bs (w.setCell ⟨g,0,none⟩ (.slice a n c)) a 0 c []):=
  ⟨o,⟨a,n,c,h.blk.set 0 _,h.bs.only o h.ne,h.low⟩,rfl,kH,by unfold maxLen;omega,h.bs.nil,fun j=>absurd j (oP _),ir⟩
 clear h o;go_enter func97,ntmps97;go_wp2_with fail;refine q2 (fl w) ?_;rintro e w1 ⟨rfl,k⟩;obtain rfl:=k.symm;cases a with
 |none=>
  go_wp2;go_ret;exact⟨none,c,rfl,b.out⟩
 |some i=>
  go_wp2;go_ret;exact⟨some i,c,rfl,b.out⟩
def nU(l:List Int):ByteArray:=strOfNums ((l.drop 1).take (lfK l))
theorem Cq(g B l w)(h:Cur w g B l)(d:lfK l<=70)(f:1+lfK l<=l.length):
 Calls prog 192 #[.pointer (some ⟨g,0,none⟩)] w fun e w'=>e= .returned (.string (nU l))/\OnlyB g w w'/\Cur w' g B (l.drop (1+lfK l)):=by
 have s:=h.byte;obtain⟨k0,O⟩:=s 0;have T:=iu g B l 1 w h kH kH;have F:l.getD 0 0=((lfK l:Nat):Int):=by unfold lfK;omega
 have n:Hid (nU l=strOfNums ((l.drop 1).take (lfK l))):=rfl;have J:(l.drop 1).length=l.length-1:=k3;generalize lfK l=k at*;clear h;go_enter func192,ntmps192;go_wp2_with fail;refine q2 T ?_;rintro e w1 ⟨b,off,j,rfl,o,y,I,_⟩;obtain⟨_,_,D,_,t⟩:=I.at_ kH;cases D;have C:w1.cell? ⟨b,off,none⟩=some (.int .u8 (k:Nat)):=by
  have:=t 0 kH;rw[m2]at this;rw[this];have e:(l.take 1).getD 0 0=l.getD 0 0:=by cases l<;>simp
  rw[e,F]
 have z:Hid _:=o;have E:decide ((k:Int)<=70)=true:=q6 kH;have N:=fl w1;have r:Calls prog 97 #[.pointer (some ⟨g,0,none⟩),.int .i64 (k:Int)] w1 fun e w'=> ∃a j,e= .returned (.slice a k j)/\OnlyB g w1 w'/\Cur w' g B ((l.drop 1).drop k)/\Bs w' a k j ((l.drop 1).take k):=by
  by_cases u:k=0
  ·subst u;refine(take_zero g B (l.drop 1) w1 y).mono ?_;rintro e w' ⟨a,c,rfl,m,d,f⟩;exact⟨a,c,rfl,m,d,f⟩
  ·refine(iu g B (l.drop 1) k w1 y kH kH).mono ?_;rintro e w' ⟨L,H,A,rfl,m,d,f,_⟩;exact⟨_,A,rfl,m,d,f⟩
 clear o y I T t;go_wp2_with fail;refine q2 N ?_;rintro e P ⟨rfl,v⟩;obtain rfl:=v.symm;clear v N C;go_wp2_with fail;refine q2 r ?_;rintro e Q ⟨K,M,rfl,x,p,q⟩;have G:=aP q;rw[<-n.out]at G;have i:=kG (z.out.trans x) p;clear x p q r;go_wp2_with fail;go_ret;exact⟨rfl,i.out.1,by have:=i.out.2;rwa [m0]at this⟩
theorem Cr(g B l w)(h:Cur w g B l)(x:¬(lfK l<=70/\1+lfK l<=l.length)):
 Calls prog 192 #[.pointer (some ⟨g,0,none⟩)] w fun e w'=>e= .panicked aU/\OnlyB g w w':=by
 have f:=h.byte;obtain⟨k0,z⟩:=f 0;by_cases q:l.length<1
 ·have T:=jb g B l 1 w h q kH;clear h;go_enter func192,ntmps192;go_wp2_with fail;refine q2 T ?_;rintro e w1 ⟨rfl,a⟩;obtain rfl:=a.symm;go_wp2;exact⟨rfl,rfl,OnlyB.refl _ _⟩
 have T:=iu g B l 1 w h kH kH;have r:l.getD 0 0=((lfK l:Nat):Int):=by unfold lfK;omega
 have u:(l.drop 1).length=l.length-1:=k3;generalize lfK l=k at*;clear h;go_enter func192,ntmps192;go_wp2_with fail;refine q2 T ?_;rintro e w1 ⟨b,off,y,rfl,o,j,t,_⟩;obtain⟨_,_,p,_,i⟩:=t.at_ kH;cases p;have n:w1.cell? ⟨b,off,none⟩=some (.int .u8 (k:Nat)):=by
  have:=i 0 kH;rw[m2]at this;rw[this];have e:(l.take 1).getD 0 0=l.getD 0 0:=by cases l<;>simp
  rw[e,r]
 have d:Hid _:=o;clear o t T i;by_cases v:k<=70
 ·have c:decide ((k:Int)<=70)=true:=q6 kH;have N:=fl w1;have m:=jb g B (l.drop 1) k w1 j kH kH;clear j;go_wp2_with fail;refine q2 N ?_;rintro e s ⟨rfl,a⟩;obtain rfl:=a.symm;clear a N n;go_wp2_with fail;refine q2 m ?_;rintro e A ⟨rfl,a⟩;obtain rfl:=a.symm;go_wp2;exact⟨rfl,rfl,d.out⟩
 ·have c:decide ((k:Int)<=70)=false:=q5 kH;have N:=f9 w1;clear j;go_wp2_with fail;refine q2 N ?_;rintro e s ⟨rfl,a⟩;obtain rfl:=a.symm;go_wp2;exact⟨rfl,rfl,d.out⟩
structure RRecs(p:Nat)(w:World)(a:Option Addr)(n c:Nat)(I:Nat->Nat->Int)(A:Nat->Option Addr)(N C:Nat->Nat)(L:Nat->List Int):Prop where
 le:n<=c
 le':c<=maxLen
 nil:a=none->c=0
 at_:0<n->∃b off,a=some ⟨b,off,none⟩/\b<w.1.size/\∀i,i<n->(∀q,q<p->w.cell? ⟨b,off+i*(p+1)+q,none⟩=some (.int .i64 (I i q)))/\w.cell? ⟨b,off+i*(p+1)+p,none⟩=some (.slice (A i) (N i) (C i))
 data:∀i,i<n->Bs w (A i) (N i) (C i) (L i)
theorem RRecs.below{p w w' a n c I m N o r}(h:RRecs p w a n c I m N o r)(d:Below w.1.size w w'):RRecs p w' a n c I m N o r:=
 ⟨h.le,h.le',h.nil,fun k=>by
  obtain⟨b,off,e,g,j⟩:=h.at_ k;refine⟨b,off,e,lk g d.size,fun i f=>⟨fun q l=> ?_,?_⟩⟩
  ·rw[d.cell (p:=⟨b,_,none⟩) g];exact(j i f).1 q l
  ·rw[d.cell (p:=⟨b,_,none⟩) g];exact(j i f).2,fun i f=>(h.data i f).below d⟩
def fm(p:Nat)(I:Nat->Int)(v:Value):List Value:=(List.range p).map (fun q=>Value.int .i64 (I q))++[v]
theorem nV(p I v):(fm p I v).length=p+1:=by simp[fm]
theorem nW(p I v q)(h:q<p):(fm p I v)[q]?=some (.int .i64 (I q)):=by
 simp[fm,List.getElem?_append_left,h]
theorem qP(p I v):(fm p I v)[p]?=some v:=by
 simp[fm]
def eD(p:Nat)(I:Nat->Nat->Int)(V:Nat->Value):Nat->List Value
 |0=>[]
 |n+1=>eD p I V n++fm p (I n) (V n)
theorem iF(p I V):∀n,(eD p I V n).length=n*(p+1)
 |0=>by simp[eD]
 |n+1=>by rw[eD,kY,iF p I V n,nV,ov,n8]
theorem qQ(p I V q)(b:q<p+1):∀n i,i<n->(eD p I V n)[i*(p+1)+q]?=(fm p (I i) (V i))[q]?
 |0,i,h=>by omega
 |n+1,i,h=>by
  rw[eD];by_cases e:i=n
  ·subst e;rw[m4 (by rw[iF];omega),iF];congr 1;omega
  ·have a:(i+1)*(p+1)<=n*(p+1):=oO _ kH;rw[ov,n8]at a;rw[l7 (by rw[iF];omega)];exact qQ p I V q b n i kH
structure ORecs(p e:Nat)(B:Nat)(w:World)(a:Option Addr)(n c:Nat)(I:Nat->Nat->Int)(A:Nat->Option Addr)(N C:Nat->Nat)(L:Nat->List Int):Prop where
 row:w.ownsRow B e (p+1) (.slice a n c) n (eD p I (fun i=> .slice (A i) (N i) (C i)) n)
 data:∀i,i<n->Own B w (A i) (N i) (C i) (L i)
 byte:∀i,i<n->IsB (L i)
 sep1:∀i j,i<j->j<n->∀k,(Value.slice (A i) (N i) (C i)).ownBlock=some k->(Value.slice (A j) (N j) (C j)).ownBlock≠some k
theorem ORecs.reads{p e B w a n c I m N o v}(h:ORecs p e B w a n c I m N o v):RRecs p w a n c I m N o v:=by
 have k:=fun i b=>(h.data i b).bs (h.byte i b);rcases h.row.2 with⟨f,z⟩|⟨g,x,y,f,D,t,r,s,A,C⟩
 ·cases f;exact⟨kH,kX _,fun _=>rfl,fun l=>absurd l kH,k⟩
 ·cases f;have d:∀q i,i<n->q<p+1->w.cell? ⟨g,0+i*(p+1)+q,none⟩=(fm p (I i) (.slice (m i) (N i) (o i)))[q]?:=fun q i b j=>by
   have u:(i+1)*(p+1)<=n*(p+1):=oO _ kH;rw[ov,n8]at u;rw[ld,sD h.row (i*(p+1)+q) kH];exact qQ p I (fun i=> .slice (m i) (N i) (o i)) q j n i b
  refine⟨r,s,fun e=>(by cases e),fun l=>⟨g,0,rfl,(k6.1 t).1,fun i b=>⟨fun q j=> ?_,?_⟩⟩,k⟩
  ·rw[d q i b kH,nW _ _ _ _ j]
  ·rw[d p i b kH,qP]
theorem ORecs.below{p e B w w' a n c I f N g j}(h:ORecs p e B w a n c I f N g j)(b:Below w.1.size w w'):ORecs p e B w' a n c I f N g j:=
 ⟨cj h.row b,fun i d=>(h.data i d).below b,h.byte,h.sep1⟩
theorem ORecs.mono{p e B b w a n c I g N j k}(h:ORecs p e B w a n c I g N j k)(d:b<=B):ORecs p e b w a n c I g N j k:=
 ⟨World.ownsRow.mono h.row d,fun i f=>(h.data i f).mono d,h.byte,h.sep1⟩
theorem j7{w:World}{B i e f size c:Nat}{v v' n r xs h}(m:w.ownsRow B e size v n xs)(o:w.ownsRow i f c v' r h)(p:e≠f):∀k,v.ownBlock=some k->v'.ownBlock≠some k:=by
 intro k d b;rcases m.2 with⟨rfl,_⟩|⟨g,s,t,rfl,_,q,_⟩
 ·simp[Value.ownBlock]at d
 ·rcases o.2 with⟨rfl,_⟩|⟨u,j,l,rfl,_,a,_⟩
  ·simp[Value.ownBlock]at b
  ·simp[Value.ownBlock]at d b;subst d;subst b;rw[q]at a;simp at a;exact p a.2
def upd{α:Type}(f:Nat->α)(n:Nat)(x:α):Nat->α:=fun i=>if i=n then x else f i
theorem fp{a:Type}(f n)(x:a):upd f n x n=x:=by simp[upd]
theorem Cs{a:Type}(f n)(x:a){i}(h:i<n):upd f n x i=f i:=by simp[upd];omega
theorem eI{a:Type}(f n)(x:a){i}(h:i≠n):upd f n x i=f i:=by simp[upd,h]
theorem lC(p){I I' V V'}:∀n,(∀i,i<n->(∀q,q<p->I i q=I' i q)/\V i=V' i)->eD p I V n=eD p I' V' n
 |0,_=>rfl
 |n+1,h=>by
  rw[eD,eD,lC p n (fun i b=>h i kH)];congr 1;unfold fm;rw[(h n kH).2];congr 1;refine List.map_congr_left fun q a=> ?_;rw[(h n kH).1 q (by simpa using a)]
structure Within(B S:Nat)(w w':World):Prop where
 os:w'.os=w.os
 tape:w'.tape=w.tape
 output:w'.output=w.output
 size:w'.1.size=w.1.size
 block:∀k,k<B\/S<=k->w'.heap[k]?=w.heap[k]?
theorem Within.below{B d a b}(h:Within B d a b):Below B a b:=⟨h.os,h.tape,h.output,Nat.le_of_eq h.size.symm,fun k c=>h.block k (kV c)⟩
def gX(I:Nat->Nat->Int)(j q:Nat)(x:Int):Nat->Nat->Int:=fun i r=>if i=j/\r=q then x else I i r
theorem Ct(p I v q)(c:q<p)(x):(fm p I v).set q (.int .i64 x)=fm p (fun r=>if r=q then x else I r) v:=by
 apply o3;intro j;rw[List.getElem?_set];by_cases e:q=j
 ·subst e;rw[qb rfl,qb (by rw[nV];omega),nW _ _ _ _ c];simp
 ·rw[q4 e];by_cases a:j<p
  ·rw[nW _ _ _ _ a,nW _ _ _ _ a,q4 (fun h=>e h.symm)]
  ·by_cases b:j=p
   ·subst b;rw[qP,qP]
   ·rw[ot (by rw[nV];omega),ot (by rw[nV];omega)]
theorem uW(p I V q)(a:q<p)(x j):∀n,j<n->(eD p I V n).set (j*(p+1)+q) (.int .i64 x)=eD p (gX I j q x) V n
 |0,h=>by omega
 |n+1,h=>by
  rw[eD,eD];by_cases e:j=n
  ·subst e;rw[n2 _ _ (by rw[iF];omega),iF];rw[show j*(p+1)+q-j*(p+1)=q by omega,Ct p (I j) (V j) q a x];rw[lC p j (I':=gX I j q x) (V':=V) (fun i c=>⟨fun r _=>by unfold gX;rw[q4 kH],rfl⟩)];congr 1;have:(fun r=>if r=q then x else I j r)=gX I j q x j:=by
    funext r;simp[gX]
   rw[this]
  ·have b:(j+1)*(p+1)<=n*(p+1):=oO _ kH;rw[ov,n8]at b;rw[List.set_append_left _ _ (by rw[iF];omega),uW p I V q a x j n kH];congr 1;unfold fm;congr 1;refine List.map_congr_left fun r _=> ?_;unfold gX;rw[q4 kH]
theorem ORecs.setInt{p e B g w n c I d N f t}(h:ORecs p e B w (some ⟨g,0,none⟩) n c I d N f t)(m:e≠5)(j q)(o:j<n)(s:q<p)(x):
 ORecs p e B (w.setCell ⟨g,j*(p+1)+q,none⟩ (.int .i64 x)) (some ⟨g,0,none⟩) n c (gX I j q x) d N f t/\w.grownBy (w.setCell ⟨g,j*(p+1)+q,none⟩ (.int .i64 x)) (some g):=by
 have a:=World.ownsRow.stored h.row (j*(p+1)+q) (.int .i64 x);rw[uW p I _ q s x j n o]at a;refine⟨⟨a.1,fun i b=> ?_,h.byte,h.sep1⟩,a.2⟩;refine World.ownsRow.kept (h.data i b) a.2 ?_;cases r:(Value.slice (d i) (N i) (f i)).ownBlock with
 |none=>exact kV rfl
 |some k=>exact kT fun l=>j7 (h.data i b) h.row (s8 m) k r (by rw[l];rfl)
theorem ORecs.setData{p e B w w' a n c I g N m x}(h:ORecs p e B w a n c I g N m x)(t:e≠5)(j)(s:j<n)(q:w.grownBy w' (Value.slice (g j) (N j) (m j)).ownBlock)(l)(v:Own B w' (g j) (N j) (m j) l)(u:IsB l):
 ORecs p e B w' a n c I g N m (upd x j l):=by
 refine⟨?_,fun i d=> ?_,fun i d=> ?_,h.sep1⟩
 ·refine World.ownsRow.kept h.row q ?_;cases f:(Value.slice a n c).ownBlock with
  |none=>exact kV rfl
  |some k=>exact kT fun b=>j7 h.row (h.data j s) t k f b.symm
 ·by_cases b:i=j
  ·subst b;rw[fp];exact v
  ·rw[eI _ _ _ b];refine World.ownsRow.kept (h.data i d) q ?_;cases f:(Value.slice (g i) (N i) (m i)).ownBlock with
   |none=>exact kV rfl
   |some k=>
    refine kT fun o=> ?_;by_cases r:i<j
    ·exact h.sep1 i j r s k f o.symm
    ·exact h.sep1 j i kH d k o.symm f
 ·by_cases b:i=j
  ·subst b;rw[fp];exact u
  ·rw[eI _ _ _ b];exact h.byte i d
def mk(p:Nat)(N:Nat->Nat)(k:Int):Nat->Int
 |0=>k
 |i+1=>mk p N k i+p+N i
theorem qR(p N k){i j}(h:i<=j):mk p N k i<=mk p N k j:=by
 induction j with
 |zero=>have:i=0:=kH;subst this;exact Int.le_refl _
 |succ j ih=>
  by_cases e:i=j+1
  ·subst e;exact Int.le_refl _
  ·have:=ih kH;simp only[mk];omega
theorem lD(p N k j):k<=mk p N k j:=qR p N k (kX j)
def mkI(p:Nat)(N:Nat->Nat)(k:Int):Nat->Nat->Int:=fun i q=>mk p N k i+q
def mkL(p:Nat)(N:Nat->Nat)(k:Int):Nat->List Int:=fun i=>ec (mk p N k i+p) (N i)
def fx{α:Type}(j:Nat)(f g:Nat->α):Nat->α:=fun i=>if i<j then f i else g i
theorem qS{a:Type}(f g:Nat->a):fx 0 f g=g:=by funext i;simp[fx]
theorem uX{p e B w a n c I i N j k}(h:ORecs p e B w a n c I i N j k)(m:0<n):∃g,a=some ⟨g,0,none⟩/\B<=g:=by
 rcases h.row.2 with⟨e,l⟩|⟨g,d,f,e,b,_⟩
 ·omega
 ·cases e;exact⟨g,rfl,b⟩
theorem ORecs.cellInt{p e B g w n c I k N l m}(h:ORecs p e B w (some ⟨g,0,none⟩) n c I k N l m)(j q)(f:j<n)(i:q<p):w.cell? ⟨g,j*(p+1)+q,none⟩=some (.int .i64 (I j q)):=by
 obtain⟨b,off,a,_,d⟩:=h.reads.at_ kH;cases a;have:=(d j f).1 q i;rw[ld]at this;exact this
theorem ORecs.cellData{p e B g w n c I i N k l}(h:ORecs p e B w (some ⟨g,0,none⟩) n c I i N k l)(j)(f:j<n):w.cell? ⟨g,j*(p+1)+p,none⟩=some (.slice (i j) (N j) (k j)):=by
 obtain⟨b,off,a,_,d⟩:=h.reads.at_ kH;cases a;have:=(d j f).2;rw[ld]at this;exact this
theorem ORecs.congr'{p e B w a n c I I' g N j k L'}(h:ORecs p e B w a n c I g N j k)(f:∀i,i<n->∀q,q<p->I i q=I' i q)(d:∀i,i<n->k i=L' i):ORecs p e B w a n c I' g N j L':=
 ⟨by rw[<-lC p n (fun i b=>⟨f i b,rfl⟩)];exact h.row,fun i b=>by rw[<-d i b];exact h.data i b,fun i b=>by rw[<-d i b];exact h.byte i b,h.sep1⟩
structure Turned(T:Nat->Prop)(w w':World):Prop where
 os:w'.os=w.os
 tape:w'.tape=w.tape
 output:w'.output=w.output
 size:w'.1.size=w.1.size
 block:∀k,¬T k->w'.heap[k]?=w.heap[k]?
theorem Turned.refl(T w):Turned T w w:=⟨rfl,rfl,rfl,rfl,fun _ _=>rfl⟩
theorem Turned.trans{T a b c}(h:Turned T a b)(k:Turned T b c):Turned T a c:=
 ⟨k.os.trans h.os,k.tape.trans h.tape,k.output.trans h.output,k.size.trans h.size,fun i d=>(k.block i d).trans (h.block i d)⟩
theorem Turned.grown{T w w' b}(a:w.grownBy w' b)(d:w'.1.size=w.1.size)(hr:∀k,b=some k->T k):Turned T w w':=
 ⟨a.os,a.tape,a.output,d,fun k c=>by
  by_cases h:k<w.1.size
  ·exact a.block k h (fun e=>c (hr k e.symm))
  ·rw[Array.getElem?_eq_none kH,Array.getElem?_eq_none kH]⟩
theorem Turned.within{T B c w w'}(h:Turned T w w')(a:∀k,T k->B<=k/\k<c):Within B c w w':=
 ⟨h.os,h.tape,h.output,h.size,fun k d=>h.block k (fun b=>by have:=a k b;omega)⟩
theorem Turned.row{T}{B e size:Nat}{w w' v n xs}(b:Turned T w w')(h:w.ownsRow B e size v n xs)(a:∀k,v.ownBlock=some k->¬T k):w'.ownsRow B e size v n xs:=by
 refine⟨h.1,?_⟩;rcases h.2 with h2|⟨g,cap,cur,rfl,hg,hh,r⟩
 ·exact kV h2
 ·exact kT ⟨g,cap,cur,rfl,hg,by rw[b.block g (a g rfl)];exact hh,r⟩
theorem ORecs.turned{T p e B w w' a n c I f N g l}(h:ORecs p e B w a n c I f N g l)(d:Turned T w w')(hr:∀k,(Value.slice a n c).ownBlock=some k->¬T k)(j:∀i,i<n->∀k,(Value.slice (f i) (N i) (g i)).ownBlock=some k->¬T k):ORecs p e B w' a n c I f N g l:=
 ⟨d.row h.row hr,fun i b=>d.row (h.data i b) (j i b),h.byte,h.sep1⟩
def nX(n:Nat)(A:Nat->Option Addr)(N C:Nat->Nat):Nat->Prop:=fun k=> ∃i,i<n/\(Value.slice (A i) (N i) (C i)).ownBlock=some k
def mC(a:Option Addr)(n c:Nat)(A:Nat->Option Addr)(N C:Nat->Nat):Nat->Prop:=fun k=>(Value.slice a n c).ownBlock=some k\/nX n A N C k
theorem uY(p N k j a i):upd (fx j (mkL p N k) a) j (ec (mk p N k j+p) (N j)) i=fx (j+1) (mkL p N k) a i:=by
 by_cases e:i=j
 ·subst e;simp[upd,fx,mkL]
 ·have:(i<j)=(i<j+1):=by simp;omega
  simp[upd,fx,e,this]
theorem Cu(B a n c I f N l D k w)(h:ORecs 0 70 B w a n c I f N l D)(S:n<=1048576)(F:∀i,i<n->N i<=1048576)(P:0<=k)(Q:mk 0 N k n<=1099511627776):
 Calls prog 100 #[.slice a n c,.int .i64 k] w fun e w'=>e= .returned (.int .i64 (mk 0 N k n))/\Turned (nX n f N l) w w'/\ORecs 0 70 B w' a n c (mkI 0 N k) f N l (mkL 0 N k):=by
 go_enter func100,ntmps100;go_wp2;go_loopw [1,5] (fun x i wr=> ∃j:Nat,j<=n/\i= .int .i64 j/\x= .int .i64 (mk 0 N k j)/\Turned (nX n f N l) w wr/\ORecs 0 70 B wr a n c I f N l (fx j (mkL 0 N k) D)) (fun _ i _=>n-(intOf i).toNat)
 case atStart=>exact⟨0,kX _,rfl,rfl,Turned.refl _ _,by rw[qS];exact h⟩
 case round=>
  obtain⟨j,R,rfl,rfl,p,hr⟩:=hrel;by_cases d:j<n
  ·obtain⟨g,rfl,O⟩:=uX hr kH;have J:=qR 0 N k (show j+1<=n from d);have T:=lD 0 N k j;have s:Hid (mk 0 N k (j+1)=mk 0 N k j+N j):=by show mk 0 N k j+(0:Nat)+N j= _;simp
   rw[s.out]at J;have r:Hid _:=uY 0 N k j D;have H:wr.cell? ⟨g,j,none⟩=some (.slice (f j) (N j) (l j)):=by have:=hr.cellData j d;simpa using this
   have t:=F j d;clear h;generalize G:mk 0 N k j=M at*;clear G;go_wp2_with fail;refine(qL B (f j) (N j) (l j) _ M _ (hr.data j d) t kH kH).mono ?_;rintro e L ⟨rfl,o,E,C,A⟩;have m:Own B L (f j) (N j) (l j) (ec (M+(0:Nat)) (N j)):=by simpa using A
   have K:=hr.setData kN j d o _ m (uE _ _);have z:=p.trans (Turned.grown o C (fun b e=>⟨j,d,e⟩));clear o E C A m H hr p;go_wp2;go_roundw
   case rel=>exact⟨j+1,kH,by go_num,by rw[s.out],z,K.congr' (fun i _ q v=>rfl) (fun i _=>r.out i)⟩
   case measure=>simp[intOf];omega
  ·have e:j=n:=kH;subst e;have y:=hr.congr' (I':=mkI 0 N k) (L':=mkL 0 N k) (fun i u q v=>absurd v kH) (fun i u=>by simp[fx,u]);clear hr;go_wp2;go_ret;exact⟨rfl,p,y⟩
theorem Cv(N k j I i q)(b:q<1):gX (fx j (mkI 1 N k) I) j 0 (mk 1 N k j) i q=fx (j+1) (mkI 1 N k) I i q:=by
 have a:q=0:=kH;subst a;by_cases e:i=j
 ·subst e;simp[gX,fx,mkI]
 ·have:(i<j)=(i<j+1):=by simp;omega
  simp[gX,fx,e,this]
theorem Cw(B a n c I f N l G k w)(h:ORecs 1 211 B w a n c I f N l G)(W:n<=1048576)(K:∀i,i<n->N i<=1048576)(T:0<=k)(U:mk 1 N k n<=1099511627776):
 Calls prog 101 #[.slice a n c,.int .i64 k] w fun e w'=>e= .returned (.int .i64 (mk 1 N k n))/\Turned (mC a n c f N l) w w'/\ORecs 1 211 B w' a n c (mkI 1 N k) f N l (mkL 1 N k):=by
 go_enter func101,ntmps101;go_wp2;go_loopw [1,5] (fun x i wr=> ∃j:Nat,j<=n/\i= .int .i64 j/\x= .int .i64 (mk 1 N k j)/\Turned (mC a n c f N l) w wr/\ORecs 1 211 B wr a n c (fx j (mkI 1 N k) I) f N l (fx j (mkL 1 N k) G)) (fun _ i _=>n-(intOf i).toNat)
 case atStart=>exact⟨0,kX _,rfl,rfl,Turned.refl _ _,by rw[qS,qS];exact h⟩
 case round=>
  obtain⟨j,V,rfl,rfl,s,hr⟩:=hrel;by_cases d:j<n
  ·obtain⟨g,rfl,R⟩:=uX hr kH;have P:=qR 1 N k (show j+1<=n from d);have X:=lD 1 N k j;have v:Hid (mk 1 N k (j+1)=mk 1 N k j+1+N j):=rfl;rw[v.out]at P;have t:Hid _:=Cv N k j I;have u:Hid _:=uY 1 N k j G;have k0:wr.cell? ⟨g,j*2,none⟩=some (.int .i64 _):=hr.cellInt j 0 d kH;have O:wr.cell? ⟨g,j*2+1,none⟩=some (.slice (f j) (N j) (l j)):=hr.cellData j d;have J:wr.frozen? ⟨g,j*2,none⟩=false:=sx hr.row _;obtain⟨E,g1⟩:=hr.setInt kN j 0 d kH (mk 1 N k j);have o:Turned (mC (some ⟨g,0,none⟩) n c f N l) w _:=s.trans (Turned.grown g1 kP (fun b e=>kV e));clear g1 hr s h;generalize fx j (mkI 1 N k) I j 0=Y at k0;have m:Hid (ORecs 1 211 B (wr.setCell ⟨g,j*2,none⟩ (.int .i64 (mk 1 N k j))) (some ⟨g,0,none⟩) n c _ f N l _):=E;have y:Hid (Turned (mC (some ⟨g,0,none⟩) n c f N l) w (wr.setCell ⟨g,j*2,none⟩ (.int .i64 (mk 1 N k j)))):=o;have z:=K j d;clear E o;generalize L:mk 1 N k j=S at*;clear L;go_wp2_with fail;refine(qL B (f j) (N j) (l j) _ (S+1) _ (m.out.data j d) z kH kH).mono ?_;rintro e Z ⟨rfl,p,H,F,D⟩;have Q:=m.out.setData kN j d p _ D (uE _ _);have C:=y.out.trans (Turned.grown p F (fun b e=>kT ⟨j,d,e⟩));clear p H F D k0 O J;go_wp2;go_roundw
   case rel=>exact⟨j+1,kH,by go_num,by rw[v.out],C,Q.congr' (fun i _ q M=>t.out i q M) (fun i _=>u.out i)⟩
   case measure=>simp[intOf];omega
  ·have e:j=n:=kH;subst e;have A:=hr.congr' (I':=mkI 1 N k) (L':=mkL 1 N k) (fun i r q _=>by simp[fx,r]) (fun i r=>by simp[fx,r]);clear hr;go_wp2;go_ret;exact⟨rfl,s,A⟩
theorem qT(a b n m u v l w)(h:Bs w a n u l)(h':Bs w b m v l):
 Calls prog 35 #[.slice a n u,.slice b m v] w fun e w'=>e= .returned (.bool true)/\Below w.1.size w w':=by
 have y:m=n:=by rw[<-h.len_eq,h'.len_eq]
 subst y;have x:=k2 h.le h.le';unfold maxLen at x;go_enter func35,ntmps35;go_wp2;go_loopw [5] (fun i wr=> ∃k:Nat,k<=m/\i= .int .i64 k/\Below w.1.size w wr) (fun i _=>m-(intOf i).toNat)
 case atStart=>exact⟨0,kX _,rfl,kF⟩
 case round=>
  obtain⟨k,E,rfl,f⟩:=hrel;by_cases o:k<m
  ·obtain⟨s,c,rfl,q,g⟩:=h.at_ kH;obtain⟨t,d,rfl,r,j⟩:=h'.at_ kH;have z:wr.cell? ⟨s,c+k,none⟩=some (.int .u8 (l.getD k 0)):=by rw[f.cell (p:=⟨s,c+k,none⟩) q];exact g k o
   have A:wr.cell? ⟨t,d+k,none⟩=some (.int .u8 (l.getD k 0)):=by rw[f.cell (p:=⟨t,d+k,none⟩) r];exact j k o
   clear g j h h';generalize l.getD k 0=B at*;have C:(0:Int)<=(k:Int):=kH;have D:(k:Int)< (m:Int):=kH;go_wp2
   go_quiet (fail)
   go_wp2;go_roundw
   case rel=>exact⟨k+1,kH,by go_num,sP f _⟩
   case measure=>simp[intOf];omega
  ·go_wp2;go_ret;exact⟨rfl,f⟩
theorem Cx(g a b n m c d l w)(h:Bs w a n c l)(h':Bs w b m d l):
 Calls prog 156 #[.agg #[.int .i64 g,.slice a n c],.agg #[.int .i64 g,.slice b m d]] w fun e w'=>e= .returned (.bool true)/\Below w.1.size w w':=by
 go_enter func156,ntmps156;go_wp2_with fail;refine(qT a b n m c d l _ (h.below (eT w _ _)) (h'.below (eT w _ _))).mono ?_;rintro e w1 ⟨rfl,f⟩;go_wp2;go_ret;exact⟨rfl,(eT w _ _).trans (f.mono (eT w _ _).size)⟩
theorem Cy(a b n v x I C s N u D t E w)(h:RRecs 1 w a n v I C N D E)(h':RRecs 1 w b n x I s u t E):
 Calls prog 90 #[.slice a n v,.slice b n x] w fun e w'=>e= .returned (.bool true)/\Below w.1.size w w':=by
 have z:n<=maxLen:=k2 h.le h.le';unfold maxLen at z;have O:((n:Int) !=(n:Int))=false:=by simp
 go_enter func90,ntmps90;go_wp2;go_loopw [5] (fun i wr=> ∃k:Nat,k<=n/\i= .int .i64 k/\Below w.1.size w wr) (fun i _=>n-(intOf i).toNat)
 case atStart=>exact⟨0,kX _,rfl,kF⟩
 case round=>
  obtain⟨k,P,rfl,d⟩:=hrel;by_cases c:k<n
  ·obtain⟨r,f,rfl,l,o⟩:=h.at_ kH;obtain⟨j,g,rfl,m,q⟩:=h'.at_ kH;have F:wr.cell? ⟨r,f+k*2,none⟩=some (.int .i64 (I k 0)):=by rw[d.cell (p:=⟨r,f+k*2,none⟩) l];exact(o k c).1 0 kH
   have G:wr.cell? ⟨r,f+k*2+1,none⟩=some (.slice (C k) (N k) (D k)):=by rw[d.cell (p:=⟨r,f+k*2+1,none⟩) l];exact(o k c).2
   have H:wr.cell? ⟨j,g+k*2,none⟩=some (.int .i64 (I k 0)):=by rw[d.cell (p:=⟨j,g+k*2,none⟩) m];exact(q k c).1 0 kH
   have J:wr.cell? ⟨j,g+k*2+1,none⟩=some (.slice (s k) (u k) (t k)):=by rw[d.cell (p:=⟨j,g+k*2+1,none⟩) m];exact(q k c).2
   have A:=((h.data k c).below d);have B:=((h'.data k c).below d);clear o q h h';have L:(0:Int)<=(k:Int):=kH;have M:(k:Int)< (n:Int):=kH;go_wp2_with fail;go_region_with (go_at_call 156;refine(Cx (I k 0) (C k) (s k) (N k) (u k) (D k) (t k) (E k) _ (A.below kF.drew) (B.below kF.drew)).mono ?_;rintro e K ⟨rfl,j⟩)
   all_goals
    have y:Below w.1.size w K:=d.drew.trans (j.mono d.size);clear j F G H J A B;go_wp2;go_roundw
    case rel=>exact⟨k+1,kH,by go_num,y⟩
    case measure=>simp[intOf];omega
  ·go_wp2;go_ret;exact⟨rfl,d⟩
theorem Cz(a b n v x I I' C o N r D q E w)(h:RRecs 0 w a n v I C N D E)(h':RRecs 0 w b n x I' o r q E):
 Calls prog 89 #[.slice a n v,.slice b n x] w fun e w'=>e= .returned (.bool true)/\Below w.1.size w w':=by
 have z:n<=maxLen:=k2 h.le h.le';unfold maxLen at z;have L:((n:Int) !=(n:Int))=false:=by simp
 go_enter func89,ntmps89;go_wp2;go_loopw [5] (fun i wr=> ∃k:Nat,k<=n/\i= .int .i64 k/\Below w.1.size w wr) (fun i _=>n-(intOf i).toNat)
 case atStart=>exact⟨0,kX _,rfl,kF⟩
 case round=>
  obtain⟨k,M,rfl,c⟩:=hrel;by_cases d:k<n
  ·obtain⟨u,g,rfl,s,l⟩:=h.at_ kH;obtain⟨f,j,rfl,t,m⟩:=h'.at_ kH;have F:wr.cell? ⟨u,g+k,none⟩=some (.slice (C k) (N k) (D k)):=by rw[c.cell (p:=⟨u,g+k,none⟩) s];have:=(l k d).2;simpa using this
   have G:wr.cell? ⟨f,j+k,none⟩=some (.slice (o k) (r k) (q k)):=by rw[c.cell (p:=⟨f,j+k,none⟩) t];have:=(m k d).2;simpa using this
   have A:=((h.data k d).below c);have B:=((h'.data k d).below c);clear l m h h';have J:(0:Int)<=(k:Int):=kH;have K:(k:Int)< (n:Int):=kH;go_wp2_with fail;go_region_with (go_at_call 35;refine(qT (C k) (o k) (N k) (r k) (D k) (q k) (E k) _ (A.below kF.drew) (B.below kF.drew)).mono ?_;rintro e H ⟨rfl,f⟩)
   all_goals
    have y:Below w.1.size w H:=c.drew.trans (f.mono c.size);clear f F G A B;go_wp2;go_roundw
    case rel=>exact⟨k+1,kH,by go_num,y⟩
    case measure=>simp[intOf];omega
  ·go_wp2;go_ret;exact⟨rfl,c⟩
theorem CD(p I v a):(fm p I v).set p a=fm p I a:=by
 unfold fm;rw[n2 _ _ kP];simp
theorem uZ(p I V a j):∀n,j<n->(eD p I V n).set (j*(p+1)+p) a=eD p I (upd V j a) n
 |0,h=>by omega
 |n+1,h=>by
  rw[eD,eD];by_cases e:j=n
  ·subst e;rw[n2 _ _ (by rw[iF];omega),iF];rw[show j*(p+1)+p-j*(p+1)=p by omega,CD,fp];rw[lC p j (I':=I) (V':=upd V j a) (fun i b=>⟨fun r _=>rfl,by rw[Cs _ _ _ b]⟩)]
  ·have c:(j+1)*(p+1)<=n*(p+1):=oO _ kH;rw[ov,n8]at c;rw[List.set_append_left _ _ (by rw[iF];omega),uZ p I V a j n kH,eI _ _ _ kH]
theorem ORecs.putSlice{p e B g w n c I C N D O}(h':ORecs p e B w (some ⟨g,0,none⟩) n c I C N D O)(J:e≠5)(j)(K:j<n)(b f d z)(M:Own B w b f d z)(L:IsB z)(m:∀i,i<n->∀k,(Value.slice (C i) (N i) (D i)).ownBlock=some k->(Value.slice b f d).ownBlock≠some k):
 ORecs p e B (w.setCell ⟨g,j*(p+1)+p,none⟩ (.slice b f d)) (some ⟨g,0,none⟩) n c I (upd C j b) (upd N j f) (upd D j d) (upd O j z)/\w.grownBy (w.setCell ⟨g,j*(p+1)+p,none⟩ (.slice b f d)) (some g):=by
 have l:=World.ownsRow.stored h'.row (j*(p+1)+p) (.slice b f d);rw[uZ p I _ _ j n K]at l;have H:upd (fun i=>Value.slice (C i) (N i) (D i)) j (.slice b f d)=fun i=> .slice (upd C j b i) (upd N j f i) (upd D j d i):=by
  funext i;by_cases a:i=j
  ·subst a;simp[upd]
  ·simp[upd,a]
 rw[H]at l;have o:∀{v:Nat}{q:Option Addr}{t r:Nat}{A:List Int},Own v w q t r A->Own v (w.setCell ⟨g,j*(p+1)+p,none⟩ (.slice b f d)) q t r A:=fun{v q t r A} E=>by
  refine World.ownsRow.kept E l.2 ?_;cases h:(Value.slice q t r).ownBlock with
  |none=>exact kV rfl
  |some k=>exact kT fun a=>j7 E h'.row (s8 J) k h (by rw[a];rfl)
 refine⟨⟨l.1,fun i x=> ?_,fun i x=> ?_,fun i y F u k h=> ?_⟩,l.2⟩
 ·by_cases a:i=j
  ·subst a;rw[fp,fp,fp,fp];exact o M
  ·rw[eI _ _ _ a,eI _ _ _ a,eI _ _ _ a,eI _ _ _ a];exact o (h'.data i x)
 ·by_cases a:i=j
  ·subst a;rw[fp];exact L
  ·rw[eI _ _ _ a];exact h'.byte i x
 ·by_cases a:i=j
  ·subst a;rw[fp,fp,fp]at h;rw[eI _ _ _ kH,eI _ _ _ kH,eI _ _ _ kH];intro G;exact m y u k G h
  ·rw[eI _ _ _ a,eI _ _ _ a,eI _ _ _ a]at h;by_cases s:y=j
   ·subst s;rw[fp,fp,fp];exact m i kH k h
   ·rw[eI _ _ _ s,eI _ _ _ s,eI _ _ _ s];exact h'.sep1 i y F u k h
theorem ORecs.setSlice{p e B g f w n c I y N z A}(h:ORecs p e B f (some ⟨g,0,none⟩) n c I y N z A)(s:e≠5)(q:Below f.1.size f w)(j)(u:j<n)(a d b l)(o:Own f.1.size w a d b l)(x:IsB l)(r:B<=f.1.size):
 ORecs p e B (w.setCell ⟨g,j*(p+1)+p,none⟩ (.slice a d b)) (some ⟨g,0,none⟩) n c I (upd y j a) (upd N j d) (upd z j b) (upd A j l)/\w.grownBy (w.setCell ⟨g,j*(p+1)+p,none⟩ (.slice a d b)) (some g):=by
 refine(h.below q).putSlice s j u a d b l (o.mono r) x (fun i t k v m=> ?_);have g1:=(qX o k m).1;have g2:=(qX (h.data i t) k v).2;omega
theorem vd(V)(a:∀i,V i= .slice none 0 0)(I):∀n,eD 0 I V n=List.replicate n (.slice none 0 0)
 |0=>rfl
 |n+1=>by
  rw[eD,vd V a I n,List.replicate_succ'];simp[fm,a]
theorem CE(e B w g n)(h:w.ownsRow B e 1 (.slice (some ⟨g,0,none⟩) n n) n (List.replicate n (.slice none 0 0)))(I):ORecs 0 e B w (some ⟨g,0,none⟩) n n I (fun _=>none) (fun _=>0) (fun _=>0) (fun _=>[]):=
 ⟨by rw[vd _ (fun _=>rfl)];exact h,fun i _=>gR _ _,fun i _=>ir,fun i j _ _ k a=>by simp[Value.ownBlock]at a⟩
theorem CF:∀n,(madeCells #[Value.int .i64 0,.slice none 0 0] (n*2)).toList=eD 1 (fun _ _=>0) (fun _=> .slice none 0 0) n:=by
 intro n;apply o3;intro j;by_cases a:j<n*2
 ·have e:j=(j/2)*(1+1)+j%2:=kH;have b:(madeCells #[Value.int .i64 0,.slice none 0 0] (n*2)).toList[j]?=some (#[Value.int .i64 0,Value.slice none 0 0][j%2]?.getD default):=by
   simp[madeCells,a]
  rw[b];rw[e,qQ 1 _ _ (j%2) kH n (j/2) kH];rcases(show j%2=0\/j%2=1 by omega)with h|h<;>simp[h,fm,Nat.add_mod]
 ·rw[ot (by simp[madeCells];omega),ot (by rw[iF];omega)]
theorem CI(e B w g n)(h:w.ownsRow B e 2 (.slice (some ⟨g,0,none⟩) n n) n (madeCells #[Value.int .i64 0,.slice none 0 0] (n*2)).toList):ORecs 1 e B w (some ⟨g,0,none⟩) n n (fun _ _=>0) (fun _=>none) (fun _=>0) (fun _=>0) (fun _=>[]):=
 ⟨by rw[<-CF];exact h,fun i _=>gR _ _,fun i _=>ir,fun i j _ _ k a=>by simp[Value.ownBlock]at a⟩
structure DV where
 sa:Option Addr
 sc:Nat
 sA:Nat->Option Addr
 sN:Nat->Nat
 sC:Nat->Nat
 pa:Option Addr
 pc:Nat
 pA:Nat->Option Addr
 pN:Nat->Nat
 pC:Nat->Nat
structure DK where
 n:Nat
 S:Nat->List Int
 m:Nat
 At:Nat->Int
 D:Nat->List Int
def bC(d:DV)(K:DK):Value:= .agg #[.slice d.sa K.n d.sc,.slice d.pa K.m d.pc]
def zI:Nat->Nat->Int:=fun _ _=>0
def aI(K:DK):Nat->Nat->Int:=fun i _=>K.At i
structure RDisk(w:World)(d:DV)(K:DK):Prop where
 safe:RRecs 0 w d.sa K.n d.sc zI d.sA d.sN d.sC K.S
 pend:RRecs 1 w d.pa K.m d.pc (aI K) d.pA d.pN d.pC K.D
structure ODisk(B:Nat)(w:World)(d:DV)(K:DK):Prop where
 safe:ORecs 0 70 B w d.sa K.n d.sc zI d.sA d.sN d.sC K.S
 pend:ORecs 1 211 B w d.pa K.m d.pc (aI K) d.pA d.pN d.pC K.D
 sepX:∀i j,i<K.n->j<K.m->∀k,(Value.slice (d.sA i) (d.sN i) (d.sC i)).ownBlock=some k->(Value.slice (d.pA j) (d.pN j) (d.pC j)).ownBlock≠some k
theorem RDisk.below{w w' d K}(h:RDisk w d K)(a:Below w.1.size w w'):RDisk w' d K:=⟨h.safe.below a,h.pend.below a⟩
theorem ODisk.below{B w w' d K}(h:ODisk B w d K)(a:Below w.1.size w w'):ODisk B w' d K:=⟨h.safe.below a,h.pend.below a,h.sepX⟩
theorem ODisk.reads{B w d K}(h:ODisk B w d K):RDisk w d K:=⟨h.safe.reads,h.pend.reads⟩
theorem CJ(d a K w)(h:RDisk w d K)(h':RDisk w a K):
 Calls prog 44 #[bC d K,bC a K] w fun e w'=>e= .returned (.bool true)/\Below w.1.size w w':=by
 unfold bC;go_enter func44,ntmps44;go_wp2_with fail;refine(Cz d.sa a.sa K.n d.sc a.sc zI zI d.sA a.sA d.sN a.sN d.sC a.sC K.S _ (h.safe.below (eT w _ _)) (h'.safe.below (eT w _ _))).mono ?_;rintro e w1 ⟨rfl,b⟩;have j:w.1.size+1<w1.1.size:=by have:=b.size;simp at this;omega
 have c:=(eT w _ _).trans (b.mono (eT w _ _).size);have k0:w1.cell? ⟨w.1.size,1,none⟩=some (.slice d.pa K.m d.pc):=by rw[b.cell (p:=⟨w.1.size,1,none⟩) (by simp;omega)];simp
 have g:w1.cell? ⟨w.1.size+1,1,none⟩=some (.slice a.pa K.m a.pc):=by rw[b.cell (p:=⟨w.1.size+1,1,none⟩) kP];simp
 clear b;go_wp2_with fail;refine(Cy d.pa a.pa K.m d.pc a.pc (aI K) d.pA a.pA d.pN a.pN d.pC a.pC K.D _ (h.pend.below c) (h'.pend.below c)).mono ?_;rintro e i ⟨rfl,f⟩;go_wp2;go_ret;exact⟨rfl,c.trans (f.mono c.size)⟩
def dmk(d:DV)(K:DK)(k:Int):Int:=mk 1 d.pN (mk 0 d.sN k K.n) K.m
structure Marked(B:Nat)(w:World)(d:DV)(K:DK)(k:Int):Prop where
 safe:ORecs 0 70 B w d.sa K.n d.sc (mkI 0 d.sN k) d.sA d.sN d.sC (mkL 0 d.sN k)
 pend:ORecs 1 211 B w d.pa K.m d.pc (mkI 1 d.pN (mk 0 d.sN k K.n)) d.pA d.pN d.pC (mkL 1 d.pN (mk 0 d.sN k K.n))
structure Small(d:DV)(K:DK):Prop where
 n:K.n<=1048576
 m:K.m<=1048576
 sN:∀i,i<K.n->d.sN i<=1048576
 pN:∀i,i<K.m->d.pN i<=1048576
 all:dmk d K 1<=1099511627776
def j8(d:DV)(K:DK):Nat->Prop:=fun k=>nX K.n d.sA d.sN d.sC k\/mC d.pa K.m d.pc d.pA d.pN d.pC k
theorem Turned.mono{T a w w'}(h:Turned T w w')(b:∀k,T k->a k):Turned a w w':=⟨h.os,h.tape,h.output,h.size,fun k c=>h.block k (fun d=>c (b k d))⟩
theorem ODisk.rng{B w d K}(h:ODisk B w d K):∀k,j8 d K k->B<=k/\k<w.1.size:=by
 intro k c;rcases c with⟨i,a,e⟩|e|⟨j,b,e⟩
 ·exact qX (h.safe.data i a) k e
 ·exact qX h.pend.row k e
 ·exact qX (h.pend.data j b) k e
theorem CL(B d K w)(h:ODisk B w d K)(f:Small d K)(x:B<=w.1.size):
 Calls prog 55 #[bC d K,.int .i64 1] w fun e w'=>e= .returned (.int .i64 (dmk d K 1))/\Below B w w'/\Turned (j8 d K) (w.alloc (.cells #[.slice d.sa K.n d.sc,.slice d.pa K.m d.pc] 37)) w'/\Marked B w' d K 1:=by
 have E:=lD 0 d.sN 1 K.n;have F:=lD 1 d.pN (mk 0 d.sN 1 K.n) K.m;have o:Hid (dmk d K 1<=1099511627776):=f.all;have s:=(p4 w.1.size w).alloc kE (.cells #[.slice d.sa K.n d.sc,.slice d.pa K.m d.pc] 37);have n:=h.below s;have p:=o.out;unfold dmk at p;unfold bC;go_enter func55,ntmps55;go_wp2_with fail;refine(Cu B d.sa K.n d.sc zI d.sA d.sN d.sC K.S 1 _ n.safe f.n f.sN kH kH).mono ?_;rintro e w1 ⟨rfl,m,l⟩;have g:=n.pend.turned m
  (fun k a⟨i,b,e⟩=>j7 n.pend.row (n.safe.data i b) kN k a e)
  (fun j c k a⟨i,b,e⟩=>h.sepX i j b c k e a)
 have t:Within B w.1.size _ w1:=m.within (fun k⟨i,b,e⟩=>qX (h.safe.data i b) k e);have D:w1.1.size=w.1.size+1:=by have:=m.size;simpa using this
 have y:w1.cell? ⟨w.1.size,1,none⟩=some (.slice d.pa K.m d.pc):=by
  rw[r8 (w:=w.alloc (.cells #[.slice d.sa K.n d.sc,.slice d.pa K.m d.pc] 37)) (t.block w.1.size (kT kE))];simp
 have v:Hid _:=m;clear D m;go_wp2_with fail;refine(Cw B d.pa K.m d.pc (aI K) d.pA d.pN d.pC K.D (mk 0 d.sN 1 K.n) _ g f.m f.pN kH kH).mono ?_;rintro e C ⟨rfl,r,z⟩;have A:=l.turned r
  (fun k a q=>by
 rcases q with e|⟨j,c,e⟩
 ·exact j7 l.row g.row kN k a e
 ·exact j7 l.row (g.data j c) kN k a e)
  (fun i b k a q=>by
 rcases q with e|⟨j,c,e⟩
 ·exact j7 (l.data i b) g.row kN k a e
 ·exact h.sepX i j b c k a e)
 have u:Turned (j8 d K) _ C:=(v.out.mono (fun k h=>kV h)).trans (r.mono (fun k h=>kT h));clear y g l r t;go_wp2;go_ret;exact⟨rfl,(s.mono x).trans (u.within (fun k a=>h.rng k a)).below,u,A,z⟩
theorem ve(k:Nat)(z)(e:z=(k:Int))(f:k<=1048576)(w):
 (Instr.makeSlice 70 (.int .i64 z) (.int .i64 z)).run prog w= .ok (.slice (some ⟨w.1.size,0,none⟩) k k) (w.alloc (.cells (madeCells #[.int .u8 0] k) 5)):=by
 obtain⟨i,d,a,b,c⟩:=sk i7;subst e;have hr:=run_make (P:=prog) w 70 5 i _ rC d a .i64 .i64 k k kH (Int.le_refl _) (by rw[c];omega) kH;rw[hr,b];simp[Value.cells]
theorem vf:(prog.info? 70).map (fun i=>(i.zero,i.size,i.bytes))=some (some (.slice none 0 0),1,24):=kO
theorem CN(n):(madeCells #[Value.slice none 0 0] n).toList=List.replicate n (Value.slice none 0 0):=toList_madeCells_one _ _
def eJ(id kind n:Int):Bool:=decide (0<=id/\id<=1023/\1<=kind/\kind<=4/\n<=240)
theorem CP(id a n w)(h:eJ id a n=true):
 Calls prog 233 #[.agg #[.int .i64 id,.int .i64 a,.int .i64 n]] w fun e w'=>e= .returned (.bool true)/\Below w.1.size w w':=by
 obtain⟨b,c,d,f,g⟩:=r6 h;clear h;go_enter func233,ntmps233;go_wp2;go_ret;exact⟨rfl,bAl _ _⟩
theorem CQ(id a n w)(h:eJ id a n=false):
 Calls prog 233 #[.agg #[.int .i64 id,.int .i64 a,.int .i64 n]] w fun e w'=>e= .returned (.bool false)/\Below w.1.size w w':=by
 have h':=of_decide_eq_false h;clear h;by_cases c:0<=id
 ·by_cases d:id<1024
  ·by_cases f:1<=a
   ·by_cases g:a<=4
    ·have i:¬n<=240:=kH;clear h';have b:decide (n<=240)=false:=by simpa using i
     go_enter func233,ntmps233;go_wp2;go_ret;exact⟨rfl,bAl _ _⟩
    ·clear h';have b:decide (a<=4)=false:=by simpa using g
     go_enter func233,ntmps233;go_wp2;go_ret;exact⟨rfl,bAl _ _⟩
   ·clear h';have b:decide (1<=a)=false:=by simpa using f
    go_enter func233,ntmps233;go_wp2;go_ret;exact⟨rfl,bAl _ _⟩
  ·clear h';have b:decide (id<1024)=false:=by simpa using d
   go_enter func233,ntmps233;go_wp2;go_ret;exact⟨rfl,bAl _ _⟩
 ·clear h';have b:decide (0<=id)=false:=by simpa using c
  go_enter func233,ntmps233;go_wp2;go_ret;exact⟨rfl,bAl _ _⟩
def head(id kind n:Int):List Int:=num id 4++[kind,0]++num n 2++num 0 4
theorem CR(id b n w)(h:eJ id b n=true)(G:0<=n):
 Calls prog 236 #[.agg #[.int .i64 id,.int .i64 b,.int .i64 n]] w fun e w'=> ∃a c,e= .returned (.slice a 12 c)/\Below w.1.size w w'/\Own w.1.size w' a 12 c (head id b n):=by
 obtain⟨F,N,O,P,Q⟩:=r6 h;clear h;go_enter func236,ntmps236;go_wp2_with fail;refine(lp (w.1.size+1) none 0 0 [] id 4 _ (gR _ _) kP kH F kH kH).mono ?_;rintro e w1 ⟨u,A,rfl,d,j⟩;have H:w1.cell? ⟨w.1.size,1,none⟩=some (.int .i64 b):=by rw[d.cell (p:=⟨w.1.size,1,none⟩) (n4 _)];simp
 have s:w1.cell? ⟨w.1.size,2,none⟩=some (.int .i64 n):=by rw[d.cell (p:=⟨w.1.size,2,none⟩) (n4 _)];simp
 have K:w.1.size+1<=w1.1.size:=by have:=d.size;simpa using this
 have m:=(bAl _ _).trans (d.mono (n0 _));clear d;go_wp2_with (at_builtin;refine db rfl _ _ rfl (w.1.size+1) u 4 A ([]++num id 4) rfl ?own _ 2 2 [b,0] rfl ?bs ?len ?B ?_)
 case own=>exact rc j _
 case bs=>exact um w1 b 0 kH kH kH kH
 case len=>omega
 case B=>simp;omega
 intro v C t k f _;have I:t.cell? ⟨w.1.size,2,none⟩=some (.int .i64 n):=by rw[f.cell (p:=⟨w.1.size,2,none⟩) (n4 _),((p4 w1.1.size w1).alloc kE _).cell (p:=⟨w.1.size,2,none⟩) K];exact s
 have L:w.1.size+1<=t.1.size:=by have:=f.size;simp at this;omega
 have o:=(m.alloc m.size _).trans (f.mono (n0 _));clear f H s m j;go_wp2_with fail;refine(lp (w.1.size+1) v 6 C _ n 2 _ k L kH G kH kH).mono ?_;rintro e J ⟨x,D,rfl,g,l⟩;have M:w.1.size+1<=J.1.size:=by have:=g.size;omega
 have q:=o.trans (g.mono (n0 _));clear g o k I;go_wp2_with fail;refine(lp (w.1.size+1) x 8 D _ 0 4 _ l M kH kH kH kH).mono ?_;rintro e R ⟨y,E,rfl,i,r⟩;have z:=q.trans (i.mono (n0 _));clear i q l;go_wp2;go_ret;exact⟨y,E,rfl,z,r.mono (n0 _)⟩
theorem vg:∀{l k:List Int},IsB l->IsB k->Lib.bytesOf l=Lib.bytesOf k->l=k
 |[],[],_,_,_=>rfl
 |[],y::k,_,_,h=>by simp[Lib.bytesOf]at h
 |x::l,[],_,_,h=>by simp[Lib.bytesOf]at h
 |x::l,y::k,b,a,h=>by
  simp only[Lib.bytesOf,k4,List.cons.injEq]at h;have d:=nK b;have e:=nK a;have c:=vg (nJ b) (nJ a) h.2;have f:x.toNat%256=y.toNat%256:=by have:=rx UInt8.toNat h.1;simpa using this
  have:x=y:=kH;rw[this,c]
theorem CV(a b n m f g l k w)(h:Bs w a n f l)(h':Bs w b m g k)(r:0<n)(q:0<m):
 Calls prog 235 #[.slice a n f,.slice b m g] w fun e w'=>e= .returned (.bool (decide (l=k)))/\w'=w:=by
 obtain⟨j,s,rfl,_,c⟩:=h.at_ r;obtain⟨o,t,rfl,_,d⟩:=h'.at_ q;have g1:=run_convert_bytes_arg (P:=prog) w 70 5 rC sM j s n f l h.len_eq c 9 s4;have g2:=run_convert_bytes_arg (P:=prog) w 70 5 rC sM o t m g k h'.len_eq d 9 s4;have i:Hid ((Lib.bytesOf l==Lib.bytesOf k)=decide (l=k)):=by
  show(Lib.bytesOf l==Lib.bytesOf k)=decide (l=k);by_cases e:l=k
  ·rw[e];simp
  ·rw[q5 e,sV];exact fun p=>e (vg h.byte h'.byte p)
 rw[<-i.out,<-Lib.strOfNums_toList,<-Lib.strOfNums_toList];clear h h' c d;go_enter func235,ntmps235;go_wp2;go_ret;exact⟨rfl,rfl⟩
def bo(l:List Int)(i m:Nat):List Int:=(l.drop i).take m
theorem CW(b off d l w)(h:Bs w (some ⟨b,off,none⟩) 256 d l):
 Calls prog 232 #[.slice (some ⟨b,off,none⟩) 256 d] w fun e w'=>e= .returned (.agg #[.int .i64 (low (bo l 4 4)),.int .i64 (l.getD 8 0),.int .i64 (low (bo l 10 2)),.int .i64 (low (bo l 0 4))])/\Below w.1.size w w':=by
 have W:256<=d:=h.le;have u:d<=maxLen:=h.le';have E:Hid (Bs w (some ⟨b,off+4,none⟩) 4 (d-4) (bo l 4 4)):=h.piece 4 4 kH _ kH kH;have x:Hid (Bs w (some ⟨b,off+10,none⟩) 2 (d-10) (bo l 10 2)):=h.piece 10 2 kH _ kH kH;have Q:Hid (Bs w (some ⟨b,off,none⟩) 4 d (bo l 0 4)):=h.piece 0 4 kH _ kH kH;have J:=fun a n c v r s=>lv a n c (bo l 4 4) v r s;have A:=fun a n c v r s=>lv a n c (bo l 10 2) v r s;have I:=fun a n c v r s=>lv a n c (bo l 0 4) v r s;generalize low (bo l 4 4)=k at*;generalize low (bo l 10 2)=i at*;generalize low (bo l 0 4)=L at*;have P:Hid _:=J;have D:Hid _:=A;have O:Hid _:=I;clear J A I;obtain⟨ah,X,e,z,H⟩:=h.at_ kH;cases e;have B:=H 8 kH;have ad:=h.byte 8;generalize l.getD 8 0=g at*;have j:=(p4 w.1.size w).alloc kE (.cells #[.int .i64 0,.int .i64 0,.int .i64 0,.int .i64 0] 334);have ai:(w.alloc (.cells #[.int .i64 0,.int .i64 0,.int .i64 0,.int .i64 0] 334)).cell? ⟨b,off+8,none⟩=some (.int .u8 g):=by rw[j.cell (p:=⟨b,off+8,none⟩) z];exact B
 have N:Hid (∀v,Below w.1.size w v->v.cell? ⟨b,off+8,none⟩=some (.int .u8 g)):=fun v T=>by rw[T.cell (p:=⟨b,off+8,none⟩) z];exact B
 have Z:=s2 w (.cells #[.int .i64 0,.int .i64 0,.int .i64 0,.int .i64 0] 334);have ac:(w.alloc (.cells #[.int .i64 0,.int .i64 0,.int .i64 0,.int .i64 0] 334)).1.size=w.1.size+1:=by simp
 unfold maxLen at u;have aH:(8:Int)<=(d:Int):=kH;have aO:(12:Int)<=(d:Int):=kH;have s3:(4:Int)<=(d:Int):=kH;have aX:¬d=4:=kH;have af:¬d=10:=kH;have t0:¬d=0:=kH;clear H h B;go_enter func232,ntmps232;go_wp2_with fail;generalize G:w.alloc (.cells #[.int .i64 0,.int .i64 0,.int .i64 0,.int .i64 0] 334)=q at*;clear G;have Y:=fun o=>(p4 q.1.size q).alloc kE o;have ae:IntKind.i64.wrap g=g:=by simp[IntKind.wrap,IntKind.bits,IntKind.signed];omega
 have ab:=fun o=>((Y o).block w.1.size kH).trans Z;have R:Hid _:=ab;have t:True:=trivial;go_region_held3 (fun v=>v.cell? ⟨b,off+8,none⟩=some (.int .u8 g))
  (first|exact N.out _ (j.drew.alloc j.drew.size _)|go_keep)
  (first
  |(go_at_call 96;have S:=t;refine(P.out _ _ _ _ ?_ ?_).mono ?_;(first|exact E.out.below j.drew|exact E.out.below (j.drew.alloc j.drew.size _));omega;rintro e w' ⟨rfl,rfl⟩;clear t S)
  |(go_at_call 96;refine(D.out _ _ _ _ ?_ ?_).mono ?_;(first|exact x.out.below j.drew|exact x.out.below (j.drew.alloc j.drew.size _));omega;rintro e w' ⟨rfl,rfl⟩))
 all_goals
  go_wp2_with fail;have M:=R.out (.cells #[.int .i64 k,.int .i64 g,.int .i64 i] 332);have C:=s2 q (.cells #[.int .i64 k,.int .i64 g,.int .i64 i] 332);rw[ac]at C;have K:=(j.alloc j.size (.cells #[.int .i64 k,.int .i64 g,.int .i64 i] 332)).drew;have f:(q.alloc (.cells #[.int .i64 k,.int .i64 g,.int .i64 i] 332)).drew.heap[w.1.size]?= _:=M;have m:(q.alloc (.cells #[.int .i64 k,.int .i64 g,.int .i64 i] 332)).drew.heap[w.1.size+1]?= _:=C;generalize (q.alloc (.cells #[.int .i64 k,.int .i64 g,.int .i64 i] 332)).drew=ag at*;have U:=so _ _ 0 _ _ _ f;have g1:=so _ _ 1 _ _ _ f;have g2:=so _ _ 2 _ _ _ f;have V:=so _ _ 3 _ _ _ f;have ak:=frozen_of_row _ _ 0 _ _ f;have f1:=frozen_of_row _ _ 1 _ _ f;have am:=frozen_of_row _ _ 2 _ _ f;have an:=frozen_of_row _ _ 3 _ _ f;have ap:=so _ _ 0 _ _ _ m;have ar:=so _ _ 1 _ _ _ m;have aw:=so _ _ 2 _ _ _ m;have F:Hid _:=K;clear M C f m K;go_region_with (go_at_call 96;refine(O.out _ _ _ _ ?_ ?_).mono ?_;exact Q.out.below F.out.drew;omega;rintro e w' ⟨rfl,rfl⟩)
  all_goals
   go_wp2;have y:=(((F.out.setCell (p:=⟨w.1.size,0,none⟩) kE (.int .i64 k)).setCell (p:=⟨w.1.size,1,none⟩) kE (.int .i64 g)).setCell (p:=⟨w.1.size,2,none⟩) kE (.int .i64 i)).setCell (p:=⟨w.1.size,3,none⟩) kE (.int .i64 L);refine p6 (v:= .agg #[.int .i64 k,.int .i64 g,.int .i64 i,.int .i64 L]) (by simp[results,results232,go_sem,U,g1,g2,V]) rfl ⟨rfl,?_⟩
   first|exact y.drew|exact y
theorem CX(a n d l w)(h:Bs w a n d l)(M:n<=1048576):
 Calls prog 243 #[.slice a n d] w fun e w'=>e= .returned (.int .i64 (crc l))/\w'=w:=by
 go_enter func243,ntmps243;go_wp2
 go_loop [3,4] (fun x i=> ∃k:Nat,k<=n/\i= .int .i64 k/\x= .int .i64 (ee l k:Nat)) (fun _ i=>n-(intOf i).toNat)
 case atStart=>exact⟨0,kX _,rfl,rfl⟩
 case round=>
  obtain⟨k,K,rfl,rfl⟩:=hrel;have o:=nN h.byte k;have D:Hid (crc l=ee l l.length^^^4294967295):=rfl;have p:Hid (ee l (k+1)=fZ 8 (ee l k^^^(l.getD k 0).toNat)):=rfl;have E:Hid (l.length=n):=h.len_eq;by_cases v:k<n
  ·obtain⟨b,off,rfl,H,t⟩:=h.at_ kH;have u:=t k v;have s:=h.byte k;obtain⟨B,g⟩:∃B:Nat,l.getD k 0=(B:Int):=⟨(l.getD k 0).toNat,kH⟩;rw[g]at u s;have q:Hid (ee l (k+1)=fZ 8 (ee l k^^^B)):=by have:=p.out;rw[g,Int.toNat_natCast]at this;exact this
   clear p t h g;generalize ee l k=F at*;have z:=gI F B o kH;have G:F^^^B<4294967296:=lu o kH;go_wp2;generalize F^^^B=C at*
   go_loop [3,5] (fun x j=> ∃m:Nat,m<=8/\j= .int .i64 m/\x= .int .i64 (fZ m C:Nat)) (fun _ j=>8-(intOf j).toNat)
   case atStart=>exact⟨0,kX _,rfl,rfl⟩
   case round=>
    obtain⟨m,L,rfl,rfl⟩:=hrel;have J:=nM G m;by_cases I:m<8
    ·have r:Hid (fZ (m+1) C=gW (fZ m C)):=rfl;generalize fZ m C=Z at*;have A:bits .xor .i64 ((Z:Int)/2) 3988292384=((Z/2^^^3988292384:Nat):Int):=gI (Z/2) 3988292384 kH kH;by_cases c:Z%2=1
     ·have f:Hid (gW Z=Z/2^^^3988292384):=uK c;have y:((Z:Int)%2==1)=true:=by simp;omega
      clear c;go_wp2
      go_round
      case rel=>exact⟨m+1,kH,by go_num,by rw[r.out,f.out]⟩
      case measure=>simp[intOf];omega
     ·have f:Hid (gW Z=Z/2):=uL c;have y:((Z:Int)%2==1)=false:=by simp;omega
      clear c A;go_wp2
      go_round
      case rel=>exact⟨m+1,kH,by go_num,by rw[r.out,f.out];go_num⟩
      case measure=>simp[intOf];omega
    ·have e:m=8:=kH;subst e;go_wp2
     go_round
     case rel=>exact⟨k+1,kH,by go_num,by rw[q.out]⟩
     case measure=>simp[intOf];omega
  ·have e:k=n:=kH;subst e;have z:bits .xor .i64 (ee l k:Int) 4294967295=((ee l k^^^4294967295:Nat):Int):=gI _ 4294967295 o kH;go_wp2;go_ret;exact⟨by rw[D.out,E.out];rfl,rfl⟩
theorem CY(a n f l w)(h:Bs w a n f l)(M:n<=1048576):
 Calls prog 234 #[.slice a n f] w fun e w'=>e= .returned (.int .i64 (crc l))/\w'=w:=by
 go_enter func234,ntmps234;go_wp2
 go_loop [3,9] (fun x i=> ∃k:Nat,k<=n/\i= .int .i64 k/\x= .int .u32 (ee l k:Nat)) (fun _ i=>n-(intOf i).toNat)
 case atStart=>exact⟨0,kX _,rfl,rfl⟩
 case round=>
  obtain⟨k,K,rfl,rfl⟩:=hrel;have c:=nN h.byte k;have D:Hid (crc l=ee l l.length^^^4294967295):=rfl;have p:Hid (ee l (k+1)=fZ 8 (ee l k^^^(l.getD k 0).toNat)):=rfl;have E:Hid (l.length=n):=h.len_eq;by_cases v:k<n
  ·obtain⟨b,off,rfl,I,t⟩:=h.at_ kH;have u:=t k v;have s:=h.byte k;obtain⟨B,o⟩:∃B:Nat,l.getD k 0=(B:Int):=⟨(l.getD k 0).toNat,kH⟩;rw[o]at u s;have q:Hid (ee l (k+1)=fZ 8 (ee l k^^^B)):=by have:=p.out;rw[o,Int.toNat_natCast]at this;exact this
   clear p t h o;generalize ee l k=F at*;have z:=sX F B c kH;have G:F^^^B<4294967296:=lu c kH;go_wp2;generalize F^^^B=C at*
   go_loop [3,17] (fun x j=> ∃m:Nat,m<=8/\j= .int .i64 m/\x= .int .u32 (fZ m C:Nat)) (fun _ j=>8-(intOf j).toNat)
   case atStart=>exact⟨0,kX _,rfl,rfl⟩
   case round=>
    obtain⟨m,L,rfl,rfl⟩:=hrel;have H:=nM G m;by_cases J:m<8
    ·have r:Hid (fZ (m+1) C=gW (fZ m C)):=rfl;generalize fZ m C=Z at*;have A:bits .xor .u32 ((Z:Int)/2) 3988292384=((Z/2^^^3988292384:Nat):Int):=sX (Z/2) 3988292384 kH kH;by_cases d:Z%2=1
     ·have g:Hid (gW Z=Z/2^^^3988292384):=uK d;have y:((Z:Int)%2==1)=true:=by simp;omega
      clear d;go_wp2
      go_round
      case rel=>exact⟨m+1,kH,by go_num,by rw[r.out,g.out]⟩
      case measure=>simp[intOf];omega
     ·have g:Hid (gW Z=Z/2):=uL d;have y:((Z:Int)%2==1)=false:=by simp;omega
      clear d A;go_wp2
      go_round
      case rel=>exact⟨m+1,kH,by go_num,by rw[r.out,g.out];go_num⟩
      case measure=>simp[intOf];omega
    ·have e:m=8:=kH;subst e;go_wp2
     go_round
     case rel=>exact⟨k+1,kH,by go_num,by rw[q.out]⟩
     case measure=>simp[intOf];omega
  ·have e:k=n:=kH;subst e;have z:bits .xor .u32 (ee l k:Int) 4294967295=((ee l k^^^4294967295:Nat):Int):=sX _ 4294967295 c kH;have H:ee l k^^^4294967295<4294967296:=lu c kH;go_wp2;go_ret;exact⟨by rw[D.out,E.out];rfl,rfl⟩
theorem CZ:num 0 4=[0,0,0,0]:=kN
def ga(id kind:Int)(l:List Int):List Int:=head id kind l.length++l++List.replicate (240-l.length) 0
def page(id kind:Int)(l:List Int):List Int:=num (crc (ga id kind l)) 4++ga id kind l
def iv(id kind:Int)(l:List Int):List Int:=if eJ id kind l.length=true then page id kind l else []
theorem nY(id a n):(head id a n).length=12:=by simp[head,gS]
theorem vh{id a n}(h:eJ id a n=true):IsB (head id a n):=by
 obtain⟨b,c,d,e,f⟩:=r6 h;exact cY (cY (cY (fL _ _) (ul kH kH (fw kH kH))) (fL _ _)) (fL _ _)
theorem mD{id a n}(h:eJ id a n=true):n<=240:=(r6 h).2.2.2.2
theorem vi{id a l}(h:l.length<=240):(ga id a l).length=252:=by
 simp[ga,nY];omega
theorem qU{id a l}(h:eJ id a l.length=true)(b:IsB l):IsB (ga id a l):=
 cY (cY (vh h) b) (iL _)
theorem C7{id a l}(h:l.length<=240):(page id a l).length=256:=by
 simp[page,gS,vi h]
theorem Da{id a l}(h:eJ id a l.length=true)(b:IsB l):IsB (page id a l):=
 cY (fL _ _) (qU h b)
theorem Db{id a l}(b:IsB l):IsB (iv id a l):=by
 unfold iv;split
 ·exact Da (by assumption) b
 ·exact ir
def vj:Value->Nat| .slice _ n _=>n|_=>0
theorem Dc(id b a n c l w)(h:Bs w a n c l)(g:eJ id b n=true):
 Calls prog 219 #[.int .i64 id,.int .i64 b,.slice a n c] w fun e w'=> ∃N S,e= .returned (.tuple #[.slice N 256 S,.bool true])/\Below w.1.size w w'/\Own w.1.size w' N 256 S (page id b l):=by
 obtain⟨ba,bk,bl,bn,bp⟩:=r6 g;have W:=h.len_eq;have L:Hid (eJ id b n=true):=g;clear g;have K:Hid (l.length=n):=W;clear W;go_enter func219,ntmps219;go_wp2_with fail;refine(i8 id 4 _ ba kH kH).mono ?_;rintro e w1 ⟨aw,a4,rfl,m,X⟩;have bd:=m.size;go_wp2_with (at_builtin;refine db rfl _ _ rfl w.1.size aw 4 a4 (num id 4) rfl ?own _ 2 2 [b,0] rfl ?bs ?len ?B ?_)
 case own=>exact rc X _
 case bs=>exact um w1 b 0 kH kH kH kH
 case len=>omega
 case B=>simp;omega
 intro aH a5 bt Z t _;have C:=(m.alloc m.size _).trans t;clear t m X bd;go_wp2_with fail;refine(i8 n 2 _ kH kH kH).mono ?_;rintro e bu ⟨aO,a6,rfl,d,ab⟩;have z:=Z.below d;have D:=C.trans (d.mono C.size);have am:=D.size;have s3:=ab.bs (fL _ _);clear Z C d ab;go_wp2_with (at_builtin;refine db rfl _ _ rfl w.1.size aH 6 a5 (num id 4++[b,0]) rfl ?own aO 2 a6 (num n 2) rfl ?bs ?len ?B ?_)
 case own=>exact z
 case bs=>exact s3
 case len=>omega
 case B=>exact am
 intro aX a7 bb ac u _;have p:=D.trans u;have be:=p.size;clear u D z s3 am;go_wp2_with (at_builtin;refine db rfl _ _ rfl w.1.size aX 8 a7 (num id 4++[b,0]++num n 2) rfl ?own _ 4 4 [0,0,0,0] rfl ?bs ?len ?B ?_)
 case own=>exact rc ac _
 case bs=>exact BP bb
 case len=>omega
 case B=>simp;omega
 intro a0 a8 bv ad v _;have q:=(p.alloc p.size _).trans v;have an:=q.size;have ai:=h.below q;clear v p ac be;go_wp2_with (at_builtin;refine db rfl _ _ rfl w.1.size a0 12 a8 (num id 4++[b,0]++num n 2++[0,0,0,0]) rfl ?own a n c l rfl ?bs ?len ?B ?_)
 case own=>exact ad
 case bs=>exact ai
 case len=>omega
 case B=>exact an
 intro P U bc ae x _;have a2:=q.trans x;have af:Own w.1.size bc P (12+n) U (head id b n++l):=by simpa [head,CZ]using ae
 clear x q ad an ai ae;go_wp2_with fail;go_loopw [8] (fun o wr=> ∃j a c,j<=240-n/\o= .slice a (12+n+j) c/\Below w.1.size w wr/\Own w.1.size wr a (12+n+j) c (head id b n++l++List.replicate j 0)) (fun o _=>252-vj o)
 case atStart=>exact⟨0,P,U,kX _,rfl,a2,by simpa using af⟩
 case round=>
  obtain⟨j,A,E,bq,rfl,f,i⟩:=hrel;have J:=f.size;by_cases bi:j<240-n
  ·have bh:((12:Int)+(n:Int)+(j:Int))<252:=kH;go_wp2_with (at_builtin;refine db rfl _ _ rfl w.1.size A (12+n+j) E (head id b n++l++List.replicate j 0) rfl ?own _ 1 1 [0] rfl ?bs ?len ?B ?_)
   case own=>exact rc i _
   case bs=>exact cZ wr 0 kH kH
   case len=>omega
   case B=>simp;omega
   intro Q V I H y _;have a3:=(f.alloc f.size _).trans y;have ag:Own w.1.size I Q (12+n+(j+1)) V (head id b n++l++List.replicate (j+1) 0):=by
    rw[List.replicate_succ'];simp only[k5]at H ⊢;exact H
   clear y f i J H;go_wp2;go_roundw
   case rel=>exact⟨j+1,Q,V,kH,rfl,a3,ag⟩
   case measure=>simp[vj];omega
  ·have e:j=240-n:=kH;subst e;have F:12+n+(240-n)=252:=kH;have M:Hid (ga id b l=head id b n++l++List.replicate (240-n) 0):=by rw[Hid,ga,K.out]
   have k:Own w.1.size wr A 252 E (ga id b l):=by rw[M.out];rw[F]at i;exact i
   clear i;have G:=qU (by rw[K.out];exact L.out) h.byte;have bg:=uJ G;have ar:Hid (page id b l=num (crc (ga id b l)) 4++ga id b l):=rfl;generalize ga id b l=ap at*;rw[F];clear F M;go_wp2_with fail;refine(CX _ _ _ ap _ (k.bs G) kH).mono ?_;rintro e I ⟨rfl,rfl⟩;go_wp2_with fail;refine(i8 (crc ap) 4 _ kH kH kH).mono ?_;rintro e bw ⟨a1,a9,rfl,r,ah⟩;have ak:=(k.below r).bs G;have bf:=r.size;go_wp2_with (at_builtin;refine db rfl _ _ rfl I.1.size a1 4 a9 (num (crc ap) 4) rfl ?own A 252 E ap rfl ?bs ?len ?B ?_)
   case own=>exact ah
   case bs=>exact ak
   case len=>omega
   case B=>exact bf
   intro O T bj Y s _;have R:=f.trans ((r.trans s).mono J);clear k r ah ak s;go_wp2
   go_ret2
   exact⟨O,T,rfl,R,by rw[ar.out];exact Y.mono J⟩
theorem Dd(id b a)(n c:Nat)(w)(o:n<=1048576)(f:eJ id b n=false):
 Calls prog 219 #[.int .i64 id,.int .i64 b,.slice a n c] w fun e w'=> ∃g h,e= .returned (.tuple #[.slice g 0 h,.bool false])/\Below w.1.size w w'/\Own w.1.size w' g 0 h []:=by
 have h':=of_decide_eq_false f;clear f;have d:Own w.1.size (w.alloc (.cells #[] 5)) (some ⟨w.1.size,0,none⟩) 0 0 []:=dZ w [] 0 rfl kH _ kE;by_cases i:id<0
 ·clear h';go_enter func219,ntmps219;go_wp2
  go_ret2
  exact⟨_,_,rfl,bAl _ _,d⟩
 ·by_cases j:1023<id
  ·clear h';go_enter func219,ntmps219;go_wp2
   go_ret2
   exact⟨_,_,rfl,bAl _ _,d⟩
  ·by_cases k:b<1
   ·clear h';go_enter func219,ntmps219;go_wp2
    go_ret2
    exact⟨_,_,rfl,bAl _ _,d⟩
   ·by_cases l:4<b
    ·clear h';go_enter func219,ntmps219;go_wp2
     go_ret2
     exact⟨_,_,rfl,bAl _ _,d⟩
    ·have m:(240:Int)< (n:Int):=kH;clear h';go_enter func219,ntmps219;go_wp2
     go_ret2
     exact⟨_,_,rfl,bAl _ _,d⟩
theorem qV{id a l}(h:eJ id a l.length=true):iv id a l=page id a l:=by unfold iv;rw[qb h]
theorem De{id a l}(h:eJ id a l.length=false):iv id a l=[]:=by unfold iv;rw[q4 (by simp[h])]
theorem Df(id b a n c l w)(h:Bs w a n c l)(k:n<=1048576):
 Calls prog 219 #[.int .i64 id,.int .i64 b,.slice a n c] w fun e w'=> ∃g i,e= .returned (.tuple #[.slice g (iv id b l).length i,.bool (eJ id b n)])/\Below w.1.size w w'/\Own w.1.size w' g (iv id b l).length i (iv id b l):=by
 cases d:eJ id b n with
 |true=>
  have f:=qV (l:=l) (by rw[h.len_eq];exact d);have j:(page id b l).length=256:=C7 (by have:=mD d;have:=h.len_eq;omega);rw[f,j];exact Dc id b a n c l w h d
 |false=>
  have f:=De (l:=l) (by rw[h.len_eq];exact d);rw[f];exact Dd id b a n c w k d
def sz(l:List Int):Int:=low (bo l 10 2)
def kd(l:List Int):Int:=l.getD 8 0
def bm(l:List Int):List Int:=bo l 16 (sz l).toNat
def dh(id:Int)(l:List Int):Prop:=l.length=256/\eJ id (kd l) (sz l)=true/\page id (kd l) (bm l)=l
def nZ(id:Int)(l:List Int):Prop:=l.length=256/\low (bo l 4 4)=id/\eJ id (kd l) (sz l)=true/\low (bo l 0 4)=(crc (l.drop 4):Int)/\head id (kd l) (sz l)=bo l 4 12/\ja (l.drop (16+(sz l).toNat))=true
theorem n9{l}(h:IsB l)(i m):IsB (bo l i m):=dR (ff h i) m
theorem qW{l i m}(h:i+m<=l.length):(bo l i m).length=m:=by unfold bo;rw[lw,k3];omega
theorem qY{l}(h:IsB l):0<=sz l:=(gG (n9 h 10 2)).1
theorem qZ(l i m):l.drop i=bo l i m++l.drop (i+m):=by
 unfold bo;rw[<-m0];exact(List.take_append_drop m (l.drop i)).symm
theorem Dg{id l}(j:IsB l):dh id l↔nZ id l:=by
 have E:=qY j;constructor
 ·rintro⟨k,b,w⟩;have v:=mD b;have a:(bm l).length=(sz l).toNat:=qW kH;have d:((bm l).length:Int)=sz l:=by rw[a];omega
  obtain⟨s,B,C,n,D⟩:=r6 b;generalize e:ga id (kd l) (bm l)=c;have z:c.length=252:=by rw[<-e];exact vi kH
  have o:IsB c:=by rw[<-e];exact qU (by rw[d];exact b) (n9 j 16 _)
  have e0:l=num (crc c) 4++c:=by rw[<-e];exact w.symm
  have i:l.drop 4=c:=by
   have:(num (crc c) 4++c).drop 4=c:=by rw[o4 (by simp[gS])];simp[List.drop_of_length_le,gS]
   rw[<-e0]at this;exact this
  have y:bo l 0 4=num (crc c) 4:=by
   have:(num (crc c) 4++c).take 4=num (crc c) 4:=by rw[oM (by simp[gS])];simp[List.take_of_length_le,gS]
   rw[<-e0]at this;simpa [bo]using this
  have f:c=head id (kd l) (sz l)++(bm l++List.replicate (240-(bm l).length) 0):=by rw[<-e];unfold ga;rw[d,k5]
  have h:bo l 4 12=head id (kd l) (sz l):=by
   unfold bo;rw[i,f,oM (by simp[nY])];exact mm (by simp[nY])
  have r:bo l 4 4=num id 4:=by
   have:bo l 4 4=(bo l 4 12).take 4:=by unfold bo;rw[List.take_take];rfl
   rw[this,h];unfold head;rw[k5,k5,oM (by simp[gS])];exact mm (by simp[gS])
  have p:=uJ o;refine⟨k,?_,b,?_,h.symm,?_⟩
  ·rw[r];exact qG 4 id s (by have:(256:Int)^4=4294967296:=kN;omega)
  ·rw[y,i];exact qG 4 _ kH (by have:(256:Int)^4=4294967296:=kN;omega)
  ·have m:l.drop (16+(sz l).toNat)=List.replicate (240-(bm l).length) 0:=by
    have t:l.drop (16+(sz l).toNat)=c.drop (12+(sz l).toNat):=by rw[<-i,m0];congr 1;omega
    rw[t,f,<-k5];rw[show 12+(sz l).toNat=(head id (kd l) (sz l)++bm l).length by rw[kY,nY,a]];exact List.drop_left
   rw[m];exact q6 kP
 ·rintro⟨k,A,b,p,u,x⟩;have v:=mD b;have a:(bm l).length=(sz l).toNat:=qW kH;have d:((bm l).length:Int)=sz l:=by rw[a];omega
  have g:=r6 x;have e:ga id (kd l) (bm l)=l.drop 4:=by
   unfold ga;rw[d,u,k5,qZ l 4 12,show 4+12=16 from rfl,qZ l 16 (sz l).toNat];have q:(l.drop (16+(sz l).toNat)).length=240-(bm l).length:=by rw[k3,a];omega
   rw[q]at g;rw[g]
   rfl
  refine⟨k,b,?_⟩;unfold page;rw[e,<-p];have n:(bo l 0 4).length=4:=qW kH;have:=jX (n9 j 0 4);rw[n]at this;rw[this];have:=qZ l 0 4;simp only[List.drop_zero,ld]at this;exact this.symm
def nmB(used id:Int):Bool:=decide (id=0\/(2<=id/\id<used))
def j9(gen used:Int):Bool:=decide (1<=gen/\gen<=1000000000000/\2<=used/\used<=1024)
def gY(gen root used free:Int):Bool:=j9 gen used&&(nmB used root&&nmB used free)
theorem Dh(c root b a id w)(h:(id==0)=true):
 Calls prog 183 #[.agg #[.int .i64 c,.int .i64 root,.int .i64 b,.int .i64 a],.int .i64 id] w fun e w'=>e= .returned (.bool true)/\Below w.1.size w w':=by
 go_enter func183,ntmps183;go_wp2;go_ret;exact⟨rfl,bAl _ _⟩
theorem Di(c root a b id w)(h:(id==0)=false)(d:2<=id)(f:id<a):
 Calls prog 183 #[.agg #[.int .i64 c,.int .i64 root,.int .i64 a,.int .i64 b],.int .i64 id] w fun e w'=>e= .returned (.bool true)/\Below w.1.size w w':=by
 go_enter func183,ntmps183;go_wp2;go_ret;exact⟨rfl,bAl _ _⟩
theorem Dj(c root b a id w)(h:(id==0)=false)(d:decide (2<=id)=false):
 Calls prog 183 #[.agg #[.int .i64 c,.int .i64 root,.int .i64 b,.int .i64 a],.int .i64 id] w fun e w'=>e= .returned (.bool false)/\Below w.1.size w w':=by
 go_enter func183,ntmps183;go_wp2;go_ret;exact⟨rfl,bAl _ _⟩
theorem Dk(c root a b id w)(h:(id==0)=false)(d:2<=id)(f:decide (id<a)=false):
 Calls prog 183 #[.agg #[.int .i64 c,.int .i64 root,.int .i64 a,.int .i64 b],.int .i64 id] w fun e w'=>e= .returned (.bool false)/\Below w.1.size w w':=by
 go_enter func183,ntmps183;go_wp2;go_ret;exact⟨rfl,bAl _ _⟩
theorem ra(c root a b id w):
 Calls prog 183 #[.agg #[.int .i64 c,.int .i64 root,.int .i64 a,.int .i64 b],.int .i64 id] w fun e w'=>e= .returned (.bool (nmB a id))/\Below w.1.size w w':=by
 by_cases h:id=0
 ·rw[show nmB a id=true from q6 (kV h)];exact Dh c root a b id w (by simpa using h)
 ·by_cases d:2<=id
  ·by_cases f:id<a
   ·rw[show nmB a id=true from q6 (kT ⟨d,f⟩)];exact Di c root a b id w (by simpa using h) d f
   ·rw[show nmB a id=false from q5 kH];exact Dk c root a b id w (by simpa using h) d (by simpa using f)
  ·rw[show nmB a id=false from q5 kH];exact Dj c root a b id w (by simpa using h) (by simpa using d)
theorem Dl(a root c b w)(h:a<1):
 Calls prog 139 #[.agg #[.int .i64 a,.int .i64 root,.int .i64 c,.int .i64 b]] w fun e w'=>e= .returned (.bool false)/\Below w.1.size w w':=by
 go_enter sT,sO;go_wp2;go_ret;exact⟨rfl,bAl _ _⟩
theorem Dm(a root c b w)(h:¬a<1)(d:1000000000000<a):
 Calls prog 139 #[.agg #[.int .i64 a,.int .i64 root,.int .i64 c,.int .i64 b]] w fun e w'=>e= .returned (.bool false)/\Below w.1.size w w':=by
 go_enter sT,sO;go_wp2;go_ret;exact⟨rfl,bAl _ _⟩
theorem Dn(a root b c w)(h:¬a<1)(d:¬1000000000000<a)(f:b<2):
 Calls prog 139 #[.agg #[.int .i64 a,.int .i64 root,.int .i64 b,.int .i64 c]] w fun e w'=>e= .returned (.bool false)/\Below w.1.size w w':=by
 go_enter sT,sO;go_wp2;go_ret;exact⟨rfl,bAl _ _⟩
theorem Do(b root a c w)(h:¬b<1)(d:¬1000000000000<b)(f:¬a<2)(g:1024<a):
 Calls prog 139 #[.agg #[.int .i64 b,.int .i64 root,.int .i64 a,.int .i64 c]] w fun e w'=>e= .returned (.bool false)/\Below w.1.size w w':=by
 go_enter sT,sO;go_wp2;go_ret;exact⟨rfl,bAl _ _⟩
theorem Dp(c root a b w)(h:¬c<1)(d:¬1000000000000<c)(g:¬a<2)(i:¬1024<a)(r:(root==0)=true)(f:(b==0)=true):
 Calls prog 139 #[.agg #[.int .i64 c,.int .i64 root,.int .i64 a,.int .i64 b]] w fun e w'=>e= .returned (.bool true)/\Below w.1.size w w':=by
 go_enter sT,sO;go_wp2;go_ret;exact⟨rfl,bAl _ _⟩
theorem Dq(c root b a w)(h:¬c<1)(i:¬1000000000000<c)(j:¬b<2)(k:¬1024<b)(r:(root==0)=true)(f:(a==0)=false)(d:2<=a)(g:a<b):
 Calls prog 139 #[.agg #[.int .i64 c,.int .i64 root,.int .i64 b,.int .i64 a]] w fun e w'=>e= .returned (.bool true)/\Below w.1.size w w':=by
 go_enter sT,sO;go_wp2;go_ret;exact⟨rfl,bAl _ _⟩
theorem Dr(c root b a w)(h:¬c<1)(g:¬1000000000000<c)(i:¬b<2)(j:¬1024<b)(r:(root==0)=true)(f:(a==0)=false)(d:decide (2<=a)=false):
 Calls prog 139 #[.agg #[.int .i64 c,.int .i64 root,.int .i64 b,.int .i64 a]] w fun e w'=>e= .returned (.bool false)/\Below w.1.size w w':=by
 go_enter sT,sO;go_wp2;go_ret;exact⟨rfl,bAl _ _⟩
theorem Ds(c root b a w)(h:¬c<1)(i:¬1000000000000<c)(j:¬b<2)(k:¬1024<b)(r:(root==0)=true)(f:(a==0)=false)(d:2<=a)(g:decide (a<b)=false):
 Calls prog 139 #[.agg #[.int .i64 c,.int .i64 root,.int .i64 b,.int .i64 a]] w fun e w'=>e= .returned (.bool false)/\Below w.1.size w w':=by
 go_enter sT,sO;go_wp2;go_ret;exact⟨rfl,bAl _ _⟩
theorem Dt(c root a b w)(h:¬c<1)(d:¬1000000000000<c)(g:¬a<2)(i:¬1024<a)(r:(root==0)=false)(j:2<=root)(k:root<a)(f:(b==0)=true):
 Calls prog 139 #[.agg #[.int .i64 c,.int .i64 root,.int .i64 a,.int .i64 b]] w fun e w'=>e= .returned (.bool true)/\Below w.1.size w w':=by
 go_enter sT,sO;go_wp2;go_ret;exact⟨rfl,bAl _ _⟩
theorem Du(c root a b w)(h:¬c<1)(i:¬1000000000000<c)(j:¬a<2)(k:¬1024<a)(r:(root==0)=false)(l:2<=root)(m:root<a)(f:(b==0)=false)(d:2<=b)(g:b<a):
 Calls prog 139 #[.agg #[.int .i64 c,.int .i64 root,.int .i64 a,.int .i64 b]] w fun e w'=>e= .returned (.bool true)/\Below w.1.size w w':=by
 go_enter sT,sO;go_wp2;go_ret;exact⟨rfl,bAl _ _⟩
theorem Dv(c root a b w)(h:¬c<1)(g:¬1000000000000<c)(i:¬a<2)(j:¬1024<a)(r:(root==0)=false)(k:2<=root)(l:root<a)(f:(b==0)=false)(d:decide (2<=b)=false):
 Calls prog 139 #[.agg #[.int .i64 c,.int .i64 root,.int .i64 a,.int .i64 b]] w fun e w'=>e= .returned (.bool false)/\Below w.1.size w w':=by
 go_enter sT,sO;go_wp2;go_ret;exact⟨rfl,bAl _ _⟩
theorem Dw(c root a b w)(h:¬c<1)(i:¬1000000000000<c)(j:¬a<2)(k:¬1024<a)(r:(root==0)=false)(l:2<=root)(m:root<a)(f:(b==0)=false)(d:2<=b)(g:decide (b<a)=false):
 Calls prog 139 #[.agg #[.int .i64 c,.int .i64 root,.int .i64 a,.int .i64 b]] w fun e w'=>e= .returned (.bool false)/\Below w.1.size w w':=by
 go_enter sT,sO;go_wp2;go_ret;exact⟨rfl,bAl _ _⟩
theorem Dx(b root a c w)(h:¬b<1)(d:¬1000000000000<b)(f:¬a<2)(g:¬1024<a)(r:(root==0)=false)(i:decide (2<=root)=false):
 Calls prog 139 #[.agg #[.int .i64 b,.int .i64 root,.int .i64 a,.int .i64 c]] w fun e w'=>e= .returned (.bool false)/\Below w.1.size w w':=by
 go_enter sT,sO;go_wp2;go_ret;exact⟨rfl,bAl _ _⟩
theorem Dy(b root a c w)(h:¬b<1)(d:¬1000000000000<b)(f:¬a<2)(g:¬1024<a)(r:(root==0)=false)(i:2<=root)(j:decide (root<a)=false):
 Calls prog 139 #[.agg #[.int .i64 b,.int .i64 root,.int .i64 a,.int .i64 c]] w fun e w'=>e= .returned (.bool false)/\Below w.1.size w w':=by
 go_enter sT,sO;go_wp2;go_ret;exact⟨rfl,bAl _ _⟩
theorem Dz(c root a b w):
 Calls prog 139 #[.agg #[.int .i64 c,.int .i64 root,.int .i64 a,.int .i64 b]] w fun e w'=>e= .returned (.bool (gY c root a b))/\Below w.1.size w w':=by
 by_cases hr:j9 c a=true
 ·obtain⟨p,q,s,t⟩:=r6 hr;have d:¬c<1:=kH;have g:¬1000000000000<c:=kH;have h:¬a<2:=kH;have j:¬1024<a:=kH;unfold gY;rw[hr,o5];by_cases r:root=0
  ·rw[show nmB a root=true from q6 (kV r),o5];have i:(root==0)=true:=by simpa using r
   by_cases f:b=0
   ·rw[show nmB a b=true from q6 (kV f)];exact Dp c root a b w d g h j i (by simpa using f)
   ·by_cases k:2<=b
    ·by_cases l:b<a
     ·rw[show nmB a b=true from q6 (kT ⟨k,l⟩)];exact Dq c root a b w d g h j i (by simpa using f) k l
     ·rw[show nmB a b=false from q5 kH];exact Ds c root a b w d g h j i (by simpa using f) k (by simpa using l)
    ·rw[show nmB a b=false from q5 kH];exact Dr c root a b w d g h j i (by simpa using f) (by simpa using k)
  ·have i:(root==0)=false:=by simpa using r
   by_cases m:2<=root
   ·by_cases n:root<a
    ·rw[show nmB a root=true from q6 (kT ⟨m,n⟩),o5];by_cases f:b=0
     ·rw[show nmB a b=true from q6 (kV f)];exact Dt c root a b w d g h j i m n (by simpa using f)
     ·by_cases k:2<=b
      ·by_cases l:b<a
       ·rw[show nmB a b=true from q6 (kT ⟨k,l⟩)];exact Du c root a b w d g h j i m n (by simpa using f) k l
       ·rw[show nmB a b=false from q5 kH];exact Dw c root a b w d g h j i m n (by simpa using f) k (by simpa using l)
      ·rw[show nmB a b=false from q5 kH];exact Dv c root a b w d g h j i m n (by simpa using f) (by simpa using k)
    ·rw[show nmB a root=false from q5 kH,Bool.false_and];exact Dy c root a b w d g h j i m (by simpa using n)
   ·rw[show nmB a root=false from q5 kH,Bool.false_and];exact Dx c root a b w d g h j i (by simpa using m)
 ·have o:j9 c a=false:=by simpa using hr
  unfold gY;rw[o,Bool.false_and];have u:=of_decide_eq_false o;by_cases d:c<1
  ·exact Dl c root a b w d
  ·by_cases g:1000000000000<c
   ·exact Dm c root a b w d g
   ·by_cases h:a<2
    ·exact Dn c root a b w d g h
    ·exact Do c root a b w d g h kH
theorem DA(a root c b w)(h:a<1):
 Calls prog 149 #[.agg #[.int .i64 a,.int .i64 root,.int .i64 c,.int .i64 b]] w fun e w'=>e= .returned (.bool false)/\Below w.1.size w w':=by
 go_enter func149,ntmps149;go_wp2;go_ret;exact⟨rfl,bAl _ _⟩
theorem DD(a root c b w)(h:¬a<1)(d:1000000000000<a):
 Calls prog 149 #[.agg #[.int .i64 a,.int .i64 root,.int .i64 c,.int .i64 b]] w fun e w'=>e= .returned (.bool false)/\Below w.1.size w w':=by
 go_enter func149,ntmps149;go_wp2;go_ret;exact⟨rfl,bAl _ _⟩
theorem DE(a root b c w)(h:¬a<1)(d:¬1000000000000<a)(f:b<2):
 Calls prog 149 #[.agg #[.int .i64 a,.int .i64 root,.int .i64 b,.int .i64 c]] w fun e w'=>e= .returned (.bool false)/\Below w.1.size w w':=by
 go_enter func149,ntmps149;go_wp2;go_ret;exact⟨rfl,bAl _ _⟩
theorem DF(b root a c w)(h:¬b<1)(d:¬1000000000000<b)(f:¬a<2)(g:1024<a):
 Calls prog 149 #[.agg #[.int .i64 b,.int .i64 root,.int .i64 a,.int .i64 c]] w fun e w'=>e= .returned (.bool false)/\Below w.1.size w w':=by
 go_enter func149,ntmps149;go_wp2;go_ret;exact⟨rfl,bAl _ _⟩
theorem DG(b root a c w)(h:¬b<1)(g:¬1000000000000<b)(i:¬a<2)(j:¬1024<a)(r:nmB a root=false):
 Calls prog 149 #[.agg #[.int .i64 b,.int .i64 root,.int .i64 a,.int .i64 c]] w fun e w'=>e= .returned (.bool false)/\Below w.1.size w w':=by
 have d:Hid (nmB a root=false):=r;clear r;go_enter func149,ntmps149;go_wp2_with fail;refine(ra b root a c root _).mono ?_;rw[d.out];rintro e w1 ⟨rfl,f⟩;have q:=(bAl _ _).trans (f.mono kP);go_wp2;go_ret;exact⟨rfl,q⟩
theorem DJ(c root a b w)(h:¬c<1)(i:¬1000000000000<c)(j:¬a<2)(k:¬1024<a)(r:nmB a root=true):
 Calls prog 149 #[.agg #[.int .i64 c,.int .i64 root,.int .i64 a,.int .i64 b]] w fun e w'=>e= .returned (.bool (nmB a b))/\Below w.1.size w w':=by
 have f:Hid (nmB a root=true):=r;clear r;go_enter func149,ntmps149;go_wp2_with fail;refine(ra c root a b root _).mono ?_;rw[f.out];rintro e w1 ⟨rfl,d⟩;have q:=(bAl _ _).trans (d.mono kP);have k0:w1.cell? ⟨w.1.size,0,none⟩=some (.int .i64 c):=by rw[d.cell (p:=⟨w.1.size,0,none⟩) kP];simp
 have l:w1.cell? ⟨w.1.size,1,none⟩=some (.int .i64 root):=by rw[d.cell (p:=⟨w.1.size,1,none⟩) kP];simp
 have m:w1.cell? ⟨w.1.size,2,none⟩=some (.int .i64 a):=by rw[d.cell (p:=⟨w.1.size,2,none⟩) kP];simp
 have n:w1.cell? ⟨w.1.size,3,none⟩=some (.int .i64 b):=by rw[d.cell (p:=⟨w.1.size,3,none⟩) kP];simp
 clear d;go_wp2_with fail;refine(ra c root a b b _).mono ?_;rintro e o ⟨rfl,g⟩;go_wp2;go_ret;exact⟨rfl,q.trans (g.mono q.size)⟩
theorem DL(b root a c w):
 Calls prog 149 #[.agg #[.int .i64 b,.int .i64 root,.int .i64 a,.int .i64 c]] w fun e w'=>e= .returned (.bool (gY b root a c))/\Below w.1.size w w':=by
 by_cases hr:j9 b a=true
 ·obtain⟨i,j,k,l⟩:=r6 hr;unfold gY;rw[hr,o5];cases r:nmB a root with
  |true=>
   rw[o5];exact DJ b root a c w kH kH kH kH r
  |false=>
   rw[Bool.false_and];exact DG b root a c w kH kH kH kH r
 ·have f:j9 b a=false:=by simpa using hr
  unfold gY;rw[f,Bool.false_and];have m:=of_decide_eq_false f;by_cases d:b<1
  ·exact DA b root a c w d
  ·by_cases g:1000000000000<b
   ·exact DD b root a c w d g
   ·by_cases h:a<2
    ·exact DE b root a c w d g h
    ·exact DF b root a c w d g h kH
def re:List PanicEntry:=[{v:= .iface 237 (.agg #[]),recovered:=true}]
theorem DM(v x w):(Instr.typeAssert (.iface 237 v) x 237 true).run prog w= .ok (.tuple #[v,.bool true]) w:=by
 simp[Instr.typeAssert,run_underlying underlying237 w]
theorem DO(w):
 CallsD prog 167 #[] (.panicking aU) w fun e u' w'=>e= .returned (.tuple #[])/\u'= .panicking re/\Below w.1.size w w':=by
 have c:=DM (.agg #[]);refine callsD_of_wpS func167 rfl fun d cs b=> ?_;apply wpS_seq;apply wpS_region;simp[wpOpsS,go_sem,recoverD,b,ntmps167,Exit.thenS,aU];simp only[show Array.replicate 14 undef=#[undef,undef,undef,undef,undef,undef,undef,undef,undef,undef,undef,undef,undef,undef]from rfl,List.setIfInBounds_toArray,List.set_cons_zero,List.set_cons_succ];refine wpS_of_wp ?_;go_wp2;have a:=bAl w (.cells #[] 237);simp[bodyPostS,results,results167,re];exact a
theorem DQ(w):
 CallsD prog 167 #[] .returning w fun e u' w'=>e= .returned (.tuple #[])/\u'= .returning/\w'=w:=by
 refine callsD_of_wpS func167 rfl fun a cs b=> ?_;apply wpS_seq;apply wpS_region;simp[wpOpsS,go_sem,recoverD,b,ntmps167,Exit.thenS];simp only[show Array.replicate 14 undef=#[undef,undef,undef,undef,undef,undef,undef,undef,undef,undef,undef,undef,undef,undef]from rfl,List.setIfInBounds_toArray,List.set_cons_zero,List.set_cons_succ];refine wpS_of_wp ?_;go_wp2;cases a
 simp_all [bodyPostS,results,results167]
theorem vk(f a w)(c:World->Prop)(d:∀w,(callFunc f a).run prog w= .ok (.enter f a) w)(h:Calls prog f a w fun e w'=>e= .returned (.tuple #[])/\c w'):
 Calls prog 121 #[.func (.func f) #[] a] w fun e w'=>e= .returned (.bool true)/\c w':=by
 go_enter_defers func121,ntmps121
 go_wp2_with fail;refine q2 h ?_;rintro e w1 ⟨rfl,b⟩;go_wp2;refine leaves_cons (f:=167) (args:=#[]) kP (by simp[go_sem]) ?_;refine(DQ w1).mono ?_;rintro e u' g ⟨rfl,rfl,rfl⟩;simp[Leaves,settle,results,results121,go_sem];exact b
theorem vm(f a w)(d:World->Prop)(g:∀w,(callFunc f a).run prog w= .ok (.enter f a) w)(h:Calls prog f a w fun e w'=>e= .panicked aU/\d w'):
 Calls prog 121 #[.func (.func f) #[] a] w fun e w'=>e= .returned (.bool false)/\∃w1,d w1/\Below w1.1.size w1 w':=by
 go_enter_defers func121,ntmps121
 go_wp2_with fail;refine q2 h ?_;rintro e w1 ⟨rfl,b⟩;go_wp2;refine leaves_cons (f:=167) (args:=#[]) kP (by simp[go_sem]) ?_;refine(DO w1).mono ?_;rintro e u' i ⟨rfl,rfl,c⟩;simp[Leaves,settle,results,results121,go_sem,re];exact⟨w1,b,c⟩
theorem rf(a n c l w)(h:Bs w a n c l)(E:n<=7):
 Calls prog 80 #[.slice a n c] w fun e w'=>e= .returned (.int .i64 (low l))/\w'=w:=by
 have f:Hid (∀k,0<k->0<=low (l.drop k)/\low (l.drop k)<=281474976710656):=fun k D=>by
  have p:=gG (ff h.byte k);have q:(l.drop k).length<=6:=by rw[k3,h.len_eq];omega
  have B:=nO _ q;exact⟨p.1,kH⟩
 have g:Hid (low (l.drop n)=0):=by
  have:l.drop n=[]:=by rw[p2,h.len_eq];exact kE
  show low (l.drop n)=0;rw[this];rfl
 go_enter func80,ntmps80;go_wp2
 go_loop [3,4] (fun v i=> ∃j:Nat,j<=n/\i= .int .i64 ((j:Int)-1)/\v= .int .i64 (low (l.drop j))) (fun _ i=>(intOf i+1).toNat)
 case atStart=>exact⟨n,kE,rfl,by rw[g.out]⟩
 case round=>
  obtain⟨j,C,rfl,rfl⟩:=hrel;by_cases A:0<j
  ·obtain⟨b,off,rfl,t,d⟩:=h.at_ kH;obtain⟨i,rfl⟩:∃i,j=i+1:=⟨j-1,kH⟩;have u:=d i kH;have s:=h.byte i;have m:Hid _:=nL l i (by rw[h.len_eq];omega);have r:=f.out (i+1) kH;have o:((i+1:Nat):Int)-1=(i:Int):=kH;rw[o];have x:(0:Int)<=(i:Int):=kH;have z:(i:Int)< (n:Int):=kH;generalize low (l.drop (i+1))=F at*;generalize l.getD i 0=y at*;clear d h;go_wp2
   go_round
   case rel=>exact⟨i,kH,by go_num,by rw[m.out];congr 1;omega⟩
   case measure=>simp[intOf]
  ·have e:j=0:=kH;subst e;go_wp2;go_ret;exact⟨rfl,rfl⟩
theorem DR(a b:Nat)(c:a<281474976710657)(d:b<256):bits .or .i64 ((a:Int)*256) (b:Int)=(a:Int)*256+b:=by
 rw[show(a:Int)*256=((a*256:Nat):Int)by omega,show((a*256:Nat):Int)+(b:Int)=((a*256+b:Nat):Int)by omega];have e:a*256|||b=a*256+b:=by
  have:=Nat.shiftLeft_add_eq_or_of_lt (i:=8) (b:=b) kH a;rw[Nat.shiftLeft_eq]at this;exact this.symm
 show IntKind.i64.wrap ((BitVec.ofInt 64 ((a*256:Nat):Int)|||BitVec.ofInt 64 (b:Int)).toNat:Int)= _;rw[BitVec.toNat_or,ofInt_u64 (a*256) kH,ofInt_u64 b kH,e];simp[IntKind.wrap,IntKind.bits,IntKind.signed];omega
theorem DS(x y:Nat)(hx:x<72057594037927936)(c:y<256):bits .or .i64 (IntKind.i64.wrap ((x:Int)*256)) (y:Int)=IntKind.i64.wrap ((x:Int)*256+y):=by
 have e:x*256|||y=x*256+y:=by
  have:=Nat.shiftLeft_add_eq_or_of_lt (i:=8) (b:=y) kH x;rw[Nat.shiftLeft_eq]at this;exact this.symm
 have a:(BitVec.ofInt 64 (IntKind.i64.wrap ((x:Int)*256))).toNat=x*256:=by
  simp[IntKind.wrap,IntKind.bits,IntKind.signed,BitVec.toNat_ofInt];omega
 show IntKind.i64.wrap ((BitVec.ofInt 64 (IntKind.i64.wrap ((x:Int)*256))|||BitVec.ofInt 64 (y:Int)).toNat:Int)= _;rw[BitVec.toNat_or,a,ofInt_u64 y kH,e];congr 1
theorem DT(z):IntKind.i64.wrap z=wrap64 z:=by
 unfold wrap64;simp[IntKind.wrap,IntKind.bits,IntKind.signed];omega
def fh(l:List Int):Int:=IntKind.i64.wrap (low (l.drop 1)*256+l.getD 0 0)
theorem od{l}(a:IsB l)(u:l.length=8):(l.getD 7 0=0->fh l=low (l.take 7))/\(l.getD 7 0≠0->fh l<1\/1000000000000<fh l):=by
 obtain⟨b,c,d,f,g,h,i,j,rfl⟩:∃b c d f g h i j,l=[b,c,d,f,g,h,i,j]:=by
  match l,u with
  |[b,c,d,f,g,h,i,j],_=>exact⟨b,c,d,f,g,h,i,j,rfl⟩
 have m:=a 0;have n:=a 1;have o:=a 2;have p:=a 3;have q:=a 4;have r:=a 5;have s:=a 6;have t:=a 7;simp at m n o p q r s t;have e:fh [b,c,d,f,g,h,i,j]=IntKind.i64.wrap ((c+256*(d+256*(f+256*(g+256*(h+256*(i+256*j))))))*256+b):=by simp[fh,low]
 rw[e];constructor
 ·intro k;simp at k;subst k;simp[low,IntKind.wrap,IntKind.bits,IntKind.signed];omega
 ·intro k;simp at k;simp[IntKind.wrap,IntKind.bits,IntKind.signed];omega
theorem DU(m)(h:m<=7):(256:Int)^m<=72057594037927936:=by
 have k:∀m:Fin 8,(256:Int)^(m:Nat)<=72057594037927936:=kN;exact k ⟨m,kH⟩
theorem vo(a c l w)(h:Bs w a 8 c l):
 Calls prog 96 #[.slice a 8 c] w fun e w'=>e= .returned (.int .i64 (fh l))/\w'=w:=by
 have z:Hid (∀k,0<k->0<=low (l.drop k)/\low (l.drop k)<72057594037927936):=fun k G=>by
  have t:=gG (ff h.byte k);have q:(l.drop k).length<=7:=by rw[k3,h.len_eq];omega
  have F:=DU _ q;exact⟨t.1,kH⟩
 have f:Hid (∀k,1<k->low (l.drop k)<281474976710656+1):=fun k G=>by
  have t:=gG (ff h.byte k);have q:(l.drop k).length<=6:=by rw[k3,h.len_eq];omega
  have F:=nO _ q;omega
 have A:Hid (low (l.drop 8)=0):=by
  have:l.drop 8=[]:=by rw[p2,h.len_eq];exact kE
  show low (l.drop 8)=0;rw[this];rfl
 obtain⟨b,off,rfl,I,r⟩:=h.at_ kH;go_enter func96,ntmps96;go_wp2
 go_loop [3,4] (fun v i=> ∃j:Nat,j<=8/\i= .int .i64 ((j:Int)-1)/\(0<j->v= .int .i64 (low (l.drop j)))/\(j=0->v= .int .i64 (fh l))) (fun _ i=>(intOf i+1).toNat)
 case atStart=>exact⟨8,kE,rfl,fun _=>by rw[A.out],fun h=>by omega⟩
 case round=>
  obtain⟨j,M,rfl,s,g⟩:=hrel;by_cases E:0<j
  ·obtain rfl:=s E;obtain⟨i,rfl⟩:∃i,j=i+1:=⟨j-1,kH⟩;have u:=r i kH;have n:=h.byte i;have B:Hid _:=nL l i (by rw[h.len_eq];omega);have m:=z.out (i+1) kH;have D:((i+1:Nat):Int)-1=(i:Int):=kH;rw[D];have J:(0:Int)<=(i:Int):=kH;have K:(i:Int)<8:=kH;by_cases o:i=0
   ·subst o;have C:Hid (fh l=IntKind.i64.wrap (low (l.drop 1)*256+l.getD 0 0)):=rfl;generalize low (l.drop (0+1))=L at*;generalize l.getD 0 0=y at*;obtain⟨x,rfl⟩:=n3 m.1;obtain⟨y,rfl⟩:=n3 n.1;have d:=DS x y kH kH;rw[DT ((x:Int)*256)]at d;have p:Hid _:=d;simp only[m2]at u;clear r h d s g f;go_wp2
    go_round
    case rel=>exact⟨0,kH,by go_num,fun h=>by omega,fun _=>by rw[C.out,p.out]⟩
    case measure=>simp[intOf]
   ·have H:=f.out (i+1) kH;generalize low (l.drop (i+1))=L at*;generalize l.getD i 0=y at*;obtain⟨x,rfl⟩:=n3 m.1;obtain⟨y,rfl⟩:=n3 n.1;have d:=DR x y kH kH;clear r h;have p:Hid _:=d;clear d s g f;go_wp2
    go_round
    case rel=>exact⟨i,kH,by go_num,fun _=>by rw[B.out,p.out];congr 1;omega,fun h=>absurd h o⟩
    case measure=>simp[intOf]
  ·have e:j=0:=kH;subst e;obtain rfl:=g rfl;go_wp2;go_ret;exact⟨rfl,rfl⟩
def nb(s:ByteArray):List Int:=s.data.toList.map fun b=>(b.toNat:Int)
theorem gd(s):(nb s).length=s.size:=by
 rw[nb,oR,Array.length_toList]
 rfl
theorem rh(s j):(nb s).getD j 0=((s.data.toList.getD j 0).toNat:Int):=by
 unfold nb;by_cases h:j<s.data.toList.length
 ·simp only[oC,pb,lx h]
  rfl
 ·simp only[oC,pb,ot (Nat.not_lt.1 h)]
  rfl
theorem jB(s):IsB (nb s):=fun i=>by
 rw[rh];have:=(s.data.toList.getD i 0).toNat_lt;omega
theorem DW(s):strOfNums (nb s)=s:=by
 apply ByteArray.ext;apply Array.ext';rw[strOfNums_data,nb,List.map_map];have:((fun n:Int=>UInt8.ofNat n.toNat)∘fun b:UInt8=>(b.toNat:Int))=id:=by
  funext b;simp
 rw[this,List.map_id]
theorem jc(s w):(convert 9 70 (.string s)).run prog w= .ok (.slice (some ⟨w.1.size,0,none⟩) s.size (grownCap w s.size 0 5)) (Go.Lib.bytesWorld w 5 s):=
 Go.Lib.run_convert_string_bytes w _ _ 5 s s4 rC sM
theorem jd(s w):Below w.1.size w (Go.Lib.bytesWorld w 5 s):=
 ⟨rfl,rfl,rfl,by rw[Go.Lib.bytesWorld_size];omega,fun k a=>Go.Lib.bytesWorld_at_old w _ s k a⟩
theorem ri(s w):(Go.Lib.bytesWorld w 5 s).1.size=w.1.size+1:=Go.Lib.bytesWorld_size w _ s
theorem je(s w)(h:s.size<=1048576):Bs (Go.Lib.bytesWorld w 5 s) (some ⟨w.1.size,0,none⟩) s.size (grownCap w s.size 0 5) (nb s):=
 ⟨gd s,grownCap_ge _ _ _ _,grownCap_le_maxLen _ _ _ _ (by unfold maxLen;omega),fun e=>(by cases e),fun _=>⟨w.1.size,0,rfl,by rw[ri];omega,fun i a=>by
  rw[show 0+i=i by omega,Go.Lib.bytesWorld_cell w _ s i a,rh]⟩,jB s⟩
theorem gj(l w)(E:l.length=32)(y:IsB l):
 Calls prog 69 #[.agg (ob l).toArray] w fun e w'=> ∃a c,e= .returned (.slice a 32 c)/\Below w.1.size w w'/\Own w.1.size w' a 32 c l:=by
 have k0:=ao w 32 (ob l).toArray;have n:=bAl w (.cells (ob l).toArray 32);go_enter func69,ntmps69;go_upto_region 1 with fail
 generalize w.alloc (.cells (ob l).toArray 32)=d at*;have A:=k0.lt;have f:=kG k0 n;clear k0 n;go_wp2;go_loopw [3,4] (fun o i wr=> ∃j a c,j<=32/\i= .int .i64 (j:Nat)/\o= .slice a j c/\Below d.1.size d wr/\Own d.1.size wr a j c (l.take j)) (fun _ i _=>32-(intOf i).toNat)
 case atStart=>exact⟨0,_,0,kX _,rfl,rfl,bAl _ _,dZ d [] 0 rfl kH _ kE⟩
 case round=>
  obtain⟨j,a,c,D,rfl,rfl,b,g⟩:=hrel;by_cases C:j<32
  ·have v:wr.cell? ⟨w.1.size,j,none⟩=some (.int .u8 (l.getD j 0)):=by rw[b.cell (p:=⟨w.1.size,j,none⟩) A,f.out.1.cell];exact de? l j kH
   have k:=y j;have r:l.take (j+1)=l.take j++[l.getD j 0]:=by
    rw[n6 kH];simp[List.getD,show j<l.length by omega]
   have s:Hid _:=r;have z:(j:Int)<32:=kH;clear r;generalize l.getD j 0=x at*;go_wp2_with (at_builtin;refine db rfl _ _ rfl d.1.size a j c (l.take j) rfl ?own _ 1 1 [x] rfl ?bs ?len ?B ?_)
   case own=>exact rc g _
   case bs=>exact cZ wr x k.1 k.2
   case len=>omega
   case B=>have:=b.size;simp;omega
   intro t u w' m h _;have q:=(b.alloc b.size _).trans h;rw[<-s.out]at m;clear g b h v;go_wp2;go_roundw
   case rel=>exact⟨j+1,t,u,kH,by go_num,rfl,q,m⟩
   case measure=>simp[intOf];omega
  ·have e:j=32:=kH;subst e;go_wp2;go_ret;refine⟨a,c,rfl,f.out.2.trans (b.mono f.out.2.size),?_⟩;rw[mm kH]at g;exact g.mono f.out.2.size
def zH:List Value:=ob (List.replicate 32 0)
theorem oe:zH.toArray.all (·.oneCell')=true:=bQ _
theorem oh:prog.built 32 []=some zH.toArray:=kO
theorem lE(a c l w)(h:Bs w a 32 c l):
 Calls prog 50 #[.slice a 32 c] w fun e w'=>e= .returned (hA l)/\Below w.1.size w w':=by
 have n:=h.len_eq;obtain⟨b,off,rfl,p,C⟩:=h.at_ kH;have E:=ao w 32 zH.toArray;have r:=bAl w (.cells zH.toArray 32);have J:(w.alloc (.cells zH.toArray 32)).1.size=w.1.size+1:=by simp
 have H:(prog.info? 32).map (·.size)=some zH.toArray.size:=aJ;go_enter func50,ntmps50;go_upto_region 1 with fail
 change Code.wp _ _ _ _ (w.alloc (.cells zH.toArray 32));generalize w.alloc (.cells zH.toArray 32)=d at*;have z:Hid (d.1.size=w.1.size+1):=J;clear J;have F:=ao d 32 zH.toArray;have s:=bAl d (.cells zH.toArray 32);have q:=E.below s;have A:=r.trans (s.mono r.size);go_upto_region 2 with(first|(refine fK rfl _ _ rfl oh ?_)|(refine aL rfl 32 _ _ rfl d zH.toArray zH.toArray 32 rfl rfl H rfl oe ?_))
 change Code.wp _ _ _ _ (d.alloc (.cells zH.toArray 32));generalize d.alloc (.cells zH.toArray 32)=K at*;have P:w.1.size<d.1.size:=by have:=z.out;omega
 have k:Blk K 32 w.1.size zH:=q;have G:Blk K 32 (d.1.size) zH:=F;have f:=kG C (kR k (kR G A));clear E F q A k G C h H r s;go_wp2;go_loopw [4] (fun i wr=> ∃j,j<=32/\i= .int .i64 (j:Nat)/\OnlyB (d.1.size) K wr/\Blk wr 32 (d.1.size) (ob (gE l j))) (fun i _=>32-(intOf i).toNat)
 case atStart=>exact⟨0,kX _,rfl,OnlyB.refl _ _,by rw[uo,n];exact f.out.2.2.1⟩
 case round=>
  obtain⟨j,T,rfl,m,g⟩:=hrel;by_cases D:j<32
  ·have R:wr.cell? ⟨b,off+j,none⟩=some (.int .u8 (l.getD j 0)):=by
    have B:=f.out.2.2.2;rw[r8 (a:=⟨b,off+j,none⟩) ((m.block b (lk p B.size) kH).trans (B.block b p))];exact f.out.1 j D
   have Q:wr.cell? ⟨d.1.size,j,none⟩=some (.int .u8 ((gE l j).getD j 0)):=by rw[g.cell];exact de? _ j (by rw[un _ _ kH];omega)
   have S:=g.free j;have u:=g.set j (.int .u8 (l.getD j 0));rw[qA,uq _ _ kH]at u;have I:=m.trans (aB wr (d.1.size) j (.int .u8 (l.getD j 0)));have o:=kG u I;have M:(j:Int)<32:=kH;clear u I g m;generalize l.getD j 0=x at*;generalize (gE l j).getD j 0=y at*;go_wp2;go_roundw
   case rel=>exact⟨j+1,kH,by go_num,o.out.2,o.out.1⟩
   case measure=>simp[intOf];omega
  ·have e:j=32:=kH;subst e;rw[up _ _ n.symm]at g;have k:=f.out.2.1.only m kH;have t:(prog.info? 32).map (·.size)=some (ob l).toArray.size:=by rw[aE,n];exact aJ
   have N:=k.setRow (ob l);have O:=aN wr w.1.size (ob l).toArray;have L:=
    (f.out.2.2.2.trans (m.below kH f.out.2.2.2.size)).trans (O.below kH (by have:=k.lt;omega))
   go_upto_region 6 with fail
   go_wp2_with (first|(refine qi rfl 32 _ rfl (d.1.size) rfl 32 (ob l).toArray (0,0) _ g qa rfl t ?_)|(refine qB rfl 32 _ _ rfl w.1.size (ob l).toArray rfl rfl 32 _ k t ?o1 (bQ _) ?_))
   case o1=>rw[aE,n];rfl
   refine p6 (v:=hA l) ?_ rfl ⟨rfl,L⟩;exact r3 results50 _ _ w.1.size 32 (ob l).toArray (0,0) _ rfl N qa rfl t
theorem mE(g B l w)(h:Cur w g B l)(f:1<=l.length):
 Calls prog 95 #[.pointer (some ⟨g,0,none⟩)] w fun e w'=>e= .returned (.int .i64 (l.getD 0 0))/\OnlyB g w w'/\Cur w' g B (l.drop 1):=by
 have T:=iu g B l 1 w h kE f;have m:=h.byte 0;have e0:(l.take 1).getD 0 0=l.getD 0 0:=by cases l with|nil=>rfl|cons x t=>rfl
 generalize l.getD 0 0=x at*;clear h;go_enter func95,ntmps95;go_wp2_with fail;refine q2 T ?_;rintro e w1 ⟨b,off,k,rfl,o,i,j,_⟩;obtain⟨_,_,e,_,c⟩:=j.at_ kH;cases e;have d:=c 0 kH;rw[e0,m2]at d;have a:=kG o i;clear o i j c T e0;go_wp2;go_ret;exact⟨rfl,a.out⟩
theorem ol(g B l w)(h:Cur w g B l)(a:l.length<1):
 Calls prog 95 #[.pointer (some ⟨g,0,none⟩)] w fun e w'=>e= .panicked aU/\OnlyB g w w':=by
 have T:=jb g B l 1 w h a kH;clear h;go_enter func95,ntmps95;go_wp2_with fail;refine q2 T ?_;rintro e w1 ⟨rfl,b⟩;obtain rfl:=b.symm;go_wp2;exact⟨rfl,rfl,OnlyB.refl _ _⟩
theorem om(g B l w)(h:Cur w g B l)(d:4<=l.length):
 Calls prog 87 #[.pointer (some ⟨g,0,none⟩)] w fun e w'=>e= .returned (.int .i64 (low (l.take 4)))/\OnlyB g w w'/\Cur w' g B (l.drop 4):=by
 have T:=iu g B l 4 w h kH d;clear h;go_enter func87,ntmps87;go_wp2_with fail;refine q2 T ?_;rintro e w1 ⟨b,off,c,rfl,o,i,j,_⟩;have N:=lv _ 4 c (l.take 4) w1 j kH;have a:=kG o i;clear o i j T;go_wp2_with fail;refine q2 N ?_;rintro e k ⟨rfl,f⟩;obtain rfl:=f.symm;go_wp2;go_ret;exact⟨rfl,a.out⟩
theorem vp(g B l w)(h:Cur w g B l)(a:l.length<4):
 Calls prog 87 #[.pointer (some ⟨g,0,none⟩)] w fun e w'=>e= .panicked aU/\OnlyB g w w':=by
 have T:=jb g B l 4 w h a kH;clear h;go_enter func87,ntmps87;go_wp2_with fail;refine q2 T ?_;rintro e w1 ⟨rfl,b⟩;obtain rfl:=b.symm;go_wp2;exact⟨rfl,rfl,OnlyB.refl _ _⟩
theorem DX(a n c)(b:32<=n)(w):(Instr.arrayAt 32 (.slice a n c)).run prog w= .ok (.pointer a) w:=by
 simp[Instr.arrayAt,Sem.run_bind,run_underlying underlying32 w,Nat.not_lt.2 b]
theorem oo(g B l w)(h:Cur w g B l)(u:B<=w.1.size)(z:32<=l.length):
 Calls prog 88 #[.pointer (some ⟨g,0,none⟩)] w fun e w'=>e= .returned (hA (l.take 32))/\OnlyB g w w'/\Cur w' g B (l.drop 32):=by
 have k0:=ao w 32 (ob (List.replicate 32 0)).toArray;have f:=bAl w (.cells (ob (List.replicate 32 0)).toArray 32);have M:=h.lt;go_enter func88,ntmps88;go_upto_region 1 with fail
 change Code.wp _ _ _ _ (w.alloc (.cells (ob (List.replicate 32 0)).toArray 32));generalize w.alloc (.cells (ob (List.replicate 32 0)).toArray 32)=G at*;have T:=iu g B l 32 G (h.below f) kH z;have i:=kG k0 f;clear h k0 f;go_wp2_with fail;refine q2 T ?_;rintro e w1 ⟨b,off,k,rfl,o,K,L,I,J,_⟩;have a:(l.take 32).length=32:=by simp;omega
 have m:∀j F,(ob (l.take 32))[j]?=some F->w1.cell? ⟨b,off+j,none⟩=some F:=fun j F p=>by
  have y:j<32:=by have:=(lb.1 p).1;rw[au]at this;omega
  obtain⟨_,_,e,_,x⟩:=L.at_ kH;cases e;rw[x j y,<-p,de? _ j kH]
 have r:=i.out.1.only o kH;have d:=(Below.onlyB i.out.2 g).trans o;have c:=aN w1 w.1.size (ob (l.take 32)).toArray;have D:OnlyB g w (w1.setRow w.1.size (ob (l.take 32)).toArray):=
  ⟨c.os.trans d.os,c.tape.trans d.tape,c.output.trans d.output,k2 d.size c.size,fun q n A=>(c.block q (lk n d.size) kH).trans (d.block q n A)⟩
 have t:=K.only c u kH;have s:(prog.info? 32).map (·.size)=some (ob (l.take 32)).toArray.size:=by rw[aE,a];exact aJ
 have E:(prog.info? 32).map (·.size)=some (ob (l.take 32)).length:=by rw[au,a];exact aJ
 have C:=r.setRow (ob (l.take 32));have H:∀w,(Instr.arrayAt 32 (.slice (some ⟨b,off,none⟩) 32 k)).run prog w= .ok (.pointer (some ⟨b,off,none⟩)) w:=fun w=>DX _ 32 k kE w;go_wp2_with (first|(refine dm rfl 32 _ rfl b off rfl (ob (l.take 32)) _ m qa rfl E ?_)|(refine qB rfl 32 _ _ rfl w.1.size (ob (l.take 32)).toArray rfl rfl 32 _ r s ?o1 (bQ _) ?_))
 case o1=>rw[aE,aE,a];rfl
 refine p6 (v:=hA (l.take 32)) ?_ rfl ⟨rfl,D,t⟩;exact r3 results88 _ _ w.1.size 32 (ob (l.take 32)).toArray (0,0) _ rfl C qa rfl s
theorem rj(g B l w)(h:Cur w g B l)(b:l.length<32):
 Calls prog 88 #[.pointer (some ⟨g,0,none⟩)] w fun e w'=>e= .panicked aU/\OnlyB g w w':=by
 have a:=bAl w (.cells (ob (List.replicate 32 0)).toArray 32);have T:=jb g B l 32 _ (h.below a) b kH;clear h;go_enter func88,ntmps88;go_wp2_with fail;refine q2 T ?_;rintro e w1 ⟨rfl,c⟩;obtain rfl:=c.symm;go_wp2;exact⟨rfl,rfl,Below.onlyB a _⟩
