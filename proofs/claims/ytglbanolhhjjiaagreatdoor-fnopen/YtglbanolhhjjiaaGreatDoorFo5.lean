import Derived.Test.YtglbanolhhjjiaaGreatDoorFo4
import Derived.Lib.Bytes
import Derived.Deep.RegionHeld3
namespace Go.Proofs.YtglbanolhhjjiaaGreatDoor
open Go.Proofs.Tryz
open Go.RowKit
set_option linter.unusedVariables false
set_option maxRecDepth 100000
set_option maxHeartbeats 32000000
theorem Bs.cut{w b c n f l}(h:Bs w (some ⟨b,c,none⟩) n f l)(i m)(s:i+m<=n)(a)(k:m<=a)(g:a<=maxLen):Bs w (some ⟨b,c+i,none⟩) m a ((l.drop i).take m):=by
 refine⟨by simp[h.len_eq];omega,k,g,fun e=>(by cases e),fun t=> ?_,?_⟩
 ·obtain⟨r,q,e,p,d⟩:=h.at_ t7;cases e;refine⟨b,c+i,rfl,p,fun j o=> ?_⟩;rw[Nat.add_assoc,d (i+j) t7];simp[List.getD,o]
 ·refine gR (fun j=> ?_) m;have:=h.byte (i+j);simpa [List.getD]using this
theorem Bs.only{w w' a n c g l}(f:Bs w a n c l)(j:OnlyB g w w')(o:∀b d,0<n->a=some ⟨b,d,none⟩->b≠g):Bs w' a n c l:=
 ⟨f.len_eq,f.le,f.le',f.nil,fun k=>by
  obtain⟨b,d,e,h,m⟩:=f.at_ k;refine⟨b,d,e,ws h j.size,fun i p=> ?_⟩;rw[CP (a:=⟨b,d+i,none⟩) (j.block b h (o b d k e))];exact m i p,f.byte⟩
def bI:List PanicEntry:=[{v:= .iface 221 (.agg #[]),recovered:=false}]
theorem ez(w):Calls prog 145 #[.bool true] w fun e w'=>e= .returned (.tuple #[])/\w'=w:=by
 go_enter func145,ntmps145;go_wp2
 go_end0
 exact⟨rfl,rfl⟩
theorem fi(w):Calls prog 145 #[.bool false] w fun e w'=>e= .panicked bI/\w'=w:=by
 go_enter func145,ntmps145;go_wp2;exact⟨rfl,rfl,rfl⟩
structure CurA(w:World)(g B:Nat)(a:Option Addr)(n c:Nat)(l:List Int):Prop where
 blk:Blk w 192 g [.slice a n c]
 bs:Bs w a n c l
 low:∀b off,0<n->a=some ⟨b,off,none⟩->b<B
def Cur(w:World)(g B:Nat)(l:List Int):Prop:= ∃a n c,CurA w g B a n c l
theorem CurA.ne{w g B a n c l}(o:CurA w g B a n c l):∀b d,0<n->a=some ⟨b,d,none⟩->b≠g:=fun b d h e i=>by
 obtain⟨p,m,f,q,j⟩:=o.bs.at_ h;rw[e]at f;cases f;subst i;have:=j 0 h;rw[o.blk.cell]at this;cases d with
 |zero=>simp at this
 |succ k=>simp at this
theorem Cur.belowB{w w' g B N l}(d:Cur w g B l)(h:Below N w w')(r:B<=N)(m:g<N):Cur w' g B l:=by
 obtain⟨a,n,c,d⟩:=d;refine⟨a,n,c,(h.block g m).trans d.blk,⟨d.bs.len_eq,d.bs.le,d.bs.le',d.bs.nil,fun j=> ?_,d.bs.byte⟩,d.low⟩;obtain⟨b,f,e,p,k⟩:=d.bs.at_ j;have q:=d.low b f j e;refine⟨b,f,e,ws p h.size,fun i o=> ?_⟩;rw[CP (a:=⟨b,f+i,none⟩) (h.block b t7)];exact k i o
theorem OnlyB.thenN{g N w w1 c}(b:OnlyB g w w1)(a:Below N w1 c)(f:w.1.size<=N):OnlyB g w c:=
 ⟨a.os.trans b.os,a.tape.trans b.tape,a.output.trans b.output,u9 b.size a.size,fun k d e=>(a.block k t7).trans (b.block k d e)⟩
theorem Cur.lt{w g B l}(b:Cur w g B l):g<w.1.size:=by
 obtain⟨a,n,c,b⟩:=b;exact b.blk.lt
theorem Cur.byte{w g B l}(b:Cur w g B l):IsB l:=by
 obtain⟨a,n,c,b⟩:=b;exact b.bs.byte
theorem jr(g B l k w)(h:Cur w g B l)(H:1<=k)(I:k<=l.length):
 Calls prog 169 #[.pointer (some ⟨g,0,none⟩),.int .i64 (k:Int)] w fun e w'=> ∃b d u,e= .returned (.slice (some ⟨b,d,none⟩) k u)/\OnlyB g w w'/\Cur w' g B (l.drop k)/\Bs w' (some ⟨b,d,none⟩) k u (l.take k)/\b<w.1.size/\b≠g/\b<B:=by
 obtain⟨a,n,c,h⟩:=h;have J:=h.bs.len_eq;obtain⟨b,d,rfl,y,_⟩:=h.bs.at_ t7;have i:=h.ne b d t7 rfl;have m:=h.low b d t7 rfl;have E:=h.bs.le;have z:=h.bs.le';unfold maxLen at z;have F:=h.blk.cell 0;have G:=h.blk.free 0;have D:decide (k<=n)=true:=by simp;omega
 have s:Bs w (some ⟨b,d,none⟩) k c (l.take k):=by have:=h.bs.cut 0 k t7 c t7 h.bs.le';simpa using this
 have j:Bs w (some ⟨b,d+k,none⟩) (n-k) (c-k) (l.drop k):=by
  have:=h.bs.cut k (n-k) t7 (c-k) t7 (by have:=h.bs.le';omega);rwa [wC (by rw[vk];omega)]at this
 have r:Hid (∀f,(f=some ⟨b,d+k,none⟩\/(c=k/\f=some ⟨b,d,none⟩))->OnlyB g w (w.setCell ⟨g,0,none⟩ (.slice f (n-k) (c-k)))/\Cur (w.setCell ⟨g,0,none⟩ (.slice f (n-k) (c-k))) g B (l.drop k)/\Bs (w.setCell ⟨g,0,none⟩ (.slice f (n-k) (c-k))) (some ⟨b,d,none⟩) k c (l.take k)):=fun f v=>by
  have o:=ax w g 0 (.slice f (n-k) (c-k));refine⟨o,⟨f,n-k,c-k,h.blk.set 0 _,?_,fun t p A e=> ?_⟩,s.only o (fun t p _ e=>by cases e;exact i)⟩
  rotate_left
  ·rcases v with rfl|⟨hc,rfl⟩<;>cases e<;>exact m
  rcases v with rfl|⟨hc,rfl⟩
  ·exact j.only o (fun t p _ e=>by cases e;exact i)
  ·refine⟨j.len_eq,j.le,j.le',fun e=>(by cases e),fun A=>by omega,j.byte⟩
 clear h s j;go_enter func169,ntmps169;go_wp2_with fail;refine BV (ez w) ?_;rintro e w1 ⟨rfl,C⟩;obtain rfl:=C.symm;go_wp2
 ·have x:c-k=0:=t7;go_ret;have q:=r.out (some ⟨b,d,none⟩) (u4 ⟨by assumption,rfl⟩);rw[x]at q;exact⟨b,d,c,by simp_all,q.1,q.2.1,q.2.2,y,i,m⟩
 ·go_ret;have q:=r.out (some ⟨b,d+k,none⟩) (u5 rfl);exact⟨b,d,c,rfl,q.1,q.2.1,q.2.2,y,i,m⟩
theorem lV(g B l k w)(b:Cur w g B l)(m:l.length<k)(h:k<=1048576):
 Calls prog 169 #[.pointer (some ⟨g,0,none⟩),.int .i64 (k:Int)] w fun e w'=>e= .panicked bI/\w'=w:=by
 obtain⟨a,n,c,b⟩:=b;have o:=b.bs.len_eq;have d:=b.bs.le';unfold maxLen at d;have j:=b.blk.cell 0;have i:decide (k<=n)=false:=by simp;omega
 clear b;go_enter func169,ntmps169;go_wp2_with fail;refine BV (fi w) ?_;rintro e w1 ⟨rfl,f⟩;obtain rfl:=f.symm;go_wp2;exact⟨rfl,rfl,rfl⟩
theorem uf(g B l w)(i:Cur w g B l)(d:4<=l.length):
 Calls prog 147 #[.pointer (some ⟨g,0,none⟩)] w fun e w'=>e= .returned (.int .i64 (low (l.take 4)))/\OnlyB g w w'/\Cur w' g B (l.drop 4):=by
 have T:=jr g B l 4 w i t7 d;clear i;go_enter func147,ntmps147;go_wp2_with fail;refine BV T ?_;rintro e w1 ⟨b,j,c,rfl,o,h,R,_⟩;have N:=iO _ 4 c (l.take 4) w1 R t7;have a:=t6 o h;clear o h R T;go_wp2_with fail;refine BV N ?_;rintro e k ⟨rfl,f⟩;obtain rfl:=f.symm;go_wp2;go_ret;exact⟨rfl,a.out⟩
theorem nt(g B l w)(c:Cur w g B l)(a:l.length<4):
 Calls prog 147 #[.pointer (some ⟨g,0,none⟩)] w fun e w'=>e= .panicked bI/\OnlyB g w w':=by
 have T:=lV g B l 4 w c a t7;clear c;go_enter func147,ntmps147;go_wp2_with fail;refine BV T ?_;rintro e w1 ⟨rfl,b⟩;obtain rfl:=b.symm;go_wp2;exact⟨rfl,rfl,OnlyB.refl _ _⟩
theorem nu(g B l w)(d:Cur w g B l):
 Calls prog 148 #[.pointer (some ⟨g,0,none⟩)] w fun e w'=>e= .returned (.bool (decide (l.length=0)))/\w'=w:=by
 obtain⟨a,n,c,d⟩:=d;have h:=d.bs.len_eq;have j:=d.blk.cell 0;rw[h];clear d;by_cases b:n=0
 ·subst b;go_enter func148,ntmps148;go_wp2;go_ret;exact⟨rfl,rfl⟩
 ·have f:=B1 b;rw[f];have i:((n:Int)==0)=false:=by simp[b]
  clear f;go_enter func148,ntmps148;go_wp2;go_ret
  first|exact⟨rfl,rfl⟩|exact⟨by simp[b],rfl⟩
theorem ug(g B l w)(t:Cur w g B l)(u:1<=lfK l)(G:lfK l<=40)(H:1+lfK l<=l.length):
 Calls prog 154 #[.pointer (some ⟨g,0,none⟩)] w fun e w'=>e= .returned (.string (cU l))/\OnlyB g w w'/\Cur w' g B (l.drop (1+lfK l)):=by
 have i:=t.byte;obtain⟨k0,I⟩:=i 0;have T:=jr g B l 1 w t t7 t7;have x:l.getD 0 0=((lfK l:Nat):Int):=by unfold lfK;omega
 have c:Hid (cU l=strOfNums ((l.drop 1).take (lfK l))):=rfl;have C:(l.drop 1).length=l.length-1:=vk;generalize lfK l=k at*;clear t;go_enter func154,ntmps154;go_wp2_with fail;refine BV T ?_;rintro e w1 ⟨b,p,E,rfl,o,A,R,_⟩;obtain⟨_,_,s,_,j⟩:=R.at_ t7;cases s;have r:w1.cell? ⟨b,p,none⟩=some (.int .u8 (k:Nat)):=by
  have:=j 0 t7;rw[wR]at this;rw[this];have e:(l.take 1).getD 0 0=l.getD 0 0:=by cases l<;>simp
  rw[e,x]
 have v:decide ((k:Int)<=40)=true:=B2 t7;have N:=ez w1;have h:=jr g B (l.drop 1) k w1 A u t7;have q:Hid _:=o;clear o A R T j;go_wp2_with fail;refine BV N ?_;rintro e J ⟨rfl,m⟩;obtain rfl:=m.symm;clear m N r;go_wp2_with fail;refine BV h ?_;rintro e K ⟨D,z,F,rfl,n,d,f,_⟩;have y:=jn f;rw[<-c.out]at y;have a:=t6 (q.out.trans n) d;clear n d f h;go_wp2_with fail;go_ret;exact⟨rfl,a.out.1,by have:=a.out.2;rwa [wP]at this⟩
theorem uh(g B l w)(f:Cur w g B l)(A:¬(1<=lfK l/\lfK l<=40/\1+lfK l<=l.length)):
 Calls prog 154 #[.pointer (some ⟨g,0,none⟩)] w fun e w'=>e= .panicked bI/\OnlyB g w w':=by
 have i:=f.byte;obtain⟨k0,D⟩:=i 0;by_cases u:l.length<1
 ·have T:=lV g B l 1 w f u t7;clear f;go_enter func154,ntmps154;go_wp2_with fail;refine BV T ?_;rintro e w1 ⟨rfl,a⟩;obtain rfl:=a.symm;go_wp2;exact⟨rfl,rfl,OnlyB.refl _ _⟩
 have T:=jr g B l 1 w f t7 t7;have x:l.getD 0 0=((lfK l:Nat):Int):=by unfold lfK;omega
 have z:lfK l<256:=t7;have y:(l.drop 1).length=l.length-1:=vk;generalize lfK l=k at*;clear f;go_enter func154,ntmps154;go_wp2_with fail;refine BV T ?_;rintro e w1 ⟨b,n,C,rfl,o,q,R,_⟩;obtain⟨_,_,t,_,j⟩:=R.at_ t7;cases t;have s:w1.cell? ⟨b,n,none⟩=some (.int .u8 (k:Nat)):=by
  have:=j 0 t7;rw[wR]at this;rw[this];have e:(l.take 1).getD 0 0=l.getD 0 0:=by cases l<;>simp
  rw[e,x]
 have c:Hid _:=o;clear o R T j;by_cases m:1<=k/\k<=40
 ·obtain⟨v,h⟩:=m;have d:decide ((k:Int)<=40)=true:=B2 t7;have N:=ez w1;have r:=lV g B (l.drop 1) k w1 q t7 t7;clear q;go_wp2_with fail;refine BV N ?_;rintro e p ⟨rfl,a⟩;obtain rfl:=a.symm;clear a N s;go_wp2_with fail;refine BV r ?_;rintro e E ⟨rfl,a⟩;obtain rfl:=a.symm;go_wp2;exact⟨rfl,rfl,c.out⟩
 ·have N:=fi w1;clear q;by_cases v:1<=k
  ·have d:decide ((k:Int)<=40)=false:=B1 t7;go_wp2_with fail;refine BV N ?_;rintro e p ⟨rfl,a⟩;obtain rfl:=a.symm;go_wp2;exact⟨rfl,rfl,c.out⟩
  ·have h:k=0:=t7;subst h;go_wp2_with fail;refine BV N ?_;rintro e p ⟨rfl,a⟩;obtain rfl:=a.symm;go_wp2;exact⟨rfl,rfl,c.out⟩
theorem take_zero(g B l w)(b:Cur w g B l):
 Calls prog 169 #[.pointer (some ⟨g,0,none⟩),.int .i64 0] w fun e w'=> ∃a f,e= .returned (.slice a 0 f)/\OnlyB g w w'/\Cur w' g B l/\Bs w' a 0 f []:=by
 obtain⟨a,n,c,b⟩:=b;have q:=b.bs.len_eq;have h:=b.bs.le';unfold maxLen at h;have m:=b.blk.cell 0;have p:=b.blk.free 0;have o:=ax w g 0 (.slice a n c);have d:Hid (OnlyB g w (w.setCell ⟨g,0,none⟩ (.slice a n c))/\Cur (w.setCell ⟨g,0,none⟩ (.slice a n c)) g B l/\Bs (w.setCell ⟨g,0,none⟩ (.slice a n c)) a 0 c []):=
  ⟨o,⟨a,n,c,b.blk.set 0 _,b.bs.only o b.ne,b.low⟩,rfl,t7,by unfold maxLen;omega,b.bs.nil,fun j=>absurd j (Nat.lt_irrefl _),eX⟩
 clear b o;go_enter func169,ntmps169;go_wp2_with fail;refine BV (ez w) ?_;rintro e w1 ⟨rfl,k⟩;obtain rfl:=k.symm;cases a with
 |none=>
  go_wp2;go_ret;exact⟨none,c,rfl,d.out⟩
 |some i=>
  go_wp2;go_ret;exact⟨some i,c,rfl,d.out⟩
def ny(l:List Int):ByteArray:=strOfNums ((l.drop 1).take (lfK l))
theorem AN(g B l w)(E:Cur w g B l)(d:lfK l<=70)(f:1+lfK l<=l.length):
 Calls prog 155 #[.pointer (some ⟨g,0,none⟩)] w fun e w'=>e= .returned (.string (ny l))/\OnlyB g w w'/\Cur w' g B (l.drop (1+lfK l)):=by
 have r:=E.byte;obtain⟨k0,O⟩:=r 0;have T:=jr g B l 1 w E t7 t7;have G:l.getD 0 0=((lfK l:Nat):Int):=by unfold lfK;omega
 have m:Hid (ny l=strOfNums ((l.drop 1).take (lfK l))):=rfl;have J:(l.drop 1).length=l.length-1:=vk;generalize lfK l=k at*;clear E;go_enter func155,ntmps155;go_wp2_with fail;refine BV T ?_;rintro e w1 ⟨b,x,i,rfl,o,y,R,_⟩;obtain⟨_,_,D,_,s⟩:=R.at_ t7;cases D;have C:w1.cell? ⟨b,x,none⟩=some (.int .u8 (k:Nat)):=by
  have:=s 0 t7;rw[wR]at this;rw[this];have e:(l.take 1).getD 0 0=l.getD 0 0:=by cases l<;>simp
  rw[e,G]
 have z:Hid _:=o;have F:decide ((k:Int)<=70)=true:=B2 t7;have N:=ez w1;have q:Calls prog 169 #[.pointer (some ⟨g,0,none⟩),.int .i64 (k:Int)] w1 fun e w'=> ∃a i,e= .returned (.slice a k i)/\OnlyB g w1 w'/\Cur w' g B ((l.drop 1).drop k)/\Bs w' a k i ((l.drop 1).take k):=by
  by_cases t:k=0
  ·subst t;refine(take_zero g B (l.drop 1) w1 y).mono ?_;rintro e w' ⟨a,c,rfl,j,d,f⟩;exact⟨a,c,rfl,j,d,f⟩
  ·refine(jr g B (l.drop 1) k w1 y t7 t7).mono ?_;rintro e w' ⟨L,I,A,rfl,j,d,f,_⟩;exact⟨_,A,rfl,j,d,f⟩
 clear o y R T s;go_wp2_with fail;refine BV N ?_;rintro e P ⟨rfl,u⟩;obtain rfl:=u.symm;clear u N C;go_wp2_with fail;refine BV q ?_;rintro e Q ⟨K,M,rfl,v,n,p⟩;have H:=jn p;rw[<-m.out]at H;have h:=t6 (z.out.trans v) n;clear v n p q;go_wp2_with fail;go_ret;exact⟨rfl,h.out.1,by have:=h.out.2;rwa [wP]at this⟩
theorem AP(g B l w)(f:Cur w g B l)(x:¬(lfK l<=70/\1+lfK l<=l.length)):
 Calls prog 155 #[.pointer (some ⟨g,0,none⟩)] w fun e w'=>e= .panicked bI/\OnlyB g w w':=by
 have h:=f.byte;obtain⟨k0,z⟩:=h 0;by_cases r:l.length<1
 ·have T:=lV g B l 1 w f r t7;clear f;go_enter func155,ntmps155;go_wp2_with fail;refine BV T ?_;rintro e w1 ⟨rfl,a⟩;obtain rfl:=a.symm;go_wp2;exact⟨rfl,rfl,OnlyB.refl _ _⟩
 have T:=jr g B l 1 w f t7 t7;have s:l.getD 0 0=((lfK l:Nat):Int):=by unfold lfK;omega
 have u:(l.drop 1).length=l.length-1:=vk;generalize lfK l=k at*;clear f;go_enter func155,ntmps155;go_wp2_with fail;refine BV T ?_;rintro e w1 ⟨b,j,y,rfl,o,m,R,_⟩;obtain⟨_,_,q,_,i⟩:=R.at_ t7;cases q;have p:w1.cell? ⟨b,j,none⟩=some (.int .u8 (k:Nat)):=by
  have:=i 0 t7;rw[wR]at this;rw[this];have e:(l.take 1).getD 0 0=l.getD 0 0:=by cases l<;>simp
  rw[e,s]
 have d:Hid _:=o;clear o R T i;by_cases v:k<=70
 ·have c:decide ((k:Int)<=70)=true:=B2 t7;have N:=ez w1;have n:=lV g B (l.drop 1) k w1 m t7 t7;clear m;go_wp2_with fail;refine BV N ?_;rintro e t ⟨rfl,a⟩;obtain rfl:=a.symm;clear a N p;go_wp2_with fail;refine BV n ?_;rintro e A ⟨rfl,a⟩;obtain rfl:=a.symm;go_wp2;exact⟨rfl,rfl,d.out⟩
 ·have c:decide ((k:Int)<=70)=false:=B1 t7;have N:=fi w1;clear m;go_wp2_with fail;refine BV N ?_;rintro e t ⟨rfl,a⟩;obtain rfl:=a.symm;go_wp2;exact⟨rfl,rfl,d.out⟩
theorem ui{s}(f v):∀n i q,i<n->q<s->IsRow s f n->(aK f n).set (i*s+q) v=aK (cH f i ((f i).set q v)) n
 |0,i,q,d,_,_=>by omega
 |n+1,i,q,d,c,H=>by
  have a:=gU n (H.mono t7);by_cases e:i=n
  ·subst e;rw[lK,aK,List.set_append_right _ _ t7,a,show i*s+q-i*s=q by omega]
  ·have b:(i+1)*s<=n*s:=x6 _ t7;rw[xP,xA]at b;rw[aK,aK,List.set_append_left _ _ t7,ui f v n i q t7 c (H.mono t7)];have:cH f i ((f i).set q v) n=f n:=by simp[cH,Ne.symm e]
   rw[this]
theorem AQ{e s B g w n c f}(h:ORow e s B w (some ⟨g,0,none⟩) n c f)(d:IsRow s f n)(i q)(a:i<n)(b:q<s)(v):
 ORow e s B (w.setCell ⟨g,i*s+q,none⟩ v) (some ⟨g,0,none⟩) n c (cH f i ((f i).set q v))/\w.grownBy (w.setCell ⟨g,i*s+q,none⟩ v) (some g):=by
 have:=World.ownsRow.stored h (i*s+q) v;unfold ORow;rw[<-ui f v n i q a b d];exact this
def mk(p:Nat)(N:Nat->Nat)(k:Int):Nat->Int
 |0=>k
 |i+1=>mk p N k i+p+N i
theorem lW{p e B w a n c j h N i L}(k:ORecs p e B w a n c j h N i L)(m:0<n):∃g,a=some ⟨g,0,none⟩/\B<=g:=by
 rcases k.row.2 with⟨e,l⟩|⟨g,d,f,e,b,_⟩
 ·omega
 ·cases e;exact⟨g,rfl,b⟩
theorem ORecs.cellInt{p e B g w n c i l N m L}(o:ORecs p e B w (some ⟨g,0,none⟩) n c i l N m L)(j q)(f:j<n)(h:q<p):w.cell? ⟨g,j*(p+1)+q,none⟩=some (.int .i64 (i j q)):=by
 obtain⟨b,k,a,_,d⟩:=o.reads.at_ t7;cases a;have:=(d j f).1 q h;rw[wg]at this;exact this
theorem ORecs.cellData{p e B g w n c l h N i L}(m:ORecs p e B w (some ⟨g,0,none⟩) n c l h N i L)(j)(f:j<n):w.cell? ⟨g,j*(p+1)+p,none⟩=some (.slice (h j) (N j) (i j)):=by
 obtain⟨b,k,a,_,d⟩:=m.reads.at_ t7;cases a;have:=(d j f).2;rw[wg]at this;exact this
theorem ORecs.congr'{p e B w a n c k I' h N j L L'}(f:ORecs p e B w a n c k h N j L)(g:∀i,i<n->∀q,q<p->k i q=I' i q)(d:∀i,i<n->L i=L' i):ORecs p e B w a n c I' h N j L':=
 ⟨by rw[<-lM p n (fun i b=>⟨g i b,rfl⟩)];exact f.row,fun i b=>by rw[<-d i b];exact f.data i b,fun i b=>by rw[<-d i b];exact f.byte i b,f.sep1⟩
structure Turned(T:Nat->Prop)(w w':World):Prop where
 os:w'.os=w.os
 tape:w'.tape=w.tape
 output:w'.output=w.output
 size:w'.1.size=w.1.size
 block:∀k,¬T k->w'.heap[k]?=w.heap[k]?
theorem Turned.row{T}{B e size:Nat}{w w' v n xs}(b:Turned T w w')(c:w.ownsRow B e size v n xs)(a:∀k,v.ownBlock=some k->¬T k):w'.ownsRow B e size v n xs:=by
 refine⟨c.1,?_⟩;rcases c.2 with h2|⟨g,cap,cur,rfl,hg,hh,r⟩
 ·exact u5 h2
 ·exact u4 ⟨g,cap,cur,rfl,hg,by rw[b.block g (a g rfl)];exact hh,r⟩
theorem ORecs.turned{T p e B w w' a n c m g N h L}(f:ORecs p e B w a n c m g N h L)(d:Turned T w w')(l:∀k,(Value.slice a n c).ownBlock=some k->¬T k)(j:∀i,i<n->∀k,(Value.slice (g i) (N i) (h i)).ownBlock=some k->¬T k):ORecs p e B w' a n c m g N h L:=
 ⟨d.row f.row l,fun i b=>d.row (f.data i b) (j i b),f.byte,f.sep1⟩
theorem AR(p a v u):(dH p a v).set p u=dH p a u:=by
 unfold dH;rw[List.set_append_right _ _ uB];simp
theorem uj(p a b u j):∀n,j<n->(dy p a b n).set (j*(p+1)+p) u=dy p a (upd b j u) n
 |0,f=>by omega
 |n+1,f=>by
  rw[dy,dy];by_cases e:j=n
  ·subst e;rw[List.set_append_right _ _ (by rw[i8];omega),i8];rw[show j*(p+1)+p-j*(p+1)=p by omega,AR,be];rw[lM p j (I':=a) (V':=upd b j u) (fun i c=>⟨fun r _=>rfl,by rw[fY _ _ _ c]⟩)]
  ·have d:(j+1)*(p+1)<=n*(p+1):=x6 _ t7;rw[xP,xA]at d;rw[List.set_append_left _ _ (by rw[i8];omega),uj p a b u j n t7,bw _ _ _ t7]
theorem ORecs.putSlice{p e B g w n c I D N E L}(l:ORecs p e B w (some ⟨g,0,none⟩) n c I D N E L)(K:e≠5)(j)(M:j<n)(b f d A)(P:Own B w b f d A)(O:IsB A)(o:∀i,i<n->∀k,(Value.slice (D i) (N i) (E i)).ownBlock=some k->(Value.slice b f d).ownBlock≠some k):
 ORecs p e B (w.setCell ⟨g,j*(p+1)+p,none⟩ (.slice b f d)) (some ⟨g,0,none⟩) n c I (upd D j b) (upd N j f) (upd E j d) (upd L j A)/\w.grownBy (w.setCell ⟨g,j*(p+1)+p,none⟩ (.slice b f d)) (some g):=by
 have m:=World.ownsRow.stored l.row (j*(p+1)+p) (.slice b f d);rw[uj p I _ _ j n M]at m;have J:upd (fun i=>Value.slice (D i) (N i) (E i)) j (.slice b f d)=fun i=> .slice (upd D j b i) (upd N j f i) (upd E j d i):=by
  funext i;by_cases a:i=j
  ·subst a;simp[upd]
  ·simp[upd,a]
 rw[J]at m;have q:∀{x:Nat}{r:Option Addr}{u s:Nat}{C:List Int},Own x w r u s C->Own x (w.setCell ⟨g,j*(p+1)+p,none⟩ (.slice b f d)) r u s C:=fun{x r u s C} F=>by
  refine World.ownsRow.kept F m.2 ?_;cases h:(Value.slice r u s).ownBlock with
  |none=>exact u5 rfl
  |some k=>exact u4 fun a=>jR F l.row (DX K) k h (by rw[a];rfl)
 refine⟨⟨m.1,fun i y=> ?_,fun i y=> ?_,fun i z G v k h=> ?_⟩,m.2⟩
 ·by_cases a:i=j
  ·subst a;rw[be,be,be,be];exact q P
  ·rw[bw _ _ _ a,bw _ _ _ a,bw _ _ _ a,bw _ _ _ a];exact q (l.data i y)
 ·by_cases a:i=j
  ·subst a;rw[be];exact O
  ·rw[bw _ _ _ a];exact l.byte i y
 ·by_cases a:i=j
  ·subst a;rw[be,be,be]at h;rw[bw _ _ _ t7,bw _ _ _ t7,bw _ _ _ t7];intro H;exact o z v k H h
  ·rw[bw _ _ _ a,bw _ _ _ a,bw _ _ _ a]at h;by_cases t:z=j
   ·subst t;rw[be,be,be];exact o i t7 k h
   ·rw[bw _ _ _ t,bw _ _ _ t,bw _ _ _ t];exact l.sep1 i z G v k h
theorem ORecs.setSlice{p e B g w0 w n c y v N x L}(z:ORecs p e B w0 (some ⟨g,0,none⟩) n c y v N x L)(q:e≠5)(m:Below w0.1.size w0 w)(j)(s:j<n)(a d b f)(l:Own w0.1.size w a d b f)(u:IsB f)(o:B<=w0.1.size):
 ORecs p e B (w.setCell ⟨g,j*(p+1)+p,none⟩ (.slice a d b)) (some ⟨g,0,none⟩) n c y (upd v j a) (upd N j d) (upd x j b) (upd L j f)/\w.grownBy (w.setCell ⟨g,j*(p+1)+p,none⟩ (.slice a d b)) (some g):=by
 refine(z.below m).putSlice q j s a d b f (l.mono o) u (fun i r k t h=> ?_);have A:=(BS l k h).1;have C:=(BS (z.data i r) k t).2;omega
structure DV where
 sa:Option Addr
 sc:Nat
 sA:Nat->Option Addr
 sN:Nat->Nat
 sC:Nat->Nat
 pa:Option Addr
 pc:Nat
 pA:Nat->Option Addr
 pN:Nat->Nat
 pC:Nat->Nat
structure DK where
 n:Nat
 S:Nat->List Int
 m:Nat
 At:Nat->Int
 D:Nat->List Int
def av(d:DV)(K:DK):Value:= .agg #[.slice d.sa K.n d.sc,.slice d.pa K.m d.pc]
def zI:Nat->Nat->Int:=fun _ _=>0
def aI(K:DK):Nat->Nat->Int:=fun i _=>K.At i
structure RDisk(w:World)(d:DV)(K:DK):Prop where
 safe:RRecs 0 w d.sa K.n d.sc zI d.sA d.sN d.sC K.S
 pend:RRecs 1 w d.pa K.m d.pc (aI K) d.pA d.pN d.pC K.D
structure ODisk(B:Nat)(w:World)(d:DV)(K:DK):Prop where
 safe:ORecs 0 56 B w d.sa K.n d.sc zI d.sA d.sN d.sC K.S
 pend:ORecs 1 133 B w d.pa K.m d.pc (aI K) d.pA d.pN d.pC K.D
 sepX:∀i j,i<K.n->j<K.m->∀k,(Value.slice (d.sA i) (d.sN i) (d.sC i)).ownBlock=some k->(Value.slice (d.pA j) (d.pN j) (d.pC j)).ownBlock≠some k
theorem RDisk.below{w w' d K}(b:RDisk w d K)(a:Below w.1.size w w'):RDisk w' d K:=⟨b.safe.below a,b.pend.below a⟩
theorem ODisk.below{B w w' d K}(b:ODisk B w d K)(a:Below w.1.size w w'):ODisk B w' d K:=⟨b.safe.below a,b.pend.below a,b.sepX⟩
theorem ODisk.mono{B B' w d K}(b:ODisk B w d K)(a:B'<=B):ODisk B' w d K:=⟨b.safe.mono a,b.pend.mono a,b.sepX⟩
theorem ODisk.reads{B w d K}(a:ODisk B w d K):RDisk w d K:=⟨a.safe.reads,a.pend.reads⟩
def dmk(d:DV)(K:DK)(k:Int):Int:=mk 1 d.pN (mk 0 d.sN k K.n) K.m
structure Small(d:DV)(K:DK):Prop where
 n:K.n<=1048576
 m:K.m<=1048576
 sN:∀i,i<K.n->d.sN i<=1048576
 pN:∀i,i<K.m->d.pN i<=1048576
 all:dmk d K 1<=1099511627776
def IsBox(w:World)(g:Nat)(d:DV)(K:DK):Prop:=w.heap[g]?=some (.cells #[.slice d.sa K.n d.sc,.slice d.pa K.m d.pc] 35 (0,0))
theorem IsBox.c0{w g d K}(a:IsBox w g d K):w.cell? ⟨g,0,none⟩=some (.slice d.sa K.n d.sc):=by rw[CV w g 0 _ _ _ a];rfl
theorem IsBox.c1{w g d K}(a:IsBox w g d K):w.cell? ⟨g,1,none⟩=some (.slice d.pa K.m d.pc):=by rw[CV w g 1 _ _ _ a];rfl
theorem IsBox.lt{w g d K}(a:IsBox w g d K):g<w.1.size:=(vR.1 a).1
theorem IsBox.below{w w' g d K}(b:IsBox w g d K)(a:Below w.1.size w w'):IsBox w' g d K:=by
 unfold IsBox;rw[a.block g b.lt];exact b
theorem nz(w:World)(d K):IsBox (w.alloc (.cells #[.slice d.sa K.n d.sc,.slice d.pa K.m d.pc] 35)) w.1.size d K:=DI w _
def dOk(K:DK):Prop:=(1<=K.n/\K.n<=4096/\K.m<=5000)/\(∀i,i<K.n->(K.S i).length=64)/\∀j,j<K.m->0<=K.At j/\K.At j<K.n/\(K.D j).length=64
noncomputable def aR(K:DK):Bool:= @decide (dOk K) (Classical.propDecidable _)
theorem fj{K}(a:dOk K):aR K=true:= @decide_eq_true _ (Classical.propDecidable _) a
theorem gk{K}(a:¬dOk K):aR K=false:= @decide_eq_false _ (Classical.propDecidable _) a
theorem gK{K}(a:aR K=true):dOk K:= @of_decide_eq_true _ (Classical.propDecidable _) a
theorem AS(F r B pc aS aA u aT E aB K w)(o:RRecs 0 w F K.n B zI aS u aT K.S)(n:RRecs 1 w r K.m pc (aI K) aA E aB K.D):
 Calls prog 36 #[.agg #[.slice F K.n B,.slice r K.m pc]] w fun e w'=>e= .returned (.bool (aR K))/\Below w.1.size w w':=by
 have an:=u9 o.le o.le';have am:=u9 n.le n.le';unfold maxLen at an am;have s:=(Bn w.1.size w).alloc t1 (.cells #[.slice F K.n B,.slice r K.m pc] 35);have z:Hid _:=s;have g:Hid (∀(_:¬dOk K),aR K=false):=gk;have ab:Hid (∀(_:dOk K),aR K=true):=fj;by_cases bd:(K.n:Int)<1
 ·have c:Hid (aR K=false):=g.out (fun a=>by have:=a.1;omega);clear s;go_enter func36,ntmps36;go_wp2;go_ret;exact⟨by rw[c.out];rfl,z.out⟩
 ·by_cases bf:(4096:Int)< (K.n:Int)
  ·have c:Hid (aR K=false):=g.out (fun a=>by have:=a.1;omega);clear s;go_enter func36,ntmps36;go_wp2;go_ret;exact⟨by rw[c.out];rfl,z.out⟩
  ·by_cases bg:(5000:Int)< (K.m:Int)
   ·have c:Hid (aR K=false):=g.out (fun a=>by have:=a.1;omega);clear s;go_enter func36,ntmps36;go_wp2;go_ret;exact⟨by rw[c.out];rfl,z.out⟩
   ·have T:=o.below s;have S:=n.below s;clear s;have O:=fun i f=>(o.data i f).len_eq;have M:=fun i f=>(n.data i f).len_eq;have N:=fun i f=>u9 (n.data i f).le (n.data i f).le';have P:=fun i f=>u9 (o.data i f).le (o.data i f).le';have J:Hid _:=O;have I:Hid _:=M;have Y:Hid _:=N;have Z:Hid _:=P;clear O M N P o n;have a6:decide ((K.n:Int)<1)=false:=by simp;omega
    have a7:decide ((4096:Int)< (K.n:Int))=false:=by simp;omega
    have a8:decide ((5000:Int)< (K.m:Int))=false:=by simp;omega
    have a9:((K.n:Int))<=4096:=t7;have ba:((K.m:Int))<=5000:=t7;go_enter func36,ntmps36;go_wp2
    go_loop [4] (fun i=> ∃j:Nat,j<=K.n/\i= .int .i64 j/\∀k,k<j->u k=64) (fun i=>K.n-(intOf i).toNat)
    case atStart=>exact⟨0,u6 _,rfl,fun k a=>absurd a t7⟩
    case round=>
     obtain⟨j,bl,rfl,D⟩:=hrel;have C:Hid _:=D;clear D;by_cases x:j<K.n
     ·obtain⟨b,l,rfl,af,A⟩:=T.at_ t7;have k0:(w.alloc (.cells #[.slice (some ⟨b,l,none⟩) K.n B,.slice r K.m pc] 35)).cell? ⟨b,l+j,none⟩=some (.slice (aS j) (u j) (aT j)):=by have:=(A j x).2;simpa using this
      have R:=Z.out j x;unfold maxLen at R;have ag:(0:Int)<=(j:Int):=t7;have ak:(j:Int)< (K.n:Int):=t7;clear A T S;by_cases v:u j=64
      ·have h:((u j:Int) !=64)=false:=by simp;omega
       have U:Hid (u j=64):=v;clear v;go_wp2
       go_round
       case rel=>
        refine⟨j+1,t7,by go_num,fun k a=> ?_⟩;by_cases e:k=j
        ·subst e;exact U.out
        ·exact C.out k t7
       case measure=>simp[intOf];omega
      ·have h:((u j:Int) !=64)=true:=by simp;omega
       have c:Hid (aR K=false):=g.out (fun a=>v (by rw[<-J.out j x];exact a.2.1 j x));clear v;go_wp2;go_ret;exact⟨by rw[c.out];rfl,z.out⟩
     ·have e:j=K.n:=t7;have a0:Hid (j=K.n):=e;clear e T;have bk:decide ((j:Int)< (K.n:Int))=false:=by simp;omega
      go_wp2;go_loopw [5,6] (fun i _ wr=> ∃q:Nat,q<=K.m/\i= .int .i64 q/\Below (w.alloc (.cells #[.slice F K.n B,.slice r K.m pc] 35)).1.size (w.alloc (.cells #[.slice F K.n B,.slice r K.m pc] 35)) wr/\∀k,k<q->0<=K.At k/\K.At k<K.n/\E k=64) (fun i _ _=>K.m-(intOf i).toNat)
      case atStart=>exact⟨0,u6 _,rfl,t2,fun k a=>absurd a t7⟩
      case round=>
       obtain⟨q,bm,rfl,h,L⟩:=hrel;have H:Hid _:=L;clear L;have a5:wr.cell? ⟨w.1.size,1,none⟩=some (.slice r K.m pc):=by rw[h.cell (p:=⟨w.1.size,1,none⟩) uB];simp
       have br:w.1.size<wr.1.size:=by have:=h.size;simp at this;omega
       have m:Hid (Below w.1.size w wr):=z.out.trans (h.mono z.out.size);have V:Hid _:=h;have ap:=S.below h;clear h;by_cases d:q<K.m
       ·obtain⟨b,l,rfl,af,A⟩:=ap.at_ t7;have k0:wr.cell? ⟨b,l+q*2,none⟩=some (.int .i64 (K.At q)):=(A q d).1 0 t7;have bn:wr.cell? ⟨b,l+q*2+1,none⟩=some (.slice (aA q) (E q) (aB q)):=(A q d).2;have R:=Y.out q d;unfold maxLen at R;have ag:(0:Int)<=(q:Int):=t7;have ak:(q:Int)< (K.m:Int):=t7;clear A S ap;have W:=I.out q d;have X:Hid _:=W;clear W;generalize ad:K.At q=t at*;have Q:Hid (K.At q=t):=ad;clear ad;generalize ae:E q=y at*;have a1:Hid (E q=y):=ae;clear ae;by_cases bb:t<0
        ·have c:Hid (aR K=false):=g.out (fun a=>by have:=(a.2.2 q d).1;rw[Q.out]at this;omega);go_wp2;go_ret;exact⟨by rw[c.out];rfl,m.out.alloc m.out.size _⟩
        ·have a2:decide (t<0)=false:=by simp;omega
         by_cases bc:(K.n:Int)<=t
         ·have c:Hid (aR K=false):=g.out (fun a=>by have:=(a.2.2 q d).2.1;rw[Q.out]at this;omega);go_wp2;go_ret;exact⟨by rw[c.out];rfl,m.out.alloc m.out.size _⟩
         ·have a3:decide ((K.n:Int)<=t)=false:=by simp;omega
          by_cases G:y=64
          ·have ac:((y:Int) !=64)=false:=by simp;omega
           have aX:Hid (y=64):=G;clear G;go_wp2;go_roundw
           case rel=>
            refine⟨q+1,t7,by go_num,V.out.alloc V.out.size _,fun k a=> ?_⟩;by_cases e:k=q
            ·subst e;rw[Q.out,a1.out];exact⟨t7,t7,aX.out⟩
            ·exact H.out k t7
           case measure=>simp[intOf];omega
          ·have ac:((y:Int) !=64)=true:=by simp;omega
           have c:Hid (aR K=false):=g.out (fun a=>G (by have:=(a.2.2 q d).2.2;rw[X.out]at this;exact this));clear G;go_wp2;go_ret;exact⟨by rw[c.out];rfl,m.out.alloc m.out.size _⟩
       ·have a4:decide ((q:Int)< (K.m:Int))=false:=by simp;omega
        have c:Hid (aR K=true):=ab.out ⟨⟨t7,t7,t7⟩,fun i f=>by rw[J.out i f];exact C.out i (by have:=a0.out;omega),fun i f=>by have:=H.out i t7;rw[I.out i f];exact this⟩;go_wp2;go_ret;exact⟨by rw[c.out];rfl,m.out⟩
theorem jt(d K w)(a:RDisk w d K):
 Calls prog 36 #[av d K] w fun e w'=>e= .returned (.bool (aR K))/\Below w.1.size w w':=AS d.sa d.pa d.sc d.pc d.sA d.pA d.sN d.sC d.pN d.pC K w a.safe a.pend
def dJ(At:Nat->Int)(t:Int):Nat->Option Nat
 |0=>none
 |j+1=>if At j=t then some j else dJ At t j
theorem iv{At t}:∀{j i:Nat},dJ At t j=some i->i<j
 |0,i,a=>by simp[dJ]at a
 |j+1,i,a=>by
  simp only[dJ]at a;split at a
  ·cases a;omega
  ·have:=iv a;omega
def aP{α:Type}(At:Nat->Int)(f g:Nat->α)(j t:Nat):α:=match dJ At (t:Int) j with|some i=>f i|none=>g t
theorem qi{a:Type}(At)(f g:Nat->a)(t):aP At f g 0 t=g t:=rfl
theorem qj{b:Type}(At)(f g:Nat->b)(j t:Nat)(a:At j=(t:Int)):aP At f g (j+1) t=f j:=by simp[aP,dJ,a]
theorem qk{b:Type}(At)(f g:Nat->b)(j t:Nat)(a:At j≠(t:Int)):aP At f g (j+1) t=aP At f g j t:=by simp[aP,dJ,a]
def gL(K:DK)(t:Nat):List Int:=aP K.At K.D K.S K.m t
theorem uk{h:Type}{At f g j t n m}{P:h->Prop}(c:t<n)(e:j<=m)(a:∀i,i<m->P (f i))(b:∀i,i<n->P (g i)):P (aP At f g j t):=by
 unfold aP;split
 ·rename_i i d;exact a i (by have:=iv d;omega)
 ·exact b t c
theorem nA{w d K}(c:RDisk w d K)(t)(b:t<K.n):Bs w (aP K.At d.pA d.sA K.m t) (aP K.At d.pN d.sN K.m t) (aP K.At d.pC d.sC K.m t) (gL K t):=by
 unfold gL aP;split
 ·rename_i i a;exact c.pend.data i (iv a)
 ·exact c.safe.data t b
def dT(At:Nat->Int)(pA sA:Nat->Option Addr)(pN sN pC sC:Nat->Nat)(n j:Nat):List Value:=(List.range n).map fun t=> .slice (aP At pA sA j t) (aP At pN sN j t) (aP At pC sC j t)
theorem j9(At a d c f b e n j):(dT At a d c f b e n j).length=n:=by simp[dT]
theorem jv(At a d c f b e n j t)(g:t<n):(dT At a d c f b e n j)[t]?=some (.slice (aP At a d j t) (aP At c f j t) (aP At b e j t)):=by simp[dT,g]
theorem ul(At c h f k d i)(n j T:Nat)(g:At j=(T:Int)):(dT At c h f k d i n j).set T (.slice (c j) (f j) (d j))=dT At c h f k d i n (j+1):=by
 apply yc;intro t;rw[A2];by_cases b:t<n
 ·by_cases e:T=t
  ·subst e;rw[BC rfl,BC (by rw[j9];exact b),jv _ _ _ _ _ _ _ _ _ _ b,qj _ _ _ _ _ g,qj _ _ _ _ _ g,qj _ _ _ _ _ g]
  ·have a:At j≠(t:Int):=t7;rw[BX e,jv _ _ _ _ _ _ _ _ _ _ b,jv _ _ _ _ _ _ _ _ _ _ b,qk _ _ _ _ _ a,qk _ _ _ _ _ a,qk _ _ _ _ _ a]
 ·rw[xN (by rw[j9];omega),xN (l:=dT At c h f k d i n (j+1)) (by rw[j9];omega)];split
  ·rw[BX (by rw[j9];omega)]
  ·rfl
theorem AT(At b e d g c f n j):∀u∈dT At b e d g c f n j,u.oneCell'=true:=by
 intro u a;simp only[dT,xC]at a;obtain⟨_,_,rfl⟩:=a
 rfl
theorem AU(k:Nat)(g)(f:g=(k:Int))(h:k<=1048576)(w):
 (Instr.makeSlice 56 (.int .i64 g) (.int .i64 g)).run prog w= .ok (.slice (some ⟨w.1.size,0,none⟩) k k) (w.alloc (.cells (madeCells #[.int .u8 0] k) 5)):=by
 obtain⟨i,d,a,b,c⟩:=CT jM;subst f;have e:=run_make (P:=prog) w 56 5 i _ underlying56 d a .i64 .i64 k k t7 (z7 _) (by rw[c];omega) t7;rw[e,b];simp[Value.cells]
def kf:Array Value:=madeCells #[.int .u8 0] 64
def gM:List Int:=List.replicate 64 0
theorem AV(w):(Instr.makeSlice 56 (.int .i64 64) (.int .i64 64)).run prog w= .ok (.slice (some ⟨w.1.size,0,none⟩) 64 64) (w.alloc (.cells kf 5)):=AU 64 64 rfl t7 w
theorem AW(B)(w:World)(a:B<=w.1.size):Own B (w.alloc (.cells kf 5)) (some ⟨w.1.size,0,none⟩) 64 64 gM:=by
 have e:kf=(ob gM).toArray:=by
  apply Array.toList_inj.1;unfold kf gM;rw[toList_madeCells_one];simp[ob]
 rw[e];exact eI w gM 64 (by simp[gM]) t7 B a
theorem AX:IsB gM:=lH 64
theorem AY:gM.length=64:=by simp[gM]
theorem ql:(prog.info? 56).map (fun i=>(i.zero,i.size,i.bytes))=some (some (.slice none 0 0),1,24):=uA
theorem qm:∃i e,prog.info? 56=some i/\i.zero=some e/\i.size=0+1/\e.cells.size=0+1/\i.bytes<=64:=by
 obtain⟨i,c,a,b,d⟩:=CT ql;exact⟨i,_,c,a,b,rfl,t7⟩
theorem AZ(an s t pc m a o n f d K w)(am:RRecs 0 w an K.n t zI m o n K.S)(ak:RRecs 1 w s K.m pc (aI K) a f d K.D)(ag:dOk K):
 Calls prog 76 #[.agg #[.slice an K.n t,.slice s K.m pc]] w fun e w'=> ∃g c,e= .returned (.slice (some ⟨g,0,none⟩) K.n c)/\Below w.1.size w w'/\w'.ownsRow w.1.size 56 1 (.slice (some ⟨g,0,none⟩) K.n c) K.n (dT K.At a m f o d n K.n K.m):=by
 obtain⟨⟨a6,a7,a5⟩,_,ab⟩:=ag;obtain⟨i,af,J,L,M⟩:=CT ql;obtain⟨b,h,rfl,ad,ae⟩:=am.at_ t7;have v:∀r R,∀j u,(dT K.At a m f o d n K.n 0)[j]?=some u->((w.alloc r).alloc R).cell? ((⟨b,h,none⟩:Addr).add j)=some u:=fun r R j u H=>by
  have I:j<K.n:=by have:=(wb.1 H).1;rw[j9]at this;exact this
  rw[jv _ _ _ _ _ _ _ _ _ _ I,qi,qi,qi]at H;rw[CR,(fK w r R).cell (p:=⟨b,h+j,none⟩) ad,<-H];have:=(ae j I).2;simpa using this
 have V:Hid _:=v;have aT:Hid _:=(Bn w.1.size w).alloc t1 (.cells #[.slice (some ⟨b,h,none⟩) K.n t,.slice s K.m pc] 35);have aB:Hid _:=ab;clear v ae ab;go_enter func76,ntmps76;go_wp2_with (at_builtin;refine wpList_append_own _ rfl _ _ 22 rfl (w.1.size+1) 56 i _ 1 24 underlying22 af J L M rfl t7 _ 0 [] rfl ?own ⟨b,h,none⟩ K.n t (dT K.At a m f o d n K.n 0) rfl ?len ?cells ?one ?l1 ?l2 ?B ?_)
 case own=>
  have:=World.ownsRow_lit (base:=w.1.size+1) (e:=56) (size:=1) (w.alloc (.cells #[.slice (some ⟨b,h,none⟩) K.n t,.slice s K.m pc] 35)) #[] 0 uB (u6 _) uB;rw[World.size_alloc]at this;exact this
 case len=>rw[j9,Nat.mul_one]
 case cells=>exact V.out _ _
 case one=>exact AT _ _ _ _ _ _ _ _ _
 case l1=>unfold maxLen;omega
 case l2=>omega
 case B=>simp
 clear af J L M;intro v1 w1 r Z _;have a0:∃g c,v1= .slice (some ⟨g,0,none⟩) K.n c/\w.1.size+1<=g:=by
  rcases r.2 with⟨_,bb⟩|⟨g,Y,a1,e,P,_⟩
  ·omega
  ·exact⟨g,Y,e,P⟩
 obtain⟨g,c,D,P⟩:=a0;rw[D]at r;rw[D];have N:w1.ownsRow (w.1.size+1) 56 1 (.slice (some ⟨g,0,none⟩) K.n c) K.n (dT K.At a m f o d n K.n 0):=r;have X:Below (w.1.size+1) (w.alloc (.cells #[.slice (some ⟨b,h,none⟩) K.n t,.slice s K.m pc] 35)) w1:=by
  have q:Below (w.1.size+1) (w.alloc (.cells #[.slice (some ⟨b,h,none⟩) K.n t,.slice s K.m pc] 35)) _:=t2.alloc uB (.cells #[] 56);exact q.grown Z uB (fun k aX=>by simp[Value.ownBlock]at aX;omega)
 have U:Hid _:=X;have W:Hid _:=N;clear r Z D X N;go_wp2;go_loopw [4] (fun i wr=> ∃j:Nat,j<=K.m/\i= .int .i64 j/\Below (w.1.size+1) (w.alloc (.cells #[.slice (some ⟨b,h,none⟩) K.n t,.slice s K.m pc] 35)) wr/\wr.ownsRow (w.1.size+1) 56 1 (.slice (some ⟨g,0,none⟩) K.n c) K.n (dT K.At a m f o d n K.n j)) (fun i _=>K.m-(intOf i).toNat)
 case atStart=>exact⟨0,u6 _,rfl,U.out,W.out⟩
 case round=>
  clear U W;obtain⟨j,H,rfl,G,x⟩:=hrel;have a9:wr.cell? ⟨w.1.size,1,none⟩=some (.slice s K.m pc):=by rw[G.cell (p:=⟨w.1.size,1,none⟩) (xc _)];simp
  have O:Hid (Below w.1.size w wr):=aT.out.trans (G.mono (xa _));by_cases C:j<K.m
  ·obtain⟨E,l,rfl,z,A⟩:=ak.at_ t7;have y:=aB.out j C;obtain⟨T,F⟩:=xb y.1;have a8:Hid (K.At j=(T:Int)):=F;have ac:T<K.n:=by have:=y.2.1;omega
   have k0:wr.cell? ⟨E,l+j*2,none⟩=some (.int .i64 (T:Int)):=by rw[O.out.cell (p:=⟨E,l+j*2,none⟩) z,<-F];exact(A j C).1 0 t7
   have bc:wr.cell? ⟨E,l+j*2+1,none⟩=some (.slice (a j) (f j) (d j)):=by rw[O.out.cell (p:=⟨E,l+j*2+1,none⟩) z];exact(A j C).2
   have Q:wr.cell? ⟨g,T,none⟩=some (.slice (aP K.At a m j T) (aP K.At f o j T) (aP K.At d n j T)):=by rw[x.cellAt T t7,jv _ _ _ _ _ _ _ _ _ _ ac]
   have ba:wr.frozen? ⟨g,T,none⟩=false:=x.frozenAt T;have S:=(x.stored T (.slice (a j) (f j) (d j))).1;rw[ul _ _ _ _ _ _ _ _ _ _ F]at S;have ST:Hid (World.ownsRow (wr.setCell ⟨g,T,none⟩ (.slice (a j) (f j) (d j))) (w.1.size+1) 56 1 (.slice (some ⟨g,0,none⟩) K.n c) K.n (dT K.At a m f o d n K.n (j+1))):=S;have ap:Hid _:=G.setCell (p:=⟨g,T,none⟩) P (.slice (a j) (f j) (d j));have a2:(0:Int)<=(j:Int):=t7;have a3:(j:Int)< (K.m:Int):=t7;have a4:(0:Int)<=(T:Int):=t7;have hi4:(T:Int)< (K.n:Int):=t7;generalize aP K.At a m j T=bd at Q;generalize aP K.At f o j T=bg at Q;generalize aP K.At d n j T=bf at Q;clear S x G A ak am F y V;go_wp2_with fail;go_region
   all_goals
    go_wp2;go_roundw
    case rel=>exact⟨j+1,t7,by go_num,ap.out.drew,ST.out⟩
    case measure=>simp[intOf];omega
  ·have e:j=K.m:=t7;have aA:Hid (j=K.m):=e;clear e;have aS:Hid _:=x;clear x;go_wp2;go_ret;refine⟨g,c,rfl,O.out,?_⟩;have:=aS.out;rw[aA.out]at this;exact World.ownsRow.mono this (xa _)
theorem qn(d K w)(b:RDisk w d K)(a:dOk K):
 Calls prog 76 #[av d K] w fun e w'=> ∃g c,e= .returned (.slice (some ⟨g,0,none⟩) K.n c)/\Below w.1.size w w'/\w'.ownsRow w.1.size 56 1 (.slice (some ⟨g,0,none⟩) K.n c) K.n (dT K.At d.pA d.sA d.pN d.sN d.pC d.sC K.n K.m):=
 AZ d.sa d.pa d.sc d.pc d.sA d.pA d.sN d.sC d.pN d.pC K w b.safe b.pend a
theorem qo{K}(a:dOk K){t}(c:t<K.n):(gL K t).length=64:=
 uk (P:=fun l:List Int=>l.length=64) c t1 (fun i b=>(a.2.2 i b).2.2) (fun i b=>a.2.1 i b)
theorem nC{w d K}(c:RDisk w d K)(a:dOk K)(t)(b:t<K.n):aP K.At d.pN d.sN K.m t=64:=by
 have:=(nA c t b).len_eq;rw[qo a b]at this;exact this.symm
theorem um:∀{l k:List Int},IsB l->IsB k->Lib.bytesOf l=Lib.bytesOf k->l=k
 |[],[],_,_,_=>rfl
 |[],y::k,_,_,a=>by simp[Lib.bytesOf]at a
 |x::l,[],_,_,a=>by simp[Lib.bytesOf]at a
 |x::l,y::k,c,b,a=>by
  simp only[Lib.bytesOf,vo,List.cons.injEq]at a;have e:=mY c;have f:=mY b;have d:=um (mX c) (mX b) a.2;have g:x.toNat%256=y.toNat%256:=by have:=B8 UInt8.toNat a.1;simpa using this
  have:x=y:=t7;rw[this,d]
theorem A7(a b n m g h l k w)(i:Bs w a n g l)(c:Bs w b m h k)(s:0<n)(r:0<m):
 Calls prog 175 #[.slice a n g,.slice b m h] w fun e w'=>e= .returned (.bool (decide (l=k)))/\w'=w:=by
 obtain⟨o,t,rfl,_,d⟩:=i.at_ s;obtain⟨p,u,rfl,_,f⟩:=c.at_ r;have v:=run_convert_bytes_arg (P:=prog) w 56 5 underlying56 C4 o t n g l i.len_eq d 9 DP;have x:=run_convert_bytes_arg (P:=prog) w 56 5 underlying56 C4 p u m h k c.len_eq f 9 DP;have j:Hid ((Lib.bytesOf l==Lib.bytesOf k)=decide (l=k)):=by
  show(Lib.bytesOf l==Lib.bytesOf k)=decide (l=k);by_cases e:l=k
  ·rw[e];simp
  ·rw[B1 e,C8];exact fun q=>e (um i.byte c.byte q)
 rw[<-j.out,<-Lib.strOfNums_toList,<-Lib.strOfNums_toList];clear i c d f;go_enter func175,ntmps175;go_wp2;go_ret;exact⟨rfl,rfl⟩
def aJ(l:List Int)(i m:Nat):List Int:=(l.drop i).take m
theorem A8(b f d l w)(z:Bs w (some ⟨b,f,none⟩) 256 d l):
 Calls prog 172 #[.slice (some ⟨b,f,none⟩) 256 d] w fun e w'=>e= .returned (.agg #[.int .i64 (low (aJ l 4 4)),.int .i64 (l.getD 8 0),.int .i64 (low (aJ l 10 2)),.int .i64 (low (aJ l 0 4))])/\Below w.1.size w w':=by
 have Z:256<=d:=z.le;have u:d<=maxLen:=z.le';have F:Hid (Bs w (some ⟨b,f+4,none⟩) 4 (d-4) (aJ l 4 4)):=z.piece 4 4 t7 _ t7 t7;have x:Hid (Bs w (some ⟨b,f+10,none⟩) 2 (d-10) (aJ l 10 2)):=z.piece 10 2 t7 _ t7 t7;have R:Hid (Bs w (some ⟨b,f,none⟩) 4 d (aJ l 0 4)):=z.piece 0 4 t7 _ t7 t7;have K:=fun a n c v r s=>iO a n c (aJ l 4 4) v r s;have B:=fun a n c v r s=>iO a n c (aJ l 10 2) v r s;have J:=fun a n c v r s=>iO a n c (aJ l 0 4) v r s;generalize low (aJ l 4 4)=k at*;generalize low (aJ l 10 2)=i at*;generalize low (aJ l 0 4)=M at*;have Q:Hid _:=K;have E:Hid _:=B;have P:Hid _:=J;clear K B J;obtain⟨ap,ab,e,A,I⟩:=z.at_ t7;cases e;have C:=I 8 t7;have ag:=z.byte 8;generalize l.getD 8 0=h at*;have j:=(Bn w.1.size w).alloc t1 (.cells #[.int .i64 0,.int .i64 0,.int .i64 0,.int .i64 0] 272);have aA:(w.alloc (.cells #[.int .i64 0,.int .i64 0,.int .i64 0,.int .i64 0] 272)).cell? ⟨b,f+8,none⟩=some (.int .u8 h):=by rw[j.cell (p:=⟨b,f+8,none⟩) A];exact C
 have O:Hid (∀v,Below w.1.size w v->v.cell? ⟨b,f+8,none⟩=some (.int .u8 h)):=fun v U=>by rw[U.cell (p:=⟨b,f+8,none⟩) A];exact C
 have ad:=DI w (.cells #[.int .i64 0,.int .i64 0,.int .i64 0,.int .i64 0] 272);have af:(w.alloc (.cells #[.int .i64 0,.int .i64 0,.int .i64 0,.int .i64 0] 272)).1.size=w.1.size+1:=by simp
 unfold maxLen at u;have a2:(8:Int)<=(d:Int):=t7;have a3:(12:Int)<=(d:Int):=t7;have a4:(4:Int)<=(d:Int):=t7;have a5:¬d=4:=t7;have am:¬d=10:=t7;have t0:¬d=0:=t7;clear I z C;go_enter func172,ntmps172;go_wp2_with fail;generalize H:w.alloc (.cells #[.int .i64 0,.int .i64 0,.int .i64 0,.int .i64 0] 272)=q at*;clear H;have ac:=fun o=>(Bn q.1.size q).alloc t1 o;have ak:IntKind.i64.wrap h=h:=by simp[IntKind.wrap,IntKind.bits,IntKind.signed];omega
 have ae:=fun o=>((ac o).block w.1.size t7).trans ad;have S:Hid _:=ae;have t:True:=trivial;go_region_held3 (fun v=>v.cell? ⟨b,f+8,none⟩=some (.int .u8 h))
  (first|exact O.out _ (j.drew.alloc j.drew.size _)|go_keep)
  (first
  |(go_at_call 121;have T:=t;refine(Q.out _ _ _ _ ?_ ?_).mono ?_;(first|exact F.out.below j.drew|exact F.out.below (j.drew.alloc j.drew.size _));omega;rintro e w' ⟨rfl,rfl⟩;clear t T)
  |(go_at_call 121;refine(E.out _ _ _ _ ?_ ?_).mono ?_;(first|exact x.out.below j.drew|exact x.out.below (j.drew.alloc j.drew.size _));omega;rintro e w' ⟨rfl,rfl⟩))
 all_goals
  go_wp2_with fail;have N:=S.out (.cells #[.int .i64 k,.int .i64 h,.int .i64 i] 270);have D:=DI q (.cells #[.int .i64 k,.int .i64 h,.int .i64 i] 270);rw[af]at D;have L:=(j.alloc j.size (.cells #[.int .i64 k,.int .i64 h,.int .i64 i] 270)).drew;have g:(q.alloc (.cells #[.int .i64 k,.int .i64 h,.int .i64 i] 270)).drew.heap[w.1.size]?= _:=N;have m:(q.alloc (.cells #[.int .i64 k,.int .i64 h,.int .i64 i] 270)).drew.heap[w.1.size+1]?= _:=D;generalize (q.alloc (.cells #[.int .i64 k,.int .i64 h,.int .i64 i] 270)).drew=an at*;have V:=CV _ _ 0 _ _ _ g;have W:=CV _ _ 1 _ _ _ g;have X:=CV _ _ 2 _ _ _ g;have Y:=CV _ _ 3 _ _ _ g;have aB:=frozen_of_row _ _ 0 _ _ g;have f1:=frozen_of_row _ _ 1 _ _ g;have aS:=frozen_of_row _ _ 2 _ _ g;have aT:=frozen_of_row _ _ 3 _ _ g;have aX:=CV _ _ 0 _ _ _ m;have a0:=CV _ _ 1 _ _ _ m;have a1:=CV _ _ 2 _ _ _ m;have G:Hid _:=L;clear N D g m L;go_region_with (go_at_call 121;refine(P.out _ _ _ _ ?_ ?_).mono ?_;exact R.out.below G.out.drew;omega;rintro e w' ⟨rfl,rfl⟩)
  all_goals
   go_wp2;have y:=(((G.out.setCell (p:=⟨w.1.size,0,none⟩) t1 (.int .i64 k)).setCell (p:=⟨w.1.size,1,none⟩) t1 (.int .i64 h)).setCell (p:=⟨w.1.size,2,none⟩) t1 (.int .i64 i)).setCell (p:=⟨w.1.size,3,none⟩) t1 (.int .i64 M);refine BB (v:= .agg #[.int .i64 k,.int .i64 h,.int .i64 i,.int .i64 M]) (by simp[results,results172,go_sem,V,W,X,Y]) rfl ⟨rfl,?_⟩
   first|exact y.drew|exact y
