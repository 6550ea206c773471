import Derived.Test.YtglbanolhhjjiaaGreatDoorFo4
import Derived.Lib.Bytes
import Derived.Deep.RegionHeld3
namespace Go.Proofs.YtglbanolhhjjiaaGreatDoor
open Go.Proofs.Tryz
open Go.RowKit
set_option linter.unusedVariables false
set_option maxRecDepth 100000
set_option maxHeartbeats 32000000
theorem Bs.cut{w b c n f l}(h:Bs w (some ⟨b,c,none⟩) n f l)(i m)(s:i+m<=n)(a)(k:m<=a)(g:a<=maxLen):Bs w (some ⟨b,c+i,none⟩) m a ((l.drop i).take m):=by
 refine⟨by simp[h.len_eq];omega,k,g,fun e=>(by cases e),fun t=> ?_,?_⟩
 ·obtain⟨r,q,e,p,d⟩:=h.at_ uA;cases e;refine⟨b,c+i,rfl,p,fun j o=> ?_⟩;rw[Nat.add_assoc,d (i+j) uA];simp[List.getD,o]
 ·refine gR (fun j=> ?_) m;have:=h.byte (i+j);simpa [List.getD]using this
theorem Bs.only{w w' a n c g l}(h:Bs w a n c l)(j:OnlyB g w w')(o:∀b d,0<n->a=some ⟨b,d,none⟩->b≠g):Bs w' a n c l:=
 ⟨h.len_eq,h.le,h.le',h.nil,fun k=>by
  obtain⟨b,d,e,f,m⟩:=h.at_ k;refine⟨b,d,e,wQ f j.size,fun i p=> ?_⟩;rw[C5 (a:=⟨b,d+i,none⟩) (j.block b f (o b d k e))];exact m i p,h.byte⟩
def bI:List PanicEntry:=[{v:= .iface 221 (.agg #[]),recovered:=false}]
theorem ez(w):Calls prog 145 #[.bool true] w fun e w'=>e= .returned (.tuple #[])/\w'=w:=by
 go_enter func145,ntmps145;go_wp2
 go_end0
 exact⟨rfl,rfl⟩
theorem fi(w):Calls prog 145 #[.bool false] w fun e w'=>e= .panicked bI/\w'=w:=by
 go_enter func145,ntmps145;go_wp2;exact⟨rfl,rfl,rfl⟩
structure CurA(w:World)(g B:Nat)(a:Option Addr)(n c:Nat)(l:List Int):Prop where
 blk:Blk w 192 g [.slice a n c]
 bs:Bs w a n c l
 low:∀b off,0<n->a=some ⟨b,off,none⟩->b<B
def Cur(w:World)(g B:Nat)(l:List Int):Prop:= ∃a n c,CurA w g B a n c l
theorem CurA.ne{w g B a n c l}(h:CurA w g B a n c l):∀b d,0<n->a=some ⟨b,d,none⟩->b≠g:=fun b d i e j=>by
 obtain⟨p,o,f,q,m⟩:=h.bs.at_ i;rw[e]at f;cases f;subst j;have:=m 0 i;rw[h.blk.cell]at this;cases d with
 |zero=>simp at this
 |succ k=>simp at this
theorem Cur.belowB{w w' g B N l}(h:Cur w g B l)(f:Below N w w')(r:B<=N)(m:g<N):Cur w' g B l:=by
 obtain⟨a,n,c,h⟩:=h;refine⟨a,n,c,(f.block g m).trans h.blk,⟨h.bs.len_eq,h.bs.le,h.bs.le',h.bs.nil,fun j=> ?_,h.bs.byte⟩,h.low⟩;obtain⟨b,d,e,p,k⟩:=h.bs.at_ j;have q:=h.low b d j e;refine⟨b,d,e,wQ p f.size,fun i o=> ?_⟩;rw[C5 (a:=⟨b,d+i,none⟩) (f.block b uA)];exact k i o
theorem OnlyB.thenN{g N w w1 b}(h:OnlyB g w w1)(a:Below N w1 b)(e:w.1.size<=N):OnlyB g w b:=
 ⟨a.os.trans h.os,a.tape.trans h.tape,a.output.trans h.output,wg h.size a.size,fun k c d=>(a.block k uA).trans (h.block k c d)⟩
theorem Cur.lt{w g B l}(h:Cur w g B l):g<w.1.size:=by
 obtain⟨a,n,c,h⟩:=h;exact h.blk.lt
theorem Cur.byte{w g B l}(h:Cur w g B l):IsB l:=by
 obtain⟨a,n,c,h⟩:=h;exact h.bs.byte
theorem jr(g B l k w)(h:Cur w g B l)(H:1<=k)(I:k<=l.length):
 Calls prog 169 #[.pointer (some ⟨g,0,none⟩),.int .i64 (k:Int)] w fun e w'=> ∃b d u,e= .returned (.slice (some ⟨b,d,none⟩) k u)/\OnlyB g w w'/\Cur w' g B (l.drop k)/\Bs w' (some ⟨b,d,none⟩) k u (l.take k)/\b<w.1.size/\b≠g/\b<B:=by
 obtain⟨a,n,c,h⟩:=h;have J:=h.bs.len_eq;obtain⟨b,d,rfl,y,_⟩:=h.bs.at_ uA;have i:=h.ne b d uA rfl;have m:=h.low b d uA rfl;have E:=h.bs.le;have z:=h.bs.le';unfold maxLen at z;have F:=h.blk.cell 0;have G:=h.blk.free 0;have D:decide (k<=n)=true:=by simp;omega
 have s:Bs w (some ⟨b,d,none⟩) k c (l.take k):=by have:=h.bs.cut 0 k uA c uA h.bs.le';simpa using this
 have j:Bs w (some ⟨b,d+k,none⟩) (n-k) (c-k) (l.drop k):=by
  have:=h.bs.cut k (n-k) uA (c-k) uA (by have:=h.bs.le';omega);rwa [w5 (by rw[wi];omega)]at this
 have r:Hid (∀f,(f=some ⟨b,d+k,none⟩\/(c=k/\f=some ⟨b,d,none⟩))->OnlyB g w (w.setCell ⟨g,0,none⟩ (.slice f (n-k) (c-k)))/\Cur (w.setCell ⟨g,0,none⟩ (.slice f (n-k) (c-k))) g B (l.drop k)/\Bs (w.setCell ⟨g,0,none⟩ (.slice f (n-k) (c-k))) (some ⟨b,d,none⟩) k c (l.take k)):=fun f v=>by
  have o:=ax w g 0 (.slice f (n-k) (c-k));refine⟨o,⟨f,n-k,c-k,h.blk.set 0 _,?_,fun t p A e=> ?_⟩,s.only o (fun t p _ e=>by cases e;exact i)⟩
  rotate_left
  ·rcases v with rfl|⟨hc,rfl⟩<;>cases e<;>exact m
  rcases v with rfl|⟨hc,rfl⟩
  ·exact j.only o (fun t p _ e=>by cases e;exact i)
  ·refine⟨j.len_eq,j.le,j.le',fun e=>(by cases e),fun A=>by omega,j.byte⟩
 clear h s j;go_enter func169,ntmps169;go_wp2_with fail;refine CC (ez w) ?_;rintro e w1 ⟨rfl,C⟩;obtain rfl:=C.symm;go_wp2
 ·have x:c-k=0:=uA;go_ret;have q:=r.out (some ⟨b,d,none⟩) (v6 ⟨by assumption,rfl⟩);rw[x]at q;exact⟨b,d,c,by simp_all,q.1,q.2.1,q.2.2,y,i,m⟩
 ·go_ret;have q:=r.out (some ⟨b,d+k,none⟩) (v7 rfl);exact⟨b,d,c,rfl,q.1,q.2.1,q.2.2,y,i,m⟩
theorem lV(g B l k w)(h:Cur w g B l)(m:l.length<k)(f:k<=1048576):
 Calls prog 169 #[.pointer (some ⟨g,0,none⟩),.int .i64 (k:Int)] w fun e w'=>e= .panicked bI/\w'=w:=by
 obtain⟨a,n,c,h⟩:=h;have o:=h.bs.len_eq;have b:=h.bs.le';unfold maxLen at b;have j:=h.blk.cell 0;have i:decide (k<=n)=false:=by simp;omega
 clear h;go_enter func169,ntmps169;go_wp2_with fail;refine CC (fi w) ?_;rintro e w1 ⟨rfl,d⟩;obtain rfl:=d.symm;go_wp2;exact⟨rfl,rfl,rfl⟩
theorem uf(g B l w)(h:Cur w g B l)(d:4<=l.length):
 Calls prog 147 #[.pointer (some ⟨g,0,none⟩)] w fun e w'=>e= .returned (.int .i64 (low (l.take 4)))/\OnlyB g w w'/\Cur w' g B (l.drop 4):=by
 have T:=jr g B l 4 w h uA d;clear h;go_enter func147,ntmps147;go_wp2_with fail;refine CC T ?_;rintro e w1 ⟨b,j,c,rfl,o,i,R,_⟩;have N:=iO _ 4 c (l.take 4) w1 R uA;have a:=uv o i;clear o i R T;go_wp2_with fail;refine CC N ?_;rintro e k ⟨rfl,f⟩;obtain rfl:=f.symm;go_wp2;go_ret;exact⟨rfl,a.out⟩
theorem nt(g B l w)(h:Cur w g B l)(a:l.length<4):
 Calls prog 147 #[.pointer (some ⟨g,0,none⟩)] w fun e w'=>e= .panicked bI/\OnlyB g w w':=by
 have T:=lV g B l 4 w h a uA;clear h;go_enter func147,ntmps147;go_wp2_with fail;refine CC T ?_;rintro e w1 ⟨rfl,b⟩;obtain rfl:=b.symm;go_wp2;exact⟨rfl,rfl,OnlyB.refl _ _⟩
theorem nu(g B l w)(h:Cur w g B l):
 Calls prog 148 #[.pointer (some ⟨g,0,none⟩)] w fun e w'=>e= .returned (.bool (decide (l.length=0)))/\w'=w:=by
 obtain⟨a,n,c,h⟩:=h;have f:=h.bs.len_eq;have j:=h.blk.cell 0;rw[f];clear h;by_cases b:n=0
 ·subst b;go_enter func148,ntmps148;go_wp2;go_ret;exact⟨rfl,rfl⟩
 ·have d:=CP b;rw[d];have i:((n:Int)==0)=false:=by simp[b]
  clear d;go_enter func148,ntmps148;go_wp2;go_ret
  first|exact⟨rfl,rfl⟩|exact⟨by simp[b],rfl⟩
theorem ug(g B l w)(h:Cur w g B l)(u:1<=lfK l)(G:lfK l<=40)(H:1+lfK l<=l.length):
 Calls prog 154 #[.pointer (some ⟨g,0,none⟩)] w fun e w'=>e= .returned (.string (cU l))/\OnlyB g w w'/\Cur w' g B (l.drop (1+lfK l)):=by
 have j:=h.byte;obtain⟨k0,I⟩:=j 0;have T:=jr g B l 1 w h uA uA;have x:l.getD 0 0=((lfK l:Nat):Int):=by unfold lfK;omega
 have c:Hid (cU l=strOfNums ((l.drop 1).take (lfK l))):=rfl;have C:(l.drop 1).length=l.length-1:=wi;generalize lfK l=k at*;clear h;go_enter func154,ntmps154;go_wp2_with fail;refine CC T ?_;rintro e w1 ⟨b,q,E,rfl,o,A,R,_⟩;obtain⟨_,_,t,_,m⟩:=R.at_ uA;cases t;have s:w1.cell? ⟨b,q,none⟩=some (.int .u8 (k:Nat)):=by
  have:=m 0 uA;rw[w9]at this;rw[this];have e:(l.take 1).getD 0 0=l.getD 0 0:=by cases l<;>simp
  rw[e,x]
 have v:decide ((k:Int)<=40)=true:=CR uA;have N:=ez w1;have i:=jr g B (l.drop 1) k w1 A u uA;have r:Hid _:=o;clear o A R T m;go_wp2_with fail;refine CC N ?_;rintro e J ⟨rfl,n⟩;obtain rfl:=n.symm;clear n N s;go_wp2_with fail;refine CC i ?_;rintro e K ⟨D,z,F,rfl,p,d,f,_⟩;have y:=jn f;rw[<-c.out]at y;have a:=uv (r.out.trans p) d;clear p d f i;go_wp2_with fail;go_ret;exact⟨rfl,a.out.1,by have:=a.out.2;rwa [w7]at this⟩
theorem uh(g B l w)(h:Cur w g B l)(A:¬(1<=lfK l/\lfK l<=40/\1+lfK l<=l.length)):
 Calls prog 154 #[.pointer (some ⟨g,0,none⟩)] w fun e w'=>e= .panicked bI/\OnlyB g w w':=by
 have i:=h.byte;obtain⟨k0,D⟩:=i 0;by_cases u:l.length<1
 ·have T:=lV g B l 1 w h u uA;clear h;go_enter func154,ntmps154;go_wp2_with fail;refine CC T ?_;rintro e w1 ⟨rfl,a⟩;obtain rfl:=a.symm;go_wp2;exact⟨rfl,rfl,OnlyB.refl _ _⟩
 have T:=jr g B l 1 w h uA uA;have x:l.getD 0 0=((lfK l:Nat):Int):=by unfold lfK;omega
 have z:lfK l<256:=uA;have y:(l.drop 1).length=l.length-1:=wi;generalize lfK l=k at*;clear h;go_enter func154,ntmps154;go_wp2_with fail;refine CC T ?_;rintro e w1 ⟨b,n,C,rfl,o,q,R,_⟩;obtain⟨_,_,t,_,j⟩:=R.at_ uA;cases t;have s:w1.cell? ⟨b,n,none⟩=some (.int .u8 (k:Nat)):=by
  have:=j 0 uA;rw[w9]at this;rw[this];have e:(l.take 1).getD 0 0=l.getD 0 0:=by cases l<;>simp
  rw[e,x]
 have c:Hid _:=o;clear o R T j;by_cases m:1<=k/\k<=40
 ·obtain⟨v,f⟩:=m;have d:decide ((k:Int)<=40)=true:=CR uA;have N:=ez w1;have r:=lV g B (l.drop 1) k w1 q uA uA;clear q;go_wp2_with fail;refine CC N ?_;rintro e p ⟨rfl,a⟩;obtain rfl:=a.symm;clear a N s;go_wp2_with fail;refine CC r ?_;rintro e E ⟨rfl,a⟩;obtain rfl:=a.symm;go_wp2;exact⟨rfl,rfl,c.out⟩
 ·have N:=fi w1;clear q;by_cases v:1<=k
  ·have d:decide ((k:Int)<=40)=false:=CP uA;go_wp2_with fail;refine CC N ?_;rintro e p ⟨rfl,a⟩;obtain rfl:=a.symm;go_wp2;exact⟨rfl,rfl,c.out⟩
  ·have f:k=0:=uA;subst f;go_wp2_with fail;refine CC N ?_;rintro e p ⟨rfl,a⟩;obtain rfl:=a.symm;go_wp2;exact⟨rfl,rfl,c.out⟩
theorem take_zero(g B l w)(h:Cur w g B l):
 Calls prog 169 #[.pointer (some ⟨g,0,none⟩),.int .i64 0] w fun e w'=> ∃a d,e= .returned (.slice a 0 d)/\OnlyB g w w'/\Cur w' g B l/\Bs w' a 0 d []:=by
 obtain⟨a,n,c,h⟩:=h;have q:=h.bs.len_eq;have f:=h.bs.le';unfold maxLen at f;have m:=h.blk.cell 0;have p:=h.blk.free 0;have o:=ax w g 0 (.slice a n c);have b:Hid (OnlyB g w (w.setCell ⟨g,0,none⟩ (.slice a n c))/\Cur (w.setCell ⟨g,0,none⟩ (.slice a n c)) g B l/\Bs (w.setCell ⟨g,0,none⟩ (.slice a n c)) a 0 c []):=
  ⟨o,⟨a,n,c,h.blk.set 0 _,h.bs.only o h.ne,h.low⟩,rfl,uA,by unfold maxLen;omega,h.bs.nil,fun j=>absurd j (Nat.lt_irrefl _),eX⟩
 clear h o;go_enter func169,ntmps169;go_wp2_with fail;refine CC (ez w) ?_;rintro e w1 ⟨rfl,k⟩;obtain rfl:=k.symm;cases a with
 |none=>
  go_wp2;go_ret;exact⟨none,c,rfl,b.out⟩
 |some i=>
  go_wp2;go_ret;exact⟨some i,c,rfl,b.out⟩
def ny(l:List Int):ByteArray:=strOfNums ((l.drop 1).take (lfK l))
theorem AN(g B l w)(h:Cur w g B l)(d:lfK l<=70)(f:1+lfK l<=l.length):
 Calls prog 155 #[.pointer (some ⟨g,0,none⟩)] w fun e w'=>e= .returned (.string (ny l))/\OnlyB g w w'/\Cur w' g B (l.drop (1+lfK l)):=by
 have s:=h.byte;obtain⟨k0,O⟩:=s 0;have T:=jr g B l 1 w h uA uA;have G:l.getD 0 0=((lfK l:Nat):Int):=by unfold lfK;omega
 have n:Hid (ny l=strOfNums ((l.drop 1).take (lfK l))):=rfl;have J:(l.drop 1).length=l.length-1:=wi;generalize lfK l=k at*;clear h;go_enter func155,ntmps155;go_wp2_with fail;refine CC T ?_;rintro e w1 ⟨b,y,j,rfl,o,z,R,_⟩;obtain⟨_,_,E,_,t⟩:=R.at_ uA;cases E;have D:w1.cell? ⟨b,y,none⟩=some (.int .u8 (k:Nat)):=by
  have:=t 0 uA;rw[w9]at this;rw[this];have e:(l.take 1).getD 0 0=l.getD 0 0:=by cases l<;>simp
  rw[e,G]
 have A:Hid _:=o;have F:decide ((k:Int)<=70)=true:=CR uA;have N:=ez w1;have r:Calls prog 169 #[.pointer (some ⟨g,0,none⟩),.int .i64 (k:Int)] w1 fun e w'=> ∃a j,e= .returned (.slice a k j)/\OnlyB g w1 w'/\Cur w' g B ((l.drop 1).drop k)/\Bs w' a k j ((l.drop 1).take k):=by
  by_cases u:k=0
  ·subst u;refine(take_zero g B (l.drop 1) w1 z).mono ?_;rintro e w' ⟨a,c,rfl,m,d,f⟩;exact⟨a,c,rfl,m,d,f⟩
  ·refine(jr g B (l.drop 1) k w1 z uA uA).mono ?_;rintro e w' ⟨L,I,C,rfl,m,d,f,_⟩;exact⟨_,C,rfl,m,d,f⟩
 clear o z R T t;go_wp2_with fail;refine CC N ?_;rintro e P ⟨rfl,v⟩;obtain rfl:=v.symm;clear v N D;go_wp2_with fail;refine CC r ?_;rintro e Q ⟨K,M,rfl,x,p,q⟩;have H:=jn q;rw[<-n.out]at H;have i:=uv (A.out.trans x) p;clear x p q r;go_wp2_with fail;go_ret;exact⟨rfl,i.out.1,by have:=i.out.2;rwa [w7]at this⟩
theorem AP(g B l w)(h:Cur w g B l)(x:¬(lfK l<=70/\1+lfK l<=l.length)):
 Calls prog 155 #[.pointer (some ⟨g,0,none⟩)] w fun e w'=>e= .panicked bI/\OnlyB g w w':=by
 have f:=h.byte;obtain⟨k0,z⟩:=f 0;by_cases r:l.length<1
 ·have T:=lV g B l 1 w h r uA;clear h;go_enter func155,ntmps155;go_wp2_with fail;refine CC T ?_;rintro e w1 ⟨rfl,a⟩;obtain rfl:=a.symm;go_wp2;exact⟨rfl,rfl,OnlyB.refl _ _⟩
 have T:=jr g B l 1 w h uA uA;have s:l.getD 0 0=((lfK l:Nat):Int):=by unfold lfK;omega
 have u:(l.drop 1).length=l.length-1:=wi;generalize lfK l=k at*;clear h;go_enter func155,ntmps155;go_wp2_with fail;refine CC T ?_;rintro e w1 ⟨b,j,y,rfl,o,m,R,_⟩;obtain⟨_,_,q,_,i⟩:=R.at_ uA;cases q;have p:w1.cell? ⟨b,j,none⟩=some (.int .u8 (k:Nat)):=by
  have:=i 0 uA;rw[w9]at this;rw[this];have e:(l.take 1).getD 0 0=l.getD 0 0:=by cases l<;>simp
  rw[e,s]
 have d:Hid _:=o;clear o R T i;by_cases v:k<=70
 ·have c:decide ((k:Int)<=70)=true:=CR uA;have N:=ez w1;have n:=lV g B (l.drop 1) k w1 m uA uA;clear m;go_wp2_with fail;refine CC N ?_;rintro e t ⟨rfl,a⟩;obtain rfl:=a.symm;clear a N p;go_wp2_with fail;refine CC n ?_;rintro e A ⟨rfl,a⟩;obtain rfl:=a.symm;go_wp2;exact⟨rfl,rfl,d.out⟩
 ·have c:decide ((k:Int)<=70)=false:=CP uA;have N:=fi w1;clear m;go_wp2_with fail;refine CC N ?_;rintro e t ⟨rfl,a⟩;obtain rfl:=a.symm;go_wp2;exact⟨rfl,rfl,d.out⟩
theorem ui{s}(f v):∀n i q,i<n->q<s->IsRow s f n->(aK f n).set (i*s+q) v=aK (cH f i ((f i).set q v)) n
 |0,i,q,h,_,_=>by omega
 |n+1,i,q,h,c,H=>by
  have a:=gU n (H.mono uA);by_cases e:i=n
  ·subst e;rw[lK,aK,List.set_append_right _ _ uA,a,show i*s+q-i*s=q by omega]
  ·have b:(i+1)*s<=n*s:=y1 _ uA;rw[x9,x6]at b;rw[aK,aK,List.set_append_left _ _ uA,ui f v n i q uA c (H.mono uA)];have:cH f i ((f i).set q v) n=f n:=by simp[cH,Ne.symm e]
   rw[this]
theorem AQ{e s B g w n c f}(h:ORow e s B w (some ⟨g,0,none⟩) n c f)(d:IsRow s f n)(i q)(a:i<n)(b:q<s)(v):
 ORow e s B (w.setCell ⟨g,i*s+q,none⟩ v) (some ⟨g,0,none⟩) n c (cH f i ((f i).set q v))/\w.grownBy (w.setCell ⟨g,i*s+q,none⟩ v) (some g):=by
 have:=World.ownsRow.stored h (i*s+q) v;unfold ORow;rw[<-ui f v n i q a b d];exact this
def mk(p:Nat)(N:Nat->Nat)(k:Int):Nat->Int
 |0=>k
 |i+1=>mk p N k i+p+N i
theorem lW{p e B w a n c k i N j L}(h:ORecs p e B w a n c k i N j L)(m:0<n):∃g,a=some ⟨g,0,none⟩/\B<=g:=by
 rcases h.row.2 with⟨e,l⟩|⟨g,d,f,e,b,_⟩
 ·omega
 ·cases e;exact⟨g,rfl,b⟩
theorem ORecs.cellInt{p e B g w n c k m N o L}(h:ORecs p e B w (some ⟨g,0,none⟩) n c k m N o L)(j q)(f:j<n)(i:q<p):w.cell? ⟨g,j*(p+1)+q,none⟩=some (.int .i64 (k j q)):=by
 obtain⟨b,l,a,_,d⟩:=h.reads.at_ uA;cases a;have:=(d j f).1 q i;rw[wE]at this;exact this
theorem ORecs.cellData{p e B g w n c m i N k L}(h:ORecs p e B w (some ⟨g,0,none⟩) n c m i N k L)(j)(f:j<n):w.cell? ⟨g,j*(p+1)+p,none⟩=some (.slice (i j) (N j) (k j)):=by
 obtain⟨b,l,a,_,d⟩:=h.reads.at_ uA;cases a;have:=(d j f).2;rw[wE]at this;exact this
theorem ORecs.congr'{p e B w a n c k I' g N j L L'}(h:ORecs p e B w a n c k g N j L)(f:∀i,i<n->∀q,q<p->k i q=I' i q)(d:∀i,i<n->L i=L' i):ORecs p e B w a n c I' g N j L':=
 ⟨by rw[<-lM p n (fun i b=>⟨f i b,rfl⟩)];exact h.row,fun i b=>by rw[<-d i b];exact h.data i b,fun i b=>by rw[<-d i b];exact h.byte i b,h.sep1⟩
structure Turned(T:Nat->Prop)(w w':World):Prop where
 os:w'.os=w.os
 tape:w'.tape=w.tape
 output:w'.output=w.output
 size:w'.1.size=w.1.size
 block:∀k,¬T k->w'.heap[k]?=w.heap[k]?
theorem Turned.row{T}{B e size:Nat}{w w' v n xs}(b:Turned T w w')(h:w.ownsRow B e size v n xs)(a:∀k,v.ownBlock=some k->¬T k):w'.ownsRow B e size v n xs:=by
 refine⟨h.1,?_⟩;rcases h.2 with h2|⟨g,cap,cur,rfl,hg,hh,r⟩
 ·exact v7 h2
 ·exact v6 ⟨g,cap,cur,rfl,hg,by rw[b.block g (a g rfl)];exact hh,r⟩
theorem ORecs.turned{T p e B w w' a n c m f N g L}(h:ORecs p e B w a n c m f N g L)(d:Turned T w w')(l:∀k,(Value.slice a n c).ownBlock=some k->¬T k)(j:∀i,i<n->∀k,(Value.slice (f i) (N i) (g i)).ownBlock=some k->¬T k):ORecs p e B w' a n c m f N g L:=
 ⟨d.row h.row l,fun i b=>d.row (h.data i b) (j i b),h.byte,h.sep1⟩
theorem AR(p a v u):(dH p a v).set p u=dH p a u:=by
 unfold dH;rw[List.set_append_right _ _ vo];simp
theorem uj(p a b u j):∀n,j<n->(dy p a b n).set (j*(p+1)+p) u=dy p a (upd b j u) n
 |0,h=>by omega
 |n+1,h=>by
  rw[dy,dy];by_cases e:j=n
  ·subst e;rw[List.set_append_right _ _ (by rw[i8];omega),i8];rw[show j*(p+1)+p-j*(p+1)=p by omega,AR,be];rw[lM p j (I':=a) (V':=upd b j u) (fun i c=>⟨fun r _=>rfl,by rw[fY _ _ _ c]⟩)]
  ·have d:(j+1)*(p+1)<=n*(p+1):=y1 _ uA;rw[x9,x6]at d;rw[List.set_append_left _ _ (by rw[i8];omega),uj p a b u j n uA,bw _ _ _ uA]
theorem ORecs.putSlice{p e B g w n c J E N F L}(m:ORecs p e B w (some ⟨g,0,none⟩) n c J E N F L)(M:e≠5)(j)(O:j<n)(b f d C)(Q:Own B w b f d C)(P:IsB C)(q:∀i,i<n->∀k,(Value.slice (E i) (N i) (F i)).ownBlock=some k->(Value.slice b f d).ownBlock≠some k):
 ORecs p e B (w.setCell ⟨g,j*(p+1)+p,none⟩ (.slice b f d)) (some ⟨g,0,none⟩) n c J (upd E j b) (upd N j f) (upd F j d) (upd L j C)/\w.grownBy (w.setCell ⟨g,j*(p+1)+p,none⟩ (.slice b f d)) (some g):=by
 have o:=World.ownsRow.stored m.row (j*(p+1)+p) (.slice b f d);rw[uj p J _ _ j n O]at o;have K:upd (fun i=>Value.slice (E i) (N i) (F i)) j (.slice b f d)=fun i=> .slice (upd E j b i) (upd N j f i) (upd F j d i):=by
  funext i;by_cases a:i=j
  ·subst a;simp[upd]
  ·simp[upd,a]
 rw[K]at o;have r:∀{y:Nat}{s:Option Addr}{v t:Nat}{D:List Int},Own y w s v t D->Own y (w.setCell ⟨g,j*(p+1)+p,none⟩ (.slice b f d)) s v t D:=fun{y s v t D} G=>by
  refine World.ownsRow.kept G o.2 ?_;cases l:(Value.slice s v t).ownBlock with
  |none=>exact v7 rfl
  |some k=>exact v6 fun a=>jR G m.row (ED M) k l (by rw[a];rfl)
 refine⟨⟨o.1,fun i z=> ?_,fun i z=> ?_,fun i A H x k l=> ?_⟩,o.2⟩
 ·by_cases a:i=j
  ·subst a;rw[be,be,be,be];exact r Q
  ·rw[bw _ _ _ a,bw _ _ _ a,bw _ _ _ a,bw _ _ _ a];exact r (m.data i z)
 ·by_cases a:i=j
  ·subst a;rw[be];exact P
  ·rw[bw _ _ _ a];exact m.byte i z
 ·by_cases a:i=j
  ·subst a;rw[be,be,be]at l;rw[bw _ _ _ uA,bw _ _ _ uA,bw _ _ _ uA];intro I;exact q A x k I l
  ·rw[bw _ _ _ a,bw _ _ _ a,bw _ _ _ a]at l;by_cases u:A=j
   ·subst u;rw[be,be,be];exact q i uA k l
   ·rw[bw _ _ _ u,bw _ _ _ u,bw _ _ _ u];exact m.sep1 i A H x k l
theorem ORecs.setSlice{p e B g w0 w n c z x N y L}(h:ORecs p e B w0 (some ⟨g,0,none⟩) n c z x N y L)(r:e≠5)(o:Below w0.1.size w0 w)(j)(t:j<n)(a d b f)(m:Own w0.1.size w a d b f)(v:IsB f)(q:B<=w0.1.size):
 ORecs p e B (w.setCell ⟨g,j*(p+1)+p,none⟩ (.slice a d b)) (some ⟨g,0,none⟩) n c z (upd x j a) (upd N j d) (upd y j b) (upd L j f)/\w.grownBy (w.setCell ⟨g,j*(p+1)+p,none⟩ (.slice a d b)) (some g):=by
 refine(h.below o).putSlice r j t a d b f (m.mono q) v (fun i s k u l=> ?_);have A:=(Ct m k l).1;have C:=(Ct (h.data i s) k u).2;omega
structure DV where
 sa:Option Addr
 sc:Nat
 sA:Nat->Option Addr
 sN:Nat->Nat
 sC:Nat->Nat
 pa:Option Addr
 pc:Nat
 pA:Nat->Option Addr
 pN:Nat->Nat
 pC:Nat->Nat
structure DK where
 n:Nat
 S:Nat->List Int
 m:Nat
 At:Nat->Int
 D:Nat->List Int
def av(d:DV)(K:DK):Value:= .agg #[.slice d.sa K.n d.sc,.slice d.pa K.m d.pc]
def zI:Nat->Nat->Int:=fun _ _=>0
def aI(K:DK):Nat->Nat->Int:=fun i _=>K.At i
structure RDisk(w:World)(d:DV)(K:DK):Prop where
 safe:RRecs 0 w d.sa K.n d.sc zI d.sA d.sN d.sC K.S
 pend:RRecs 1 w d.pa K.m d.pc (aI K) d.pA d.pN d.pC K.D
structure ODisk(B:Nat)(w:World)(d:DV)(K:DK):Prop where
 safe:ORecs 0 56 B w d.sa K.n d.sc zI d.sA d.sN d.sC K.S
 pend:ORecs 1 133 B w d.pa K.m d.pc (aI K) d.pA d.pN d.pC K.D
 sepX:∀i j,i<K.n->j<K.m->∀k,(Value.slice (d.sA i) (d.sN i) (d.sC i)).ownBlock=some k->(Value.slice (d.pA j) (d.pN j) (d.pC j)).ownBlock≠some k
theorem RDisk.below{w w' d K}(h:RDisk w d K)(a:Below w.1.size w w'):RDisk w' d K:=⟨h.safe.below a,h.pend.below a⟩
theorem ODisk.below{B w w' d K}(h:ODisk B w d K)(a:Below w.1.size w w'):ODisk B w' d K:=⟨h.safe.below a,h.pend.below a,h.sepX⟩
theorem ODisk.mono{B B' w d K}(h:ODisk B w d K)(a:B'<=B):ODisk B' w d K:=⟨h.safe.mono a,h.pend.mono a,h.sepX⟩
theorem ODisk.reads{B w d K}(h:ODisk B w d K):RDisk w d K:=⟨h.safe.reads,h.pend.reads⟩
def dmk(d:DV)(K:DK)(k:Int):Int:=mk 1 d.pN (mk 0 d.sN k K.n) K.m
structure Small(d:DV)(K:DK):Prop where
 n:K.n<=1048576
 m:K.m<=1048576
 sN:∀i,i<K.n->d.sN i<=1048576
 pN:∀i,i<K.m->d.pN i<=1048576
 all:dmk d K 1<=1099511627776
def IsBox(w:World)(g:Nat)(d:DV)(K:DK):Prop:=w.heap[g]?=some (.cells #[.slice d.sa K.n d.sc,.slice d.pa K.m d.pc] 35 (0,0))
theorem IsBox.c0{w g d K}(h:IsBox w g d K):w.cell? ⟨g,0,none⟩=some (.slice d.sa K.n d.sc):=by rw[DC w g 0 _ _ _ h];rfl
theorem IsBox.c1{w g d K}(h:IsBox w g d K):w.cell? ⟨g,1,none⟩=some (.slice d.pa K.m d.pc):=by rw[DC w g 1 _ _ _ h];rfl
theorem IsBox.lt{w g d K}(h:IsBox w g d K):g<w.1.size:=(wy.1 h).1
theorem IsBox.below{w w' g d K}(h:IsBox w g d K)(a:Below w.1.size w w'):IsBox w' g d K:=by
 unfold IsBox;rw[a.block g h.lt];exact h
theorem nz(w:World)(d K):IsBox (w.alloc (.cells #[.slice d.sa K.n d.sc,.slice d.pa K.m d.pc] 35)) w.1.size d K:=D6 w _
def dOk(K:DK):Prop:=(1<=K.n/\K.n<=4096/\K.m<=5000)/\(∀i,i<K.n->(K.S i).length=64)/\∀j,j<K.m->0<=K.At j/\K.At j<K.n/\(K.D j).length=64
noncomputable def aR(K:DK):Bool:= @decide (dOk K) (Classical.propDecidable _)
theorem fj{K}(h:dOk K):aR K=true:= @decide_eq_true _ (Classical.propDecidable _) h
theorem gk{K}(h:¬dOk K):aR K=false:= @decide_eq_false _ (Classical.propDecidable _) h
theorem gK{K}(h:aR K=true):dOk K:= @of_decide_eq_true _ (Classical.propDecidable _) h
theorem AS(G s C pc aT aB v aX F aS K w)(r:RRecs 0 w G K.n C zI aT v aX K.S)(o:RRecs 1 w s K.m pc (aI K) aB F aS K.D):
 Calls prog 36 #[.agg #[.slice G K.n C,.slice s K.m pc]] w fun e w'=>e= .returned (.bool (aR K))/\Below w.1.size w w':=by
 have ap:=wg r.le r.le';have an:=wg o.le o.le';unfold maxLen at ap an;have u:=(B2 w.1.size w).alloc t6 (.cells #[.slice G K.n C,.slice s K.m pc] 35);have A:Hid _:=u;have g:Hid (∀(_:¬dOk K),aR K=false):=gk;have ac:Hid (∀(_:dOk K),aR K=true):=fj;by_cases bf:(K.n:Int)<1
 ·have c:Hid (aR K=false):=g.out (fun a=>by have:=a.1;omega);clear u;go_enter func36,ntmps36;go_wp2;go_ret;exact⟨by rw[c.out];rfl,A.out⟩
 ·by_cases bg:(4096:Int)< (K.n:Int)
  ·have c:Hid (aR K=false):=g.out (fun a=>by have:=a.1;omega);clear u;go_enter func36,ntmps36;go_wp2;go_ret;exact⟨by rw[c.out];rfl,A.out⟩
  ·by_cases bk:(5000:Int)< (K.m:Int)
   ·have c:Hid (aR K=false):=g.out (fun a=>by have:=a.1;omega);clear u;go_enter func36,ntmps36;go_wp2;go_ret;exact⟨by rw[c.out];rfl,A.out⟩
   ·have U:=r.below u;have T:=o.below u;clear u;have P:=fun i f=>(r.data i f).len_eq;have N:=fun i f=>(o.data i f).len_eq;have O:=fun i f=>wg (o.data i f).le (o.data i f).le';have Q:=fun i f=>wg (r.data i f).le (r.data i f).le';have L:Hid _:=P;have J:Hid _:=N;have Z:Hid _:=O;have ab:Hid _:=Q;clear P N O Q r o;have a7:decide ((K.n:Int)<1)=false:=by simp;omega
    have a8:decide ((4096:Int)< (K.n:Int))=false:=by simp;omega
    have a9:decide ((5000:Int)< (K.m:Int))=false:=by simp;omega
    have ba:((K.n:Int))<=4096:=uA;have bb:((K.m:Int))<=5000:=uA;go_enter func36,ntmps36;go_wp2
    go_loop [4] (fun i=> ∃j:Nat,j<=K.n/\i= .int .i64 j/\∀k,k<j->v k=64) (fun i=>K.n-(intOf i).toNat)
    case atStart=>exact⟨0,wa _,rfl,fun k a=>absurd a uA⟩
    case round=>
     obtain⟨j,bm,rfl,E⟩:=hrel;have D:Hid _:=E;clear E;by_cases z:j<K.n
     ·obtain⟨b,m,rfl,ag,B⟩:=U.at_ uA;have k0:(w.alloc (.cells #[.slice (some ⟨b,m,none⟩) K.n C,.slice s K.m pc] 35)).cell? ⟨b,m+j,none⟩=some (.slice (aT j) (v j) (aX j)):=by have:=(B j z).2;simpa using this
      have S:=ab.out j z;unfold maxLen at S;have ak:(0:Int)<=(j:Int):=uA;have am:(j:Int)< (K.n:Int):=uA;clear B U T;by_cases x:v j=64
      ·have l:((v j:Int) !=64)=false:=by simp;omega
       have V:Hid (v j=64):=x;clear x;go_wp2
       go_round
       case rel=>
        refine⟨j+1,uA,by go_num,fun k a=> ?_⟩;by_cases e:k=j
        ·subst e;exact V.out
        ·exact D.out k uA
       case measure=>simp[intOf];omega
      ·have l:((v j:Int) !=64)=true:=by simp;omega
       have c:Hid (aR K=false):=g.out (fun a=>x (by rw[<-L.out j z];exact a.2.1 j z));clear x;go_wp2;go_ret;exact⟨by rw[c.out];rfl,A.out⟩
     ·have e:j=K.n:=uA;have a1:Hid (j=K.n):=e;clear e U;have bl:decide ((j:Int)< (K.n:Int))=false:=by simp;omega
      go_wp2;go_loopw [5,6] (fun i _ wr=> ∃q:Nat,q<=K.m/\i= .int .i64 q/\Below (w.alloc (.cells #[.slice G K.n C,.slice s K.m pc] 35)).1.size (w.alloc (.cells #[.slice G K.n C,.slice s K.m pc] 35)) wr/\∀k,k<q->0<=K.At k/\K.At k<K.n/\F k=64) (fun i _ _=>K.m-(intOf i).toNat)
      case atStart=>exact⟨0,wa _,rfl,t7,fun k a=>absurd a uA⟩
      case round=>
       obtain⟨q,bn,rfl,l,M⟩:=hrel;have I:Hid _:=M;clear M;have a6:wr.cell? ⟨w.1.size,1,none⟩=some (.slice s K.m pc):=by rw[l.cell (p:=⟨w.1.size,1,none⟩) vo];simp
       have bs:w.1.size<wr.1.size:=by have:=l.size;simp at this;omega
       have n:Hid (Below w.1.size w wr):=A.out.trans (l.mono A.out.size);have W:Hid _:=l;have aA:=T.below l;clear l;by_cases d:q<K.m
       ·obtain⟨b,m,rfl,ag,B⟩:=aA.at_ uA;have k0:wr.cell? ⟨b,m+q*2,none⟩=some (.int .i64 (K.At q)):=(B q d).1 0 uA;have br:wr.cell? ⟨b,m+q*2+1,none⟩=some (.slice (aB q) (F q) (aS q)):=(B q d).2;have S:=Z.out q d;unfold maxLen at S;have ak:(0:Int)<=(q:Int):=uA;have am:(q:Int)< (K.m:Int):=uA;clear B T aA;have X:=J.out q d;have Y:Hid _:=X;clear X;generalize ae:K.At q=t at*;have R:Hid (K.At q=t):=ae;clear ae;generalize af:F q=y at*;have a2:Hid (F q=y):=af;clear af;by_cases bc:t<0
        ·have c:Hid (aR K=false):=g.out (fun a=>by have:=(a.2.2 q d).1;rw[R.out]at this;omega);go_wp2;go_ret;exact⟨by rw[c.out];rfl,n.out.alloc n.out.size _⟩
        ·have a3:decide (t<0)=false:=by simp;omega
         by_cases bd:(K.n:Int)<=t
         ·have c:Hid (aR K=false):=g.out (fun a=>by have:=(a.2.2 q d).2.1;rw[R.out]at this;omega);go_wp2;go_ret;exact⟨by rw[c.out];rfl,n.out.alloc n.out.size _⟩
         ·have a4:decide ((K.n:Int)<=t)=false:=by simp;omega
          by_cases H:y=64
          ·have ad:((y:Int) !=64)=false:=by simp;omega
           have a0:Hid (y=64):=H;clear H;go_wp2;go_roundw
           case rel=>
            refine⟨q+1,uA,by go_num,W.out.alloc W.out.size _,fun k a=> ?_⟩;by_cases e:k=q
            ·subst e;rw[R.out,a2.out];exact⟨uA,uA,a0.out⟩
            ·exact I.out k uA
           case measure=>simp[intOf];omega
          ·have ad:((y:Int) !=64)=true:=by simp;omega
           have c:Hid (aR K=false):=g.out (fun a=>H (by have:=(a.2.2 q d).2.2;rw[Y.out]at this;exact this));clear H;go_wp2;go_ret;exact⟨by rw[c.out];rfl,n.out.alloc n.out.size _⟩
       ·have a5:decide ((q:Int)< (K.m:Int))=false:=by simp;omega
        have c:Hid (aR K=true):=ac.out ⟨⟨uA,uA,uA⟩,fun i f=>by rw[L.out i f];exact D.out i (by have:=a1.out;omega),fun i f=>by have:=I.out i uA;rw[J.out i f];exact this⟩;go_wp2;go_ret;exact⟨by rw[c.out];rfl,n.out⟩
theorem jt(d K w)(h:RDisk w d K):
 Calls prog 36 #[av d K] w fun e w'=>e= .returned (.bool (aR K))/\Below w.1.size w w':=AS d.sa d.pa d.sc d.pc d.sA d.pA d.sN d.sC d.pN d.pC K w h.safe h.pend
def dJ(At:Nat->Int)(t:Int):Nat->Option Nat
 |0=>none
 |j+1=>if At j=t then some j else dJ At t j
theorem iv{At t}:∀{j i:Nat},dJ At t j=some i->i<j
 |0,i,h=>by simp[dJ]at h
 |j+1,i,h=>by
  simp only[dJ]at h;split at h
  ·cases h;omega
  ·have:=iv h;omega
def aP{α:Type}(At:Nat->Int)(f g:Nat->α)(j t:Nat):α:=match dJ At (t:Int) j with|some i=>f i|none=>g t
theorem qi{a:Type}(At)(f g:Nat->a)(t):aP At f g 0 t=g t:=rfl
theorem qj{a:Type}(At)(f g:Nat->a)(j t:Nat)(h:At j=(t:Int)):aP At f g (j+1) t=f j:=by simp[aP,dJ,h]
theorem qk{a:Type}(At)(f g:Nat->a)(j t:Nat)(h:At j≠(t:Int)):aP At f g (j+1) t=aP At f g j t:=by simp[aP,dJ,h]
def gL(K:DK)(t:Nat):List Int:=aP K.At K.D K.S K.m t
theorem uk{e:Type}{At f g j t n m}{P:e->Prop}(c:t<n)(d:j<=m)(a:∀i,i<m->P (f i))(b:∀i,i<n->P (g i)):P (aP At f g j t):=by
 unfold aP;split
 ·rename_i i h;exact a i (by have:=iv h;omega)
 ·exact b t c
theorem nA{w d K}(h:RDisk w d K)(t)(b:t<K.n):Bs w (aP K.At d.pA d.sA K.m t) (aP K.At d.pN d.sN K.m t) (aP K.At d.pC d.sC K.m t) (gL K t):=by
 unfold gL aP;split
 ·rename_i i a;exact h.pend.data i (iv a)
 ·exact h.safe.data t b
def dT(At:Nat->Int)(pA sA:Nat->Option Addr)(pN sN pC sC:Nat->Nat)(n j:Nat):List Value:=(List.range n).map fun t=> .slice (aP At pA sA j t) (aP At pN sN j t) (aP At pC sC j t)
theorem j9(At a d c f b e n j):(dT At a d c f b e n j).length=n:=by simp[dT]
theorem jv(At a d c f b e n j t)(h:t<n):(dT At a d c f b e n j)[t]?=some (.slice (aP At a d j t) (aP At c f j t) (aP At b e j t)):=by simp[dT,h]
theorem ul(At c i f m d k)(n j T:Nat)(g:At j=(T:Int)):(dT At c i f m d k n j).set T (.slice (c j) (f j) (d j))=dT At c i f m d k n (j+1):=by
 apply zb;intro t;rw[BO];by_cases b:t<n
 ·by_cases e:T=t
  ·subst e;rw[B4 rfl,B4 (by rw[j9];exact b),jv _ _ _ _ _ _ _ _ _ _ b,qj _ _ _ _ _ g,qj _ _ _ _ _ g,qj _ _ _ _ _ g]
  ·have a:At j≠(t:Int):=uA;rw[CH e,jv _ _ _ _ _ _ _ _ _ _ b,jv _ _ _ _ _ _ _ _ _ _ b,qk _ _ _ _ _ a,qk _ _ _ _ _ a,qk _ _ _ _ _ a]
 ·rw[x8 (by rw[j9];omega),x8 (l:=dT At c i f m d k n (j+1)) (by rw[j9];omega)];split
  ·rw[CH (by rw[j9];omega)]
  ·rfl
theorem AT(At b e d g c f n j):∀u∈dT At b e d g c f n j,u.oneCell'=true:=by
 intro u a;simp only[dT,x7]at a;obtain⟨_,_,rfl⟩:=a
 rfl
theorem AU(k:Nat)(g)(f:g=(k:Int))(j:k<=1048576)(w):
 (Instr.makeSlice 56 (.int .i64 g) (.int .i64 g)).run prog w= .ok (.slice (some ⟨w.1.size,0,none⟩) k k) (w.alloc (.cells (madeCells #[.int .u8 0] k) 5)):=by
 obtain⟨i,d,a,b,c⟩:=DB jM;subst f;have e:=run_make (P:=prog) w 56 5 i _ underlying56 d a .i64 .i64 k k uA (A4 _) (by rw[c];omega) uA;rw[e,b];simp[Value.cells]
def kf:Array Value:=madeCells #[.int .u8 0] 64
def gM:List Int:=List.replicate 64 0
theorem AV(w):(Instr.makeSlice 56 (.int .i64 64) (.int .i64 64)).run prog w= .ok (.slice (some ⟨w.1.size,0,none⟩) 64 64) (w.alloc (.cells kf 5)):=AU 64 64 rfl uA w
theorem AW(B)(w:World)(a:B<=w.1.size):Own B (w.alloc (.cells kf 5)) (some ⟨w.1.size,0,none⟩) 64 64 gM:=by
 have e:kf=(ob gM).toArray:=by
  apply Array.toList_inj.1;unfold kf gM;rw[toList_madeCells_one];simp[ob]
 rw[e];exact eI w gM 64 (by simp[gM]) uA B a
theorem AX:IsB gM:=lH 64
theorem AY:gM.length=64:=by simp[gM]
theorem ql:(prog.info? 56).map (fun i=>(i.zero,i.size,i.bytes))=some (some (.slice none 0 0),1,24):=vk
theorem qm:∃i e,prog.info? 56=some i/\i.zero=some e/\i.size=0+1/\e.cells.size=0+1/\i.bytes<=64:=by
 obtain⟨i,c,a,b,d⟩:=DB ql;exact⟨i,_,c,a,b,rfl,uA⟩
theorem AZ(ap t v pc n a r o f d K w)(an:RRecs 0 w ap K.n v zI n r o K.S)(am:RRecs 1 w t K.m pc (aI K) a f d K.D)(ak:dOk K):
 Calls prog 76 #[.agg #[.slice ap K.n v,.slice t K.m pc]] w fun e w'=> ∃g c,e= .returned (.slice (some ⟨g,0,none⟩) K.n c)/\Below w.1.size w w'/\w'.ownsRow w.1.size 56 1 (.slice (some ⟨g,0,none⟩) K.n c) K.n (dT K.At a n f r d o K.n K.m):=by
 obtain⟨⟨a7,a8,a6⟩,_,ac⟩:=ak;obtain⟨i,ag,L,M,N⟩:=DB ql;obtain⟨b,l,rfl,ae,af⟩:=an.at_ uA;have x:∀s S,∀j u,(dT K.At a n f r d o K.n 0)[j]?=some u->((w.alloc s).alloc S).cell? ((⟨b,l,none⟩:Addr).add j)=some u:=fun s S j u I=>by
  have J:j<K.n:=by have:=(wC.1 I).1;rw[j9]at this;exact this
  rw[jv _ _ _ _ _ _ _ _ _ _ J,qi,qi,qi]at I;rw[C8,(fK w s S).cell (p:=⟨b,l+j,none⟩) ae,<-I];have:=(af j J).2;simpa using this
 have W:Hid _:=x;have aX:Hid _:=(B2 w.1.size w).alloc t6 (.cells #[.slice (some ⟨b,l,none⟩) K.n v,.slice t K.m pc] 35);have aS:Hid _:=ac;clear x af ac;go_enter func76,ntmps76;go_wp2_with (at_builtin;refine wpList_append_own _ rfl _ _ 22 rfl (w.1.size+1) 56 i _ 1 24 underlying22 ag L M N rfl uA _ 0 [] rfl ?own ⟨b,l,none⟩ K.n v (dT K.At a n f r d o K.n 0) rfl ?len ?cells ?one ?l1 ?l2 ?B ?_)
 case own=>
  have:=World.ownsRow_lit (base:=w.1.size+1) (e:=56) (size:=1) (w.alloc (.cells #[.slice (some ⟨b,l,none⟩) K.n v,.slice t K.m pc] 35)) #[] 0 vo (wa _) vo;rw[World.size_alloc]at this;exact this
 case len=>rw[j9,Nat.mul_one]
 case cells=>exact W.out _ _
 case one=>exact AT _ _ _ _ _ _ _ _ _
 case l1=>unfold maxLen;omega
 case l2=>omega
 case B=>simp
 clear ag L M N;intro v1 w1 s ab _;have a1:∃g c,v1= .slice (some ⟨g,0,none⟩) K.n c/\w.1.size+1<=g:=by
  rcases s.2 with⟨_,bc⟩|⟨g,Z,a2,e,Q,_⟩
  ·omega
  ·exact⟨g,Z,e,Q⟩
 obtain⟨g,c,E,Q⟩:=a1;rw[E]at s;rw[E];have O:w1.ownsRow (w.1.size+1) 56 1 (.slice (some ⟨g,0,none⟩) K.n c) K.n (dT K.At a n f r d o K.n 0):=s;have Y:Below (w.1.size+1) (w.alloc (.cells #[.slice (some ⟨b,l,none⟩) K.n v,.slice t K.m pc] 35)) w1:=by
  have q:Below (w.1.size+1) (w.alloc (.cells #[.slice (some ⟨b,l,none⟩) K.n v,.slice t K.m pc] 35)) _:=t7.alloc vo (.cells #[] 56);exact q.grown ab vo (fun k a0=>by simp[Value.ownBlock]at a0;omega)
 have V:Hid _:=Y;have X:Hid _:=O;clear s ab E Y O;go_wp2;go_loopw [4] (fun i wr=> ∃j:Nat,j<=K.m/\i= .int .i64 j/\Below (w.1.size+1) (w.alloc (.cells #[.slice (some ⟨b,l,none⟩) K.n v,.slice t K.m pc] 35)) wr/\wr.ownsRow (w.1.size+1) 56 1 (.slice (some ⟨g,0,none⟩) K.n c) K.n (dT K.At a n f r d o K.n j)) (fun i _=>K.m-(intOf i).toNat)
 case atStart=>exact⟨0,wa _,rfl,V.out,X.out⟩
 case round=>
  clear V X;obtain⟨j,I,rfl,H,y⟩:=hrel;have ba:wr.cell? ⟨w.1.size,1,none⟩=some (.slice t K.m pc):=by rw[H.cell (p:=⟨w.1.size,1,none⟩) (x3 _)];simp
  have P:Hid (Below w.1.size w wr):=aX.out.trans (H.mono (x0 _));by_cases D:j<K.m
  ·obtain⟨F,m,rfl,A,C⟩:=am.at_ uA;have z:=aS.out j D;obtain⟨T,G⟩:=x2 z.1;have a9:Hid (K.At j=(T:Int)):=G;have ad:T<K.n:=by have:=z.2.1;omega
   have k0:wr.cell? ⟨F,m+j*2,none⟩=some (.int .i64 (T:Int)):=by rw[P.out.cell (p:=⟨F,m+j*2,none⟩) A,<-G];exact(C j D).1 0 uA
   have bd:wr.cell? ⟨F,m+j*2+1,none⟩=some (.slice (a j) (f j) (d j)):=by rw[P.out.cell (p:=⟨F,m+j*2+1,none⟩) A];exact(C j D).2
   have R:wr.cell? ⟨g,T,none⟩=some (.slice (aP K.At a n j T) (aP K.At f r j T) (aP K.At d o j T)):=by rw[y.cellAt T uA,jv _ _ _ _ _ _ _ _ _ _ ad]
   have bb:wr.frozen? ⟨g,T,none⟩=false:=y.frozenAt T;have U:=(y.stored T (.slice (a j) (f j) (d j))).1;rw[ul _ _ _ _ _ _ _ _ _ _ G]at U;have ST:Hid (World.ownsRow (wr.setCell ⟨g,T,none⟩ (.slice (a j) (f j) (d j))) (w.1.size+1) 56 1 (.slice (some ⟨g,0,none⟩) K.n c) K.n (dT K.At a n f r d o K.n (j+1))):=U;have aA:Hid _:=H.setCell (p:=⟨g,T,none⟩) Q (.slice (a j) (f j) (d j));have a3:(0:Int)<=(j:Int):=uA;have a4:(j:Int)< (K.m:Int):=uA;have a5:(0:Int)<=(T:Int):=uA;have hi4:(T:Int)< (K.n:Int):=uA;generalize aP K.At a n j T=bf at R;generalize aP K.At f r j T=bk at R;generalize aP K.At d o j T=bg at R;clear U y H C am an G z W;go_wp2_with fail;go_region
   all_goals
    go_wp2;go_roundw
    case rel=>exact⟨j+1,uA,by go_num,aA.out.drew,ST.out⟩
    case measure=>simp[intOf];omega
  ·have e:j=K.m:=uA;have aB:Hid (j=K.m):=e;clear e;have aT:Hid _:=y;clear y;go_wp2;go_ret;refine⟨g,c,rfl,P.out,?_⟩;have:=aT.out;rw[aB.out]at this;exact World.ownsRow.mono this (x0 _)
theorem qn(d K w)(h:RDisk w d K)(a:dOk K):
 Calls prog 76 #[av d K] w fun e w'=> ∃g c,e= .returned (.slice (some ⟨g,0,none⟩) K.n c)/\Below w.1.size w w'/\w'.ownsRow w.1.size 56 1 (.slice (some ⟨g,0,none⟩) K.n c) K.n (dT K.At d.pA d.sA d.pN d.sN d.pC d.sC K.n K.m):=
 AZ d.sa d.pa d.sc d.pc d.sA d.pA d.sN d.sC d.pN d.pC K w h.safe h.pend a
theorem qo{K}(a:dOk K){t}(c:t<K.n):(gL K t).length=64:=
 uk (P:=fun l:List Int=>l.length=64) c t6 (fun i b=>(a.2.2 i b).2.2) (fun i b=>a.2.1 i b)
theorem nC{w d K}(h:RDisk w d K)(a:dOk K)(t)(b:t<K.n):aP K.At d.pN d.sN K.m t=64:=by
 have:=(nA h t b).len_eq;rw[qo a b]at this;exact this.symm
theorem um:∀{l k:List Int},IsB l->IsB k->Lib.bytesOf l=Lib.bytesOf k->l=k
 |[],[],_,_,_=>rfl
 |[],y::k,_,_,h=>by simp[Lib.bytesOf]at h
 |x::l,[],_,_,h=>by simp[Lib.bytesOf]at h
 |x::l,y::k,b,a,h=>by
  simp only[Lib.bytesOf,ws,List.cons.injEq]at h;have d:=mY b;have e:=mY a;have c:=um (mX b) (mX a) h.2;have f:x.toNat%256=y.toNat%256:=by have:=C1 UInt8.toNat h.1;simpa using this
  have:x=y:=uA;rw[this,c]
theorem A7(a b n m g i l k w)(h:Bs w a n g l)(c:Bs w b m i k)(s:0<n)(r:0<m):
 Calls prog 175 #[.slice a n g,.slice b m i] w fun e w'=>e= .returned (.bool (decide (l=k)))/\w'=w:=by
 obtain⟨o,t,rfl,_,d⟩:=h.at_ s;obtain⟨p,u,rfl,_,f⟩:=c.at_ r;have v:=run_convert_bytes_arg (P:=prog) w 56 5 underlying56 D0 o t n g l h.len_eq d 9 D7;have x:=run_convert_bytes_arg (P:=prog) w 56 5 underlying56 D0 p u m i k c.len_eq f 9 D7;have j:Hid ((Lib.bytesOf l==Lib.bytesOf k)=decide (l=k)):=by
  show(Lib.bytesOf l==Lib.bytesOf k)=decide (l=k);by_cases e:l=k
  ·rw[e];simp
  ·rw[CP e,D2];exact fun q=>e (um h.byte c.byte q)
 rw[<-j.out,<-Lib.strOfNums_toList,<-Lib.strOfNums_toList];clear h c d f;go_enter func175,ntmps175;go_wp2;go_ret;exact⟨rfl,rfl⟩
def aJ(l:List Int)(i m:Nat):List Int:=(l.drop i).take m
theorem A8(b f d l w)(h:Bs w (some ⟨b,f,none⟩) 256 d l):
 Calls prog 172 #[.slice (some ⟨b,f,none⟩) 256 d] w fun e w'=>e= .returned (.agg #[.int .i64 (low (aJ l 4 4)),.int .i64 (l.getD 8 0),.int .i64 (low (aJ l 10 2)),.int .i64 (low (aJ l 0 4))])/\Below w.1.size w w':=by
 have Y:256<=d:=h.le;have x:d<=maxLen:=h.le';have F:Hid (Bs w (some ⟨b,f+4,none⟩) 4 (d-4) (aJ l 4 4)):=h.piece 4 4 uA _ uA uA;have y:Hid (Bs w (some ⟨b,f+10,none⟩) 2 (d-10) (aJ l 10 2)):=h.piece 10 2 uA _ uA uA;have Q:Hid (Bs w (some ⟨b,f,none⟩) 4 d (aJ l 0 4)):=h.piece 0 4 uA _ uA uA;have n4:=fun a n c v s t=>iO a n c (aJ l 4 4) v s t;have B:=fun a n c v s t=>iO a n c (aJ l 10 2) v s t;have J:=fun a n c v s t=>iO a n c (aJ l 0 4) v s t;generalize low (aJ l 4 4)=m at*;generalize low (aJ l 10 2)=j at*;generalize low (aJ l 0 4)=L at*;have P:Hid _:=n4;have E:Hid _:=B;have O:Hid _:=J;clear n4 B J;obtain⟨an,Z,e,A,I⟩:=h.at_ uA;cases e;have C:=I 8 uA;have af:=h.byte 8;generalize l.getD 8 0=i at*;have k:=(B2 w.1.size w).alloc t6 (.cells #[.int .i64 0,.int .i64 0,.int .i64 0,.int .i64 0] 272);have ap:(w.alloc (.cells #[.int .i64 0,.int .i64 0,.int .i64 0,.int .i64 0] 272)).cell? ⟨b,f+8,none⟩=some (.int .u8 i):=by rw[k.cell (p:=⟨b,f+8,none⟩) A];exact C
 have N:Hid (∀v,Below w.1.size w v->v.cell? ⟨b,f+8,none⟩=some (.int .u8 i)):=fun v T=>by rw[T.cell (p:=⟨b,f+8,none⟩) A];exact C
 have ac:=D6 w (.cells #[.int .i64 0,.int .i64 0,.int .i64 0,.int .i64 0] 272);have ae:(w.alloc (.cells #[.int .i64 0,.int .i64 0,.int .i64 0,.int .i64 0] 272)).1.size=w.1.size+1:=by simp
 unfold maxLen at x;have a1:(8:Int)<=(d:Int):=uA;have a2:(12:Int)<=(d:Int):=uA;have a3:(4:Int)<=(d:Int):=uA;have a4:¬d=4:=uA;have ak:¬d=10:=uA;have t0:¬d=0:=uA;clear I h C;go_enter func172,ntmps172;go_wp2_with fail;generalize H:w.alloc (.cells #[.int .i64 0,.int .i64 0,.int .i64 0,.int .i64 0] 272)=r at*;clear H;have ab:=fun o=>(B2 r.1.size r).alloc t6 o;have ag:IntKind.i64.wrap i=i:=by simp[IntKind.wrap,IntKind.bits,IntKind.signed];omega
 have ad:=fun o=>((ab o).block w.1.size uA).trans ac;have R:Hid _:=ad;have u:True:=trivial;go_region_held3 (fun v=>v.cell? ⟨b,f+8,none⟩=some (.int .u8 i))
  (first|exact N.out _ (k.drew.alloc k.drew.size _)|go_keep)
  (first
  |(go_at_call 121;have S:=u;refine(P.out _ _ _ _ ?_ ?_).mono ?_;(first|exact F.out.below k.drew|exact F.out.below (k.drew.alloc k.drew.size _));omega;rintro e w' ⟨rfl,rfl⟩;clear u S)
  |(go_at_call 121;refine(E.out _ _ _ _ ?_ ?_).mono ?_;(first|exact y.out.below k.drew|exact y.out.below (k.drew.alloc k.drew.size _));omega;rintro e w' ⟨rfl,rfl⟩))
 all_goals
  go_wp2_with fail;have M:=R.out (.cells #[.int .i64 m,.int .i64 i,.int .i64 j] 270);have D:=D6 r (.cells #[.int .i64 m,.int .i64 i,.int .i64 j] 270);rw[ae]at D;have K:=(k.alloc k.size (.cells #[.int .i64 m,.int .i64 i,.int .i64 j] 270)).drew;have g:(r.alloc (.cells #[.int .i64 m,.int .i64 i,.int .i64 j] 270)).drew.heap[w.1.size]?= _:=M;have q:(r.alloc (.cells #[.int .i64 m,.int .i64 i,.int .i64 j] 270)).drew.heap[w.1.size+1]?= _:=D;generalize (r.alloc (.cells #[.int .i64 m,.int .i64 i,.int .i64 j] 270)).drew=am at*;have U:=DC _ _ 0 _ _ _ g;have V:=DC _ _ 1 _ _ _ g;have W:=DC _ _ 2 _ _ _ g;have X:=DC _ _ 3 _ _ _ g;have aA:=frozen_of_row _ _ 0 _ _ g;have f1:=frozen_of_row _ _ 1 _ _ g;have aB:=frozen_of_row _ _ 2 _ _ g;have aS:=frozen_of_row _ _ 3 _ _ g;have aT:=DC _ _ 0 _ _ _ q;have aX:=DC _ _ 1 _ _ _ q;have a0:=DC _ _ 2 _ _ _ q;have G:Hid _:=K;clear M D g q K;go_region_with (go_at_call 121;refine(O.out _ _ _ _ ?_ ?_).mono ?_;exact Q.out.below G.out.drew;omega;rintro e w' ⟨rfl,rfl⟩)
  all_goals
   go_wp2;have z:=(((G.out.setCell (p:=⟨w.1.size,0,none⟩) t6 (.int .i64 m)).setCell (p:=⟨w.1.size,1,none⟩) t6 (.int .i64 i)).setCell (p:=⟨w.1.size,2,none⟩) t6 (.int .i64 j)).setCell (p:=⟨w.1.size,3,none⟩) t6 (.int .i64 L);refine B3 (v:= .agg #[.int .i64 m,.int .i64 i,.int .i64 j,.int .i64 L]) (by simp[results,results172,go_sem,U,V,W,X]) rfl ⟨rfl,?_⟩
   first|exact z.drew|exact z
