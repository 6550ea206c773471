import Derived.Test.YtglbanolhhjjiaaGreatDoorFo0
namespace Go.Proofs.YtglbanolhhjjiaaGreatDoor
open Go.Proofs.Tryz
open Go.RowKit
set_option linter.unusedVariables false
set_option maxRecDepth 100000
set_option maxHeartbeats 32000000
theorem pH(a b:Nat)(c:a<4294967296)(d:b<4294967296):bits .xor .i64 (a:Int) (b:Int)=((a^^^b:Nat):Int):=by
 have hx:a^^^b<2^32:=Nat.xor_lt_two_pow t7 t7;show IntKind.i64.wrap ((BitVec.ofInt 64 (a:Int)^^^BitVec.ofInt 64 (b:Int)).toNat:Int)= _;rw[BitVec.toNat_xor,ofInt_u64 a t7,ofInt_u64 b t7];simp[IntKind.wrap,IntKind.bits,IntKind.signed];omega
def fN(h:Nat):Nat:=if h%2=1 then(h/2)^^^3988292384 else h/2
def ff:Nat->Nat->Nat
 |0,h=>h
 |j+1,h=>fN (ff j h)
def dv(l:List Int):Nat->Nat
 |0=>4294967295
 |k+1=>ff 8 (dv l k^^^(l.getD k 0).toNat)
def crc(l:List Int):Nat:=dv l l.length^^^4294967295
theorem jW{a b}(c:a<4294967296)(d:b<4294967296):a^^^b<4294967296:=Nat.xor_lt_two_pow (n:=32) t7 t7
theorem zp{a}(b:a<4294967296):fN a<4294967296:=by
 unfold fN;split
 ·exact jW t7 t7
 ·omega
theorem mP{b}(a:b<4294967296):∀j,ff j b<4294967296
 |0=>a
 |j+1=>zp (mP a j)
theorem mQ{l}(a:∀i,0<=l.getD i 0/\l.getD i 0<256):∀k,dv l k<4294967296
 |0=>by unfold dv;omega
 |k+1=>mP (jW (mQ a k) (by have:=a k;omega)) 8
theorem tu{l}(a:∀i,0<=l.getD i 0/\l.getD i 0<256):crc l<4294967296:=jW (mQ a _) t7
theorem tv{a}(b:a%2=1):fN a=(a/2)^^^3988292384:=by unfold fN;rw[BC b]
theorem tw{a}(b:¬a%2=1):fN a=a/2:=by unfold fN;rw[BX b]
theorem zq(a n d l w)(r:Bs w a n d l)(N:n<=1048576):
 Calls prog 156 #[.slice a n d] w fun e w'=>e= .returned (.int .i64 (crc l))/\w'=w:=by
 go_enter func156,ntmps156;go_wp2
 go_loop [3,4] (fun x i=> ∃k:Nat,k<=n/\i= .int .i64 k/\x= .int .i64 (dv l k:Nat)) (fun _ i=>n-(intOf i).toNat)
 case atStart=>exact⟨0,u6 _,rfl,rfl⟩
 case round=>
  obtain⟨k,L,rfl,rfl⟩:=hrel;have h:=mQ r.byte k;have D:Hid (crc l=dv l l.length^^^4294967295):=rfl;have o:Hid (dv l (k+1)=ff 8 (dv l k^^^(l.getD k 0).toNat)):=rfl;have E:Hid (l.length=n):=r.len_eq;by_cases v:k<n
  ·obtain⟨b,J,rfl,H,t⟩:=r.at_ t7;have u:=t k v;have s:=r.byte k;obtain⟨B,g⟩:∃B:Nat,l.getD k 0=(B:Int):=⟨(l.getD k 0).toNat,t7⟩;rw[g]at u s;have p:Hid (dv l (k+1)=ff 8 (dv l k^^^B)):=by have:=o.out;rw[g,Int.toNat_natCast]at this;exact this
   clear o t r g;generalize dv l k=F at*;have z:=pH F B h t7;have G:F^^^B<4294967296:=jW h t7;go_wp2;generalize F^^^B=C at*
   go_loop [3,5] (fun x j=> ∃m:Nat,m<=8/\j= .int .i64 m/\x= .int .i64 (ff m C:Nat)) (fun _ j=>8-(intOf j).toNat)
   case atStart=>exact⟨0,u6 _,rfl,rfl⟩
   case round=>
    obtain⟨m,M,rfl,rfl⟩:=hrel;have K:=mP G m;by_cases I:m<8
    ·have q:Hid (ff (m+1) C=fN (ff m C)):=rfl;generalize ff m C=Z at*;have A:bits .xor .i64 ((Z:Int)/2) 3988292384=((Z/2^^^3988292384:Nat):Int):=pH (Z/2) 3988292384 t7 t7;by_cases c:Z%2=1
     ·have f:Hid (fN Z=Z/2^^^3988292384):=tv c;have y:((Z:Int)%2==1)=true:=by simp;omega
      clear c;go_wp2
      go_round
      case rel=>exact⟨m+1,t7,by go_num,by rw[q.out,f.out]⟩
      case measure=>simp[intOf];omega
     ·have f:Hid (fN Z=Z/2):=tw c;have y:((Z:Int)%2==1)=false:=by simp;omega
      clear c A;go_wp2
      go_round
      case rel=>exact⟨m+1,t7,by go_num,by rw[q.out,f.out];go_num⟩
      case measure=>simp[intOf];omega
    ·have e:m=8:=t7;subst e;go_wp2
     go_round
     case rel=>exact⟨k+1,t7,by go_num,by rw[p.out]⟩
     case measure=>simp[intOf];omega
  ·have e:k=n:=t7;subst e;have z:bits .xor .i64 (dv l k:Int) 4294967295=((dv l k^^^4294967295:Nat):Int):=pH _ 4294967295 h t7;go_wp2;go_ret;exact⟨by rw[D.out,E.out];rfl,rfl⟩
theorem zt(a n f l w)(r:Bs w a n f l)(N:n<=1048576):
 Calls prog 174 #[.slice a n f] w fun e w'=>e= .returned (.int .i64 (crc l))/\w'=w:=by
 go_enter func174,ntmps174;go_wp2
 go_loop [3,9] (fun x i=> ∃k:Nat,k<=n/\i= .int .i64 k/\x= .int .u32 (dv l k:Nat)) (fun _ i=>n-(intOf i).toNat)
 case atStart=>exact⟨0,u6 _,rfl,rfl⟩
 case round=>
  obtain⟨k,L,rfl,rfl⟩:=hrel;have c:=mQ r.byte k;have D:Hid (crc l=dv l l.length^^^4294967295):=rfl;have o:Hid (dv l (k+1)=ff 8 (dv l k^^^(l.getD k 0).toNat)):=rfl;have E:Hid (l.length=n):=r.len_eq;by_cases v:k<n
  ·obtain⟨b,K,rfl,I,t⟩:=r.at_ t7;have u:=t k v;have s:=r.byte k;obtain⟨B,h⟩:∃B:Nat,l.getD k 0=(B:Int):=⟨(l.getD k 0).toNat,t7⟩;rw[h]at u s;have p:Hid (dv l (k+1)=ff 8 (dv l k^^^B)):=by have:=o.out;rw[h,Int.toNat_natCast]at this;exact this
   clear o t r h;generalize dv l k=F at*;have z:=u32_xor_nat F B c t7;have G:F^^^B<4294967296:=jW c t7;go_wp2;generalize F^^^B=C at*
   go_loop [3,17] (fun x j=> ∃m:Nat,m<=8/\j= .int .i64 m/\x= .int .u32 (ff m C:Nat)) (fun _ j=>8-(intOf j).toNat)
   case atStart=>exact⟨0,u6 _,rfl,rfl⟩
   case round=>
    obtain⟨m,M,rfl,rfl⟩:=hrel;have H:=mP G m;by_cases J:m<8
    ·have q:Hid (ff (m+1) C=fN (ff m C)):=rfl;generalize ff m C=Z at*;have A:bits .xor .u32 ((Z:Int)/2) 3988292384=((Z/2^^^3988292384:Nat):Int):=u32_xor_nat (Z/2) 3988292384 t7 t7;by_cases d:Z%2=1
     ·have g:Hid (fN Z=Z/2^^^3988292384):=tv d;have y:((Z:Int)%2==1)=true:=by simp;omega
      clear d;go_wp2
      go_round
      case rel=>exact⟨m+1,t7,by go_num,by rw[q.out,g.out]⟩
      case measure=>simp[intOf];omega
     ·have g:Hid (fN Z=Z/2):=tw d;have y:((Z:Int)%2==1)=false:=by simp;omega
      clear d A;go_wp2
      go_round
      case rel=>exact⟨m+1,t7,by go_num,by rw[q.out,g.out];go_num⟩
      case measure=>simp[intOf];omega
    ·have e:m=8:=t7;subst e;go_wp2
     go_round
     case rel=>exact⟨k+1,t7,by go_num,by rw[p.out]⟩
     case measure=>simp[intOf];omega
  ·have e:k=n:=t7;subst e;have z:bits .xor .u32 (dv l k:Int) 4294967295=((dv l k^^^4294967295:Nat):Int):=u32_xor_nat _ 4294967295 c t7;have H:dv l k^^^4294967295<4294967296:=jW c t7;go_wp2;go_ret;exact⟨by rw[D.out,E.out];rfl,rfl⟩
theorem zu:num 0 4=[0,0,0,0]:=uv
def fg(id kind:Int)(l:List Int):List Int:=ed id kind l.length++l++List.replicate (240-l.length) 0
def page(id kind:Int)(l:List Int):List Int:=num (crc (fg id kind l)) 4++fg id kind l
def gd(id kind:Int)(l:List Int):List Int:=if bL id kind l.length=true then page id kind l else []
theorem mR(id a n):(ed id a n).length=12:=by simp[ed,ew]
theorem tA{id a n}(b:bL id a n=true):IsB (ed id a n):=by
 obtain⟨c,d,e,f,g⟩:=CC b;exact dC (dC (dC (ec _ _) (pD t7 t7 (jP t7 t7))) (ec _ _)) (ec _ _)
theorem ja{id a n}(b:bL id a n=true):n<=240:=(CC b).2.2.2.2
theorem tB{id a l}(b:l.length<=240):(fg id a l).length=252:=by
 simp[fg,mR];omega
theorem pI{id a l}(c:bL id a l.length=true)(b:IsB l):IsB (fg id a l):=
 dC (dC (tA c) b) (lH _)
theorem tC{id a l}(b:l.length<=240):(page id a l).length=256:=by
 simp[page,ew,tB b]
theorem tD{id a l}(c:bL id a l.length=true)(b:IsB l):IsB (page id a l):=
 dC (ec _ _) (pI c b)
theorem zv{id a l}(b:IsB l):IsB (gd id a l):=by
 unfold gd;split
 ·exact tD (by assumption) b
 ·exact eX
def tE:Value->Nat| .slice _ n _=>n|_=>0
theorem tF(id b a n c l w)(bc:Bs w a n c l)(g:bL id b n=true):
 Calls prog 127 #[.int .i64 id,.int .i64 b,.slice a n c] w fun e w'=> ∃M S,e= .returned (.tuple #[.slice M 256 S,.bool true])/\Below w.1.size w w'/\Own w.1.size w' M 256 S (page id b l):=by
 obtain⟨bd,bx,bz,bA,bB⟩:=CC g;have W:=bc.len_eq;have K:Hid (bL id b n=true):=g;clear g;have J:Hid (l.length=n):=W;clear W;go_enter func127,ntmps127;go_wp2_with fail;refine(i9 id 4 _ bd t7 t7).mono ?_;rintro e w1 ⟨aT,a6,rfl,k,X⟩;have bk:=k.size;go_wp2_with (at_builtin;refine eu rfl _ _ rfl w.1.size aT 4 a6 (num id 4) rfl ?own _ 2 2 [b,0] rfl ?bs ?len ?B ?_)
 case own=>exact B4 X _
 case bs=>exact ta w1 b 0 t7 t7 t7 t7
 case len=>omega
 case B=>simp;omega
 intro aX a7 bE Z s _;have A:=(k.alloc k.size _).trans s;clear s k X bk;go_wp2_with fail;refine(i9 n 2 _ t7 t7 t7).mono ?_;rintro e bF ⟨a0,a8,rfl,d,ab⟩;have y:=Z.below d;have C:=A.trans (d.mono A.size);have aA:=C.size;have am:=ab.bs (ec _ _);clear Z A d ab;go_wp2_with (at_builtin;refine eu rfl _ _ rfl w.1.size aX 6 a7 (num id 4++[b,0]) rfl ?own a0 2 a8 (num n 2) rfl ?bs ?len ?B ?_)
 case own=>exact y
 case bs=>exact am
 case len=>omega
 case B=>exact aA
 intro a1 a9 bf ac t _;have m:=C.trans t;have bl:=m.size;clear t C y am aA;go_wp2_with (at_builtin;refine eu rfl _ _ rfl w.1.size a1 8 a9 (num id 4++[b,0]++num n 2) rfl ?own _ 4 4 [0,0,0,0] rfl ?bs ?len ?B ?_)
 case own=>exact B4 ac _
 case bs=>exact zc bf
 case len=>omega
 case B=>simp;omega
 intro a2 ba bP ad u _;have p:=(m.alloc m.size _).trans u;have aB:=p.size;have an:=bc.below p;clear u m ac bl;go_wp2_with (at_builtin;refine eu rfl _ _ rfl w.1.size a2 12 ba (num id 4++[b,0]++num n 2++[0,0,0,0]) rfl ?own a n c l rfl ?bs ?len ?B ?_)
 case own=>exact ad
 case bs=>exact an
 case len=>omega
 case B=>exact aB
 intro O U bg ae v _;have a4:=p.trans v;have af:Own w.1.size bg O (12+n) U (ed id b n++l):=by simpa [ed,zu]using ae
 clear v p ad aB an ae;go_wp2_with fail;go_loopw [8] (fun o wr=> ∃j a c,j<=240-n/\o= .slice a (12+n+j) c/\Below w.1.size w wr/\Own w.1.size wr a (12+n+j) c (ed id b n++l++List.replicate j 0)) (fun o _=>252-tE o)
 case atStart=>exact⟨0,O,U,u6 _,rfl,a4,by simpa using af⟩
 case round=>
  obtain⟨j,z,D,bC,rfl,f,h⟩:=hrel;have I:=f.size;by_cases bu:j<240-n
  ·have br:((12:Int)+(n:Int)+(j:Int))<252:=t7;go_wp2_with (at_builtin;refine eu rfl _ _ rfl w.1.size z (12+n+j) D (ed id b n++l++List.replicate j 0) rfl ?own _ 1 1 [0] rfl ?bs ?len ?B ?_)
   case own=>exact B4 h _
   case bs=>exact fL wr 0 t7 t7
   case len=>omega
   case B=>simp;omega
   intro P V H G x _;have a5:=(f.alloc f.size _).trans x;have ag:Own w.1.size H P (12+n+(j+1)) V (ed id b n++l++List.replicate (j+1) 0):=by
    rw[List.replicate_succ'];simp only[vJ]at G ⊢;exact G
   clear x f h I G;go_wp2;go_roundw
   case rel=>exact⟨j+1,P,V,t7,rfl,a5,ag⟩
   case measure=>simp[tE];omega
  ·have e:j=240-n:=t7;subst e;have E:12+n+(240-n)=252:=t7;have L:Hid (fg id b l=ed id b n++l++List.replicate (240-n) 0):=by rw[Hid,fg,J.out]
   have i:Own w.1.size wr z 252 D (fg id b l):=by rw[L.out];rw[E]at h;exact h
   clear h;have F:=pI (by rw[J.out];exact K.out) bc.byte;have bn:=tu F;have aS:Hid (page id b l=num (crc (fg id b l)) 4++fg id b l):=rfl;generalize fg id b l=R at*;rw[E];clear E L;go_wp2_with fail;refine(zq _ _ _ R _ (i.bs F) t7).mono ?_;rintro e H ⟨rfl,rfl⟩;go_wp2_with fail;refine(i9 (crc R) 4 _ t7 t7 t7).mono ?_;rintro e bR ⟨a3,bb,rfl,q,ak⟩;have ap:=(i.below q).bs F;have bm:=q.size;go_wp2_with (at_builtin;refine eu rfl _ _ rfl H.1.size a3 4 bb (num (crc R) 4) rfl ?own z 252 D R rfl ?bs ?len ?B ?_)
   case own=>exact ak
   case bs=>exact ap
   case len=>omega
   case B=>exact bm
   intro N T bv Y r _;have Q:=f.trans ((q.trans r).mono I);clear i q ak ap r;go_wp2
   go_ret2
   exact⟨N,T,rfl,Q,by rw[aS.out];exact Y.mono I⟩
theorem tG(id b a)(n c:Nat)(w)(p:n<=1048576)(g:bL id b n=false):
 Calls prog 127 #[.int .i64 id,.int .i64 b,.slice a n c] w fun e w'=> ∃h i,e= .returned (.tuple #[.slice h 0 i,.bool false])/\Below w.1.size w w'/\Own w.1.size w' h 0 i []:=by
 have f:=of_decide_eq_false g;clear g;have d:Own w.1.size (w.alloc (.cells #[] 5)) (some ⟨w.1.size,0,none⟩) 0 0 []:=eI w [] 0 rfl t7 _ t1;by_cases j:id<0
 ·clear f;go_enter func127,ntmps127;go_wp2
  go_ret2
  exact⟨_,_,rfl,bAl _ _,d⟩
 ·by_cases k:1023<id
  ·clear f;go_enter func127,ntmps127;go_wp2
   go_ret2
   exact⟨_,_,rfl,bAl _ _,d⟩
  ·by_cases l:b<1
   ·clear f;go_enter func127,ntmps127;go_wp2
    go_ret2
    exact⟨_,_,rfl,bAl _ _,d⟩
   ·by_cases m:4<b
    ·clear f;go_enter func127,ntmps127;go_wp2
     go_ret2
     exact⟨_,_,rfl,bAl _ _,d⟩
    ·have o:(240:Int)< (n:Int):=t7;clear f;go_enter func127,ntmps127;go_wp2
     go_ret2
     exact⟨_,_,rfl,bAl _ _,d⟩
theorem pJ{id a l}(b:bL id a l.length=true):gd id a l=page id a l:=by unfold gd;rw[BC b]
theorem zw{id a l}(b:bL id a l.length=false):gd id a l=[]:=by unfold gd;rw[BX (by simp[b])]
theorem zx(id b a n c l w)(i:Bs w a n c l)(k:n<=1048576):
 Calls prog 127 #[.int .i64 id,.int .i64 b,.slice a n c] w fun e w'=> ∃g h,e= .returned (.tuple #[.slice g (gd id b l).length h,.bool (bL id b n)])/\Below w.1.size w w'/\Own w.1.size w' g (gd id b l).length h (gd id b l):=by
 cases d:bL id b n with
 |true=>
  have f:=pJ (l:=l) (by rw[i.len_eq];exact d);have j:(page id b l).length=256:=tC (by have:=ja d;have:=i.len_eq;omega);rw[f,j];exact tF id b a n c l w i d
 |false=>
  have f:=zw (l:=l) (by rw[i.len_eq];exact d);rw[f];exact tG id b a n c w k d
theorem zy:(prog.info? 157).map (fun i=>(i.zero,i.size,i.bytes))=some (some (.agg #[.int .i64 0,.int .i64 0,.slice none 0 0]),3,40):=uA
theorem zA:∃i e,prog.info? 157=some i/\i.zero=some e/\i.size=2+1/\e.cells.size=2+1/\i.bytes<=64:=by
 obtain⟨i,c,a,b,d⟩:=CT zy;exact⟨i,_,c,a,b,rfl,t7⟩
def opI(id:Int):Nat->Nat->Int:=fun i q=>if q=0 then 1 else 4*id+i
def opL(P:List Int):Nat->List Int:=fun i=>(P.drop (64*i)).take 64
def POps(B:Nat)(w:World)(a:Option Addr)(k c:Nat)(id:Int)(P:List Int):Prop:=
 ∃A N C,ORecs 2 157 B w a k c (opI id) A N C (opL P)/\∀i,i<k->N i=64
theorem ORecs.congr{p e B w a n c k I' h N j L L'}(f:ORecs p e B w a n c k h N j L)(g:∀i,i<n->∀q,q<p->k i q=I' i q)(d:∀i,i<n->L i=L' i):ORecs p e B w a n c I' h N j L':=
 ⟨by rw[<-lM p n (fun i b=>⟨g i b,rfl⟩)];exact f.row,fun i b=>by rw[<-d i b];exact f.data i b,fun i b=>by rw[<-d i b];exact f.byte i b,f.sep1⟩
theorem POps.step{B w a k c id P m N n d f l}(h:∀i,i<k->N i=64)(o:ORecs 2 157 B w a (k+1) c (upd (opI id) k l) (upd m k d) (upd N k 64) (upd n k f) (upd (opL P) k (opL P k)))(g:∀q,q<2->l q=opI id k q):POps B w a (k+1) c id P:=by
 refine⟨_,_,_,o.congr (fun i b q j=> ?_) (fun i b=> ?_),fun i b=> ?_⟩
 ·by_cases e:i=k
  ·subst e;rw[be];exact g q j
  ·rw[bw _ _ _ e]
 ·by_cases e:i=k
  ·subst e;rw[be]
  ·rw[bw _ _ _ e]
 ·by_cases e:i=k
  ·subst e;rw[be]
  ·rw[bw _ _ _ e];exact h i t7
theorem zB{P}(a:IsB P)(i):IsB (opL P i):=gR (fun j=>by have:=a (64*i+j);simpa [List.getD]using this) 64
theorem pK(id b a n c l w)(J:Bs w a n c l)(d:bL id b n=true):
 Calls prog 93 #[.int .i64 id,.int .i64 b,.slice a n c] w fun e w'=> ∃z C,e= .returned (.tuple #[.slice z 4 C,.bool true])/\Below w.1.size w w'/\POps w.1.size w' z 4 C id (page id b l):=by
 have ab:0<=id/\id<=1023:=⟨(CC d).1,(CC d).2.1⟩;have E:(page id b l).length=256:=tC (by have:=ja d;have:=J.len_eq;omega);have f:=tD (by rw[J.len_eq];exact d) J.byte;have x:Hid (bL id b n=true):=d;clear d E;go_enter func93,ntmps93;go_wp2_with fail;have u:=(Bn w.1.size w).alloc t1 (.cells #[] 157);refine(tF id b a n c l _ (J.below u) x.out).mono ?_;rintro e w1 ⟨ad,r,rfl,q,j⟩;generalize p:page id b l=P at*;have y:Hid (page id b l=P):=p;clear p;have V:=(io 2 157 w.1.size w t1 (opI id) (fun _=>none) (fun _=>0) (fun _=>0) (opL P)).below q;have Q:=u.trans (q.mono u.size);obtain⟨g,rfl,ae⟩:=mM j t7;have Y:=(j.bs f).le;have Z:=(j.bs f).le';have F:=j.mono (B':=w.1.size) uB;clear j q;go_wp2_with fail;go_loopw [8,11] (fun o i wr=> ∃k a c,k<=4/\i= .int .i64 (k:Nat)/\o= .slice a k c/\Below w.1.size w wr/\Own w.1.size wr (some ⟨g,0,none⟩) 256 r P/\POps w.1.size wr a k c id P) (fun _ i _=>4-(intOf i).toNat)
 case atStart=>exact⟨0,_,_,u6 _,rfl,rfl,Q,F,_,_,_,V,fun i T=>absurd T t7⟩
 case round=>
  obtain⟨k,A,D,af,rfl,rfl,h,s,W,N,X,v,t⟩:=hrel;by_cases ac:k<4
  ·have I:Bs wr (some ⟨g,64*k,none⟩) 64 (r-64*k) (opL P k):=by
    have:=(s.bs f).piece (64*k) 64 t7 (r-64*k) t7 t7;rw[wg]at this;exact this
   go_wp2_with fail;refine(jV _ 64 _ _ _ I t7).mono ?_;rintro e ag ⟨K,M,rfl,m,G⟩;go_wp2_with (at_builtin;refine zk rfl _ _ _ rfl 2 157 w.1.size underlying89 zA uv A k D (opI id) W N X (opL P) rfl v m (opI id k) K 64 M (opL P k) G (zB f k) h.size _ rfl rfl t7 ?_);intro L O ak H B ge;have R:=(h.trans (m.mono h.size)).trans B;have S:=ge (s.below m);have U:=POps.step t H (fun _ _=>rfl);clear H B m G I v t h s ge;go_wp2;go_roundw
   case rel=>exact⟨k+1,L,O,t7,by go_num,rfl,R,S,U⟩
   case measure=>simp[intOf];omega
  ·have e:k=4:=t7;subst e;go_wp2
   go_ret2
   exact⟨A,D,rfl,h,by rw[y.out];exact⟨W,N,X,v,t⟩⟩
theorem tH(id b a)(n c:Nat)(w)(o:n<=1048576)(d:bL id b n=false)(P):
 Calls prog 93 #[.int .i64 id,.int .i64 b,.slice a n c] w fun e w'=> ∃j k,e= .returned (.tuple #[.slice j 0 k,.bool false])/\Below w.1.size w w'/\POps w.1.size w' j 0 k id P:=by
 have h:Hid (bL id b n=false):=d;clear d;go_enter func93,ntmps93;go_wp2_with fail;have g:=(Bn w.1.size w).alloc t1 (.cells #[] 157);refine(tG id b a n c _ o h.out).mono ?_;rintro e w1 ⟨r,s,rfl,f,p⟩;have q:=(io 2 157 w.1.size w t1 (opI id) (fun _=>none) (fun _=>0) (fun _=>0) (opL P)).below f;have l:=g.trans (f.mono g.size);clear f p g;go_wp2
 go_ret2
 exact⟨_,_,rfl,l,_,_,_,q,fun i m=>absurd m t7⟩
structure KeepT(t:Nat)(w w':World):Prop where
 size:w.1.size<=w'.1.size
 block:∀(k:Nat)(cs:Array Value)(fr:Nat×Nat),w.heap[k]?=some (.cells cs t fr)->w'.heap[k]?=some (.cells cs t fr)
theorem KeepT.refl(t w):KeepT t w w:=⟨t1,fun _ _ _ a=>a⟩
theorem KeepT.trans{t a b c}(e:KeepT t a b)(k:KeepT t b c):KeepT t a c:=⟨u9 e.size k.size,fun i cs fr d=>k.block i cs fr (e.block i cs fr d)⟩
theorem aV{t w w'}(b:Below w.1.size w w'):KeepT t w w':=⟨b.size,fun k cs fr a=>by rw[b.block k (vR.1 a).1];exact a⟩
theorem bD{t e s B w w' v n xs}(i:w.ownsRow B e s v n xs)(d:w.grownBy w' v.ownBlock)(h:e≠t):KeepT t w w':=
 ⟨d.size,fun k cs fr c=>by
  rw[d.block k (vR.1 c).1 (fun a=> ?_)]
  ·exact c
  ·rcases i.2 with⟨b,_⟩|⟨g,j,l,b,_,f,_⟩
   ·subst b;simp[Value.ownBlock]at a
   ·subst b;simp[Value.ownBlock]at a;subst a;rw[c]at f;cases f;exact h rfl⟩
theorem cw{t s B w w' v n xs}(b:w.ownsRow B t s v n xs)(a:KeepT t w w'):w'.ownsRow B t s v n xs:=by
 refine⟨b.1,?_⟩;rcases b.2 with h2|⟨k,cap,cur,hv,hg,hh,r⟩
 ·exact u5 h2
 ·exact u4 ⟨k,cap,cur,hv,hg,a.block k _ _ hh,r⟩
theorem Blk.keepT{w w' t g xs}(b:Blk w t g xs)(a:KeepT t w w'):Blk w' t g xs:=a.block g _ _ b
theorem aw{t e g w w' xs}(f:OnlyB g w w')(d:Blk w e g xs)(c:e≠t):KeepT t w w':=
 ⟨f.size,fun k cs fr a=>by
  by_cases b:k=g
  ·subst b;rw[d]at a;cases a;exact absurd rfl c
  ·exact(f.block k (vR.1 a).1 b).trans a⟩
theorem cx{t e g:Nat}{w w' b fr}(i:OnlyB g w w')(f:w.heap[g]?=some (.cells b e fr))(d:e≠t):KeepT t w w':=
 ⟨i.size,fun k cs h a=>by
  by_cases c:k=g
  ·subst c;rw[f]at a;cases a;exact absurd rfl d
  ·exact(i.block k (vR.1 a).1 c).trans a⟩
abbrev OpK:=Int×Int×List Int
abbrev OpV:=Option Addr×Nat
def op0:OpK:=(0,0,[])
def opX(x:OpK)(v:OpV):List Value:=[.int .i64 x.1,.int .i64 x.2.1,.slice v.1 x.2.2.length v.2]
def opF(xs:List OpK)(V:Nat->OpV):Nat->List Value:=fun i=>opX (xs.getD i op0) (V i)
theorem zC(x v):∀u∈opX x v,u.oneCell'=true:=by simp[opX,Value.oneCell']
theorem jb(xs a n):IsRow 3 (opF xs a) n:=⟨fun _ _=>rfl,fun i _=>zC _ _⟩
theorem pL:ElT 89 157 3 (.agg #[.int .i64 0,.int .i64 0,.slice none 0 0]) 40:=⟨underlying89,uA,by rw[Value.cells];rfl,t7⟩
def OpD(w:World)(xs:List OpK)(V:Nat->OpV):Prop:= ∀i,i<xs.length->Own 0 w (V i).1 (xs.getD i op0).2.2.length (V i).2 (xs.getD i op0).2.2/\IsB (xs.getD i op0).2.2
theorem OpD.keep{w w' xs c}(d:OpD w xs c)(b:KeepT 5 w w'):OpD w' xs c:=fun i a=>⟨cw (d i a).1 b,(d i a).2⟩
def ROp(w:World)(a:Option Addr)(c:Nat)(xs:List OpK):Prop:= ∃V,RRow w 3 a xs.length c (opF xs V)/\OpD w xs V
def OOp(B:Nat)(w:World)(a:Option Addr)(c:Nat)(xs:List OpK):Prop:= ∃V,ORow 157 3 B w a xs.length c (opF xs V)/\OpD w xs V
theorem OOp.reads{B w a c xs}(f:OOp B w a c xs):ROp w a c xs:=by
 obtain⟨e,b,d⟩:=f;exact⟨e,ORow.reads b (jb _ _ _),d⟩
theorem OOp.keep{B w w' a c xs}(h:OOp B w a c xs)(b:KeepT 157 w w')(d:KeepT 5 w w'):OOp B w' a c xs:=by
 obtain⟨g,e,f⟩:=h;exact⟨g,cw e b,f.keep d⟩
theorem OOp.below{B w w' a c xs}(d:OOp B w a c xs)(b:Below w.1.size w w'):OOp B w' a c xs:=d.keep (aV b) (aV b)
theorem OOp.mono{B B' w a c xs}(g:OOp B w a c xs)(b:B'<=B):OOp B' w a c xs:=by
 obtain⟨f,d,e⟩:=g;exact⟨f,ORow.mono d b,e⟩
theorem ROp.below{w w' a c xs}(g:ROp w a c xs)(b:Below w.1.size w w'):ROp w' a c xs:=by
 obtain⟨f,d,e⟩:=g;exact⟨f,d.below b,e.keep (aV b)⟩
theorem mS(B)(w:World)(a:B<=w.1.size):OOp B (w.alloc (.cells #[] 157)) (some ⟨w.1.size,0,none⟩) 0 []:=⟨fun _=>(none,0),td _ 3 B w a _,fun i b=>by simp at b⟩
theorem jc{w}{o:Oper}{g q G so xo B a b c d xs f}(n:OOp B w a c xs)(D:ROp w b d f)(A:xs.length+f.length<=1048576)(r:B<=w.1.size)(C:o.op= .call {callee:= .builtin .append,args:=#[so,xo],argTypes:=#[89,89]})(E:g.eval so= .slice a xs.length c)(hx:g.eval xo= .slice b f.length d)(y:∀j l w',OOp B w' j l (xs++f)->w.grownBy w' (Value.slice a xs.length c).ownBlock->Below B w w'->q (g.put o.dst (.slice j (xs.length+f.length) l)) w'):o.wp prog g w q G:=by
 obtain⟨H,m,u⟩:=n;obtain⟨U,v,x⟩:=D;refine zf so xo pL C B a xs.length c _ E m b f.length d _ hx v A t7 r (fun j l w' F p=>y j l w' ⟨fun i=>if i<xs.length then H i else U (i-xs.length),?_,fun i s=> ?_⟩ p (t2.grown p r (fun k z=>(BS m k z).1)))
 ·rw[u7];refine ORow.congr F (fun i s=> ?_);unfold i7 opF;by_cases h:i<xs.length
  ·rw[BC h];simp[List.getD,List.getElem?_append_left h,h]
  ·rw[BX h];simp[List.getD,List.getElem?_append_right (Nat.not_lt.1 h),h]
 ·have t:KeepT 5 w w':=bD m p uv;by_cases h:i<xs.length
  ·have e:(xs++f).getD i op0=xs.getD i op0:=by simp[List.getD,List.getElem?_append_left h]
   simp only[e,BC h];exact u.keep t i h
  ·have e:(xs++f).getD i op0=f.getD (i-xs.length) op0:=by simp[List.getD,List.getElem?_append_right (Nat.not_lt.1 h)]
   rw[u7]at s;simp only[e,BX h];exact x.keep t (i-xs.length) t7
theorem mT{w i rest o e x so xo B a b c d xs f}(j:OOp B w a c xs)(u:ROp w b d f)(s:xs.length+f.length<=1048576)(p:B<=w.1.size)(k:o.guard=none)(t:o.op= .call {callee:= .builtin .append,args:=#[so,xo],argTypes:=#[89,89]})(v:e.eval so= .slice a xs.length c)(hx:e.eval xo= .slice b f.length d)(r:∀g h w',OOp B w' g h (xs++f)->w.grownBy w' (Value.slice a xs.length c).ownBlock->Below B w w'->wpList prog i x rest (e.put o.dst (.slice g (xs.length+f.length) h)) w'):wpList prog i x (o::rest) e w:=
 C2 k fun _ q=>jc j u s p t v hx fun g h w' l m n=>q _ _ (r g h w' l m n)
def opS:OpK:=(2,0,[])
theorem pM(w:World):ROp (w.alloc (.cells #[.int .i64 2,.int .i64 0,.slice none 0 0] 157)) (some ⟨w.1.size,0,none⟩) 1 [opS]:=
 ⟨fun _=>(none,0),ORow.reads (B:=0) (lL (f:=opF [opS] fun _=>(none,0)) (n:=1) (aq w 157 #[.int .i64 2,.int .i64 0,.slice none 0 0]) (jb _ _ _) (u6 _) t7) (jb _ _ _),fun i b=>by
  have a:i=0:=by simp at b;omega
  subst a;exact⟨jO _ _,eX⟩⟩
def pwL(k:Nat)(id:Int)(P:List Int):List OpK:=(List.range k).map fun(i:Nat)=>((1,4*id+(i:Int),opL P i):OpK)
theorem gV(k id P):(pwL k id P).length=k:=by simp[pwL]
theorem tI(k id P i)(a:i<k):(pwL k id P).getD i op0=(1,4*id+(i:Int),opL P i):=by simp[pwL,List.getD,a]
theorem tJ(a b):∀n,dy 2 a b n=aK (fun i=>[.int .i64 (a i 0),.int .i64 (a i 1),b i]) n
 |0=>rfl
 |n+1=>by rw[dy,aK,tJ a b n];rfl
theorem POps.rop{B w a k c id P}(j:POps B w a k c id P):OOp B w a c (pwL k id P):=by
 obtain⟨g,N,h,d,l⟩:=j;have f:=fun i b=>by have:=(d.data i b).1;simpa [ob]using this
 refine⟨fun i=>(g i,h i),?_,fun i b=> ?_⟩
 ·have hrow:=d.row;rw[tJ]at hrow;rw[gV];refine ORow.congr hrow (fun i b=> ?_);unfold opF;rw[tI _ _ _ _ b];simp[opX,opI,f i b]
 ·rw[gV]at b;rw[tI _ _ _ _ b];have e:=(d.data i b).mono (u6 B);rw[<-f i b]at e;exact⟨e,d.byte i b⟩
def opJ(xs:List OpK):Nat->Nat->Int:=fun i q=>if q=0 then(xs.getD i op0).1 else(xs.getD i op0).2.1
def opB(xs:List OpK):Nat->List Int:=fun i=>(xs.getD i op0).2.2
def opM(xs:List OpK):Nat->Nat:=fun i=>(xs.getD i op0).2.2.length
theorem ROp.recs{w a c xs}(p:ROp w a c xs):∃n o,RRecs 2 w a xs.length c (opJ xs) n (opM xs) o (opB xs):=by
 obtain⟨m,f,g⟩:=p;refine⟨fun i=>(m i).1,fun i=>(m i).2,f.le,f.le',f.nil,fun l=> ?_,fun i d=>(g i d).1.bs (g i d).2⟩;obtain⟨b,j,e,k,h⟩:=f.at_ l;refine⟨b,j,e,k,fun i d=>⟨fun q r=> ?_,h i 2 d t7⟩⟩;rw[h i q d t7];rcases(show q=0\/q=1 by omega)with rfl|rfl<;>rfl
def nmB(used id:Int):Bool:=decide (id=0\/(2<=id/\id<used))
def iK(gen used:Int):Bool:=decide (1<=gen/\gen<=1000000000000/\2<=used/\used<=1024)
def bG(gen root used free:Int):Bool:=iK gen used&&(nmB used root&&nmB used free)
theorem zD(d b c a id w)(f:(id==0)=true):
 Calls prog 142 #[.agg #[.int .i64 d,.int .i64 b,.int .i64 c,.int .i64 a],.int .i64 id] w fun e w'=>e= .returned (.bool true)/\Below w.1.size w w':=by
 go_enter func142,ntmps142;go_wp2;go_ret;exact⟨rfl,bAl _ _⟩
theorem zE(d c a b id w)(h:(id==0)=false)(f:2<=id)(g:id<a):
 Calls prog 142 #[.agg #[.int .i64 d,.int .i64 c,.int .i64 a,.int .i64 b],.int .i64 id] w fun e w'=>e= .returned (.bool true)/\Below w.1.size w w':=by
 go_enter func142,ntmps142;go_wp2;go_ret;exact⟨rfl,bAl _ _⟩
theorem zF(d b c a id w)(g:(id==0)=false)(f:decide (2<=id)=false):
 Calls prog 142 #[.agg #[.int .i64 d,.int .i64 b,.int .i64 c,.int .i64 a],.int .i64 id] w fun e w'=>e= .returned (.bool false)/\Below w.1.size w w':=by
 go_enter func142,ntmps142;go_wp2;go_ret;exact⟨rfl,bAl _ _⟩
theorem zG(d c a b id w)(h:(id==0)=false)(f:2<=id)(g:decide (id<a)=false):
 Calls prog 142 #[.agg #[.int .i64 d,.int .i64 c,.int .i64 a,.int .i64 b],.int .i64 id] w fun e w'=>e= .returned (.bool false)/\Below w.1.size w w':=by
 go_enter func142,ntmps142;go_wp2;go_ret;exact⟨rfl,bAl _ _⟩
theorem pO(d c a b id w):
 Calls prog 142 #[.agg #[.int .i64 d,.int .i64 c,.int .i64 a,.int .i64 b],.int .i64 id] w fun e w'=>e= .returned (.bool (nmB a id))/\Below w.1.size w w':=by
 by_cases h:id=0
 ·rw[show nmB a id=true from B2 (u5 h)];exact zD d c a b id w (by simpa using h)
 ·by_cases f:2<=id
  ·by_cases g:id<a
   ·rw[show nmB a id=true from B2 (u4 ⟨f,g⟩)];exact zE d c a b id w (by simpa using h) f g
   ·rw[show nmB a id=false from B1 t7];exact zG d c a b id w (by simpa using h) f (by simpa using g)
  ·rw[show nmB a id=false from B1 t7];exact zF d c a b id w (by simpa using h) (by simpa using f)
theorem zH(a c d b w)(f:a<1):
 Calls prog 63 #[.agg #[.int .i64 a,.int .i64 c,.int .i64 d,.int .i64 b]] w fun e w'=>e= .returned (.bool false)/\Below w.1.size w w':=by
 go_enter func63,ntmps63;go_wp2;go_ret;exact⟨rfl,bAl _ _⟩
theorem zJ(a c d b w)(g:¬a<1)(f:1000000000000<a):
 Calls prog 63 #[.agg #[.int .i64 a,.int .i64 c,.int .i64 d,.int .i64 b]] w fun e w'=>e= .returned (.bool false)/\Below w.1.size w w':=by
 go_enter func63,ntmps63;go_wp2;go_ret;exact⟨rfl,bAl _ _⟩
theorem zK(a d b c w)(h:¬a<1)(f:¬1000000000000<a)(g:b<2):
 Calls prog 63 #[.agg #[.int .i64 a,.int .i64 d,.int .i64 b,.int .i64 c]] w fun e w'=>e= .returned (.bool false)/\Below w.1.size w w':=by
 go_enter func63,ntmps63;go_wp2;go_ret;exact⟨rfl,bAl _ _⟩
theorem zL(b d a c w)(i:¬b<1)(f:¬1000000000000<b)(g:¬a<2)(h:1024<a):
 Calls prog 63 #[.agg #[.int .i64 b,.int .i64 d,.int .i64 a,.int .i64 c]] w fun e w'=>e= .returned (.bool false)/\Below w.1.size w w':=by
 go_enter func63,ntmps63;go_wp2;go_ret;exact⟨rfl,bAl _ _⟩
theorem zM(c d a b w)(j:¬c<1)(g:¬1000000000000<c)(h:¬a<2)(i:¬1024<a)(r:(d==0)=true)(f:(b==0)=true):
 Calls prog 63 #[.agg #[.int .i64 c,.int .i64 d,.int .i64 a,.int .i64 b]] w fun e w'=>e= .returned (.bool true)/\Below w.1.size w w':=by
 go_enter func63,ntmps63;go_wp2;go_ret;exact⟨rfl,bAl _ _⟩
theorem zN(c d b a w)(l:¬c<1)(i:¬1000000000000<c)(j:¬b<2)(k:¬1024<b)(r:(d==0)=true)(f:(a==0)=false)(g:2<=a)(h:a<b):
 Calls prog 63 #[.agg #[.int .i64 c,.int .i64 d,.int .i64 b,.int .i64 a]] w fun e w'=>e= .returned (.bool true)/\Below w.1.size w w':=by
 go_enter func63,ntmps63;go_wp2;go_ret;exact⟨rfl,bAl _ _⟩
theorem zO(c d b a w)(k:¬c<1)(h:¬1000000000000<c)(i:¬b<2)(j:¬1024<b)(r:(d==0)=true)(f:(a==0)=false)(g:decide (2<=a)=false):
 Calls prog 63 #[.agg #[.int .i64 c,.int .i64 d,.int .i64 b,.int .i64 a]] w fun e w'=>e= .returned (.bool false)/\Below w.1.size w w':=by
 go_enter func63,ntmps63;go_wp2;go_ret;exact⟨rfl,bAl _ _⟩
theorem zQ(c d b a w)(l:¬c<1)(i:¬1000000000000<c)(j:¬b<2)(k:¬1024<b)(r:(d==0)=true)(f:(a==0)=false)(g:2<=a)(h:decide (a<b)=false):
 Calls prog 63 #[.agg #[.int .i64 c,.int .i64 d,.int .i64 b,.int .i64 a]] w fun e w'=>e= .returned (.bool false)/\Below w.1.size w w':=by
 go_enter func63,ntmps63;go_wp2;go_ret;exact⟨rfl,bAl _ _⟩
theorem zR(d a b c w)(l:¬d<1)(g:¬1000000000000<d)(h:¬b<2)(i:¬1024<b)(r:(a==0)=false)(j:2<=a)(k:a<b)(f:(c==0)=true):
 Calls prog 63 #[.agg #[.int .i64 d,.int .i64 a,.int .i64 b,.int .i64 c]] w fun e w'=>e= .returned (.bool true)/\Below w.1.size w w':=by
 go_enter func63,ntmps63;go_wp2;go_ret;exact⟨rfl,bAl _ _⟩
theorem zS(d c a b w)(n:¬d<1)(i:¬1000000000000<d)(j:¬a<2)(k:¬1024<a)(r:(c==0)=false)(l:2<=c)(m:c<a)(f:(b==0)=false)(g:2<=b)(h:b<a):
 Calls prog 63 #[.agg #[.int .i64 d,.int .i64 c,.int .i64 a,.int .i64 b]] w fun e w'=>e= .returned (.bool true)/\Below w.1.size w w':=by
 go_enter func63,ntmps63;go_wp2;go_ret;exact⟨rfl,bAl _ _⟩
theorem zT(d a b c w)(m:¬d<1)(h:¬1000000000000<d)(i:¬b<2)(j:¬1024<b)(r:(a==0)=false)(k:2<=a)(l:a<b)(f:(c==0)=false)(g:decide (2<=c)=false):
 Calls prog 63 #[.agg #[.int .i64 d,.int .i64 a,.int .i64 b,.int .i64 c]] w fun e w'=>e= .returned (.bool false)/\Below w.1.size w w':=by
 go_enter func63,ntmps63;go_wp2;go_ret;exact⟨rfl,bAl _ _⟩
theorem zU(d c a b w)(n:¬d<1)(i:¬1000000000000<d)(j:¬a<2)(k:¬1024<a)(r:(c==0)=false)(l:2<=c)(m:c<a)(f:(b==0)=false)(g:2<=b)(h:decide (b<a)=false):
 Calls prog 63 #[.agg #[.int .i64 d,.int .i64 c,.int .i64 a,.int .i64 b]] w fun e w'=>e= .returned (.bool false)/\Below w.1.size w w':=by
 go_enter func63,ntmps63;go_wp2;go_ret;exact⟨rfl,bAl _ _⟩
theorem zV(c a b d w)(j:¬c<1)(f:¬1000000000000<c)(g:¬b<2)(h:¬1024<b)(r:(a==0)=false)(i:decide (2<=a)=false):
 Calls prog 63 #[.agg #[.int .i64 c,.int .i64 a,.int .i64 b,.int .i64 d]] w fun e w'=>e= .returned (.bool false)/\Below w.1.size w w':=by
 go_enter func63,ntmps63;go_wp2;go_ret;exact⟨rfl,bAl _ _⟩
theorem zX(c a b d w)(k:¬c<1)(f:¬1000000000000<c)(g:¬b<2)(h:¬1024<b)(r:(a==0)=false)(i:2<=a)(j:decide (a<b)=false):
 Calls prog 63 #[.agg #[.int .i64 c,.int .i64 a,.int .i64 b,.int .i64 d]] w fun e w'=>e= .returned (.bool false)/\Below w.1.size w w':=by
 go_enter func63,ntmps63;go_wp2;go_ret;exact⟨rfl,bAl _ _⟩
theorem mU(d c a b w):
 Calls prog 63 #[.agg #[.int .i64 d,.int .i64 c,.int .i64 a,.int .i64 b]] w fun e w'=>e= .returned (.bool (bG d c a b))/\Below w.1.size w w':=by
 by_cases q:iK d a=true
 ·obtain⟨s,t,u,v⟩:=CC q;have g:¬d<1:=t7;have h:¬1000000000000<d:=t7;have i:¬a<2:=t7;have k:¬1024<a:=t7;unfold bG;rw[q,yv];by_cases r:c=0
  ·rw[show nmB a c=true from B2 (u5 r),yv];have j:(c==0)=true:=by simpa using r
   by_cases f:b=0
   ·rw[show nmB a b=true from B2 (u5 f)];exact zM d c a b w g h i k j (by simpa using f)
   ·by_cases l:2<=b
    ·by_cases m:b<a
     ·rw[show nmB a b=true from B2 (u4 ⟨l,m⟩)];exact zN d c a b w g h i k j (by simpa using f) l m
     ·rw[show nmB a b=false from B1 t7];exact zQ d c a b w g h i k j (by simpa using f) l (by simpa using m)
    ·rw[show nmB a b=false from B1 t7];exact zO d c a b w g h i k j (by simpa using f) (by simpa using l)
  ·have j:(c==0)=false:=by simpa using r
   by_cases n:2<=c
   ·by_cases o:c<a
    ·rw[show nmB a c=true from B2 (u4 ⟨n,o⟩),yv];by_cases f:b=0
     ·rw[show nmB a b=true from B2 (u5 f)];exact zR d c a b w g h i k j n o (by simpa using f)
     ·by_cases l:2<=b
      ·by_cases m:b<a
       ·rw[show nmB a b=true from B2 (u4 ⟨l,m⟩)];exact zS d c a b w g h i k j n o (by simpa using f) l m
       ·rw[show nmB a b=false from B1 t7];exact zU d c a b w g h i k j n o (by simpa using f) l (by simpa using m)
      ·rw[show nmB a b=false from B1 t7];exact zT d c a b w g h i k j n o (by simpa using f) (by simpa using l)
    ·rw[show nmB a c=false from B1 t7,za];exact zX d c a b w g h i k j n (by simpa using o)
   ·rw[show nmB a c=false from B1 t7,za];exact zV d c a b w g h i k j (by simpa using n)
 ·have p:iK d a=false:=by simpa using q
  unfold bG;rw[p,za];have x:=of_decide_eq_false p;by_cases g:d<1
  ·exact zH d c a b w g
  ·by_cases h:1000000000000<d
   ·exact zJ d c a b w g h
   ·by_cases i:a<2
    ·exact zK d c a b w g h i
    ·exact zL d c a b w g h i t7
theorem zY(a c d b w)(f:a<1):
 Calls prog 111 #[.agg #[.int .i64 a,.int .i64 c,.int .i64 d,.int .i64 b]] w fun e w'=>e= .returned (.bool false)/\Below w.1.size w w':=by
 go_enter func111,ntmps111;go_wp2;go_ret;exact⟨rfl,bAl _ _⟩
theorem zZ(a c d b w)(g:¬a<1)(f:1000000000000<a):
 Calls prog 111 #[.agg #[.int .i64 a,.int .i64 c,.int .i64 d,.int .i64 b]] w fun e w'=>e= .returned (.bool false)/\Below w.1.size w w':=by
 go_enter func111,ntmps111;go_wp2;go_ret;exact⟨rfl,bAl _ _⟩
theorem Aa(a d b c w)(h:¬a<1)(f:¬1000000000000<a)(g:b<2):
 Calls prog 111 #[.agg #[.int .i64 a,.int .i64 d,.int .i64 b,.int .i64 c]] w fun e w'=>e= .returned (.bool false)/\Below w.1.size w w':=by
 go_enter func111,ntmps111;go_wp2;go_ret;exact⟨rfl,bAl _ _⟩
theorem Ab(b d a c w)(i:¬b<1)(f:¬1000000000000<b)(g:¬a<2)(h:1024<a):
 Calls prog 111 #[.agg #[.int .i64 b,.int .i64 d,.int .i64 a,.int .i64 c]] w fun e w'=>e= .returned (.bool false)/\Below w.1.size w w':=by
 go_enter func111,ntmps111;go_wp2;go_ret;exact⟨rfl,bAl _ _⟩
theorem Ac(c b a d w)(k:¬c<1)(h:¬1000000000000<c)(i:¬a<2)(j:¬1024<a)(r:nmB a b=false):
 Calls prog 111 #[.agg #[.int .i64 c,.int .i64 b,.int .i64 a,.int .i64 d]] w fun e w'=>e= .returned (.bool false)/\Below w.1.size w w':=by
 have f:Hid (nmB a b=false):=r;clear r;go_enter func111,ntmps111;go_wp2_with fail;refine(pO c b a d b _).mono ?_;rw[f.out];rintro e w1 ⟨rfl,g⟩;have q:=(bAl _ _).trans (g.mono uB);go_wp2;go_ret;exact⟨rfl,q⟩
theorem Ad(d b a c w)(s:¬d<1)(i:¬1000000000000<d)(j:¬a<2)(k:¬1024<a)(r:nmB a b=true):
 Calls prog 111 #[.agg #[.int .i64 d,.int .i64 b,.int .i64 a,.int .i64 c]] w fun e w'=>e= .returned (.bool (nmB a c))/\Below w.1.size w w':=by
 have g:Hid (nmB a b=true):=r;clear r;go_enter func111,ntmps111;go_wp2_with fail;refine(pO d b a c b _).mono ?_;rw[g.out];rintro e w1 ⟨rfl,f⟩;have q:=(bAl _ _).trans (f.mono uB);have k0:w1.cell? ⟨w.1.size,0,none⟩=some (.int .i64 d):=by rw[f.cell (p:=⟨w.1.size,0,none⟩) uB];simp
 have l:w1.cell? ⟨w.1.size,1,none⟩=some (.int .i64 b):=by rw[f.cell (p:=⟨w.1.size,1,none⟩) uB];simp
 have m:w1.cell? ⟨w.1.size,2,none⟩=some (.int .i64 a):=by rw[f.cell (p:=⟨w.1.size,2,none⟩) uB];simp
 have n:w1.cell? ⟨w.1.size,3,none⟩=some (.int .i64 c):=by rw[f.cell (p:=⟨w.1.size,3,none⟩) uB];simp
 clear f;go_wp2_with fail;refine(pO d b a c c _).mono ?_;rintro e o ⟨rfl,h⟩;go_wp2;go_ret;exact⟨rfl,q.trans (h.mono q.size)⟩
theorem pP(c b a d w):
 Calls prog 111 #[.agg #[.int .i64 c,.int .i64 b,.int .i64 a,.int .i64 d]] w fun e w'=>e= .returned (.bool (bG c b a d))/\Below w.1.size w w':=by
 by_cases i:iK c a=true
 ·obtain⟨k,l,m,n⟩:=CC i;unfold bG;rw[i,yv];cases r:nmB a b with
  |true=>
   rw[yv];exact Ad c b a d w t7 t7 t7 t7 r
  |false=>
   rw[za];exact Ac c b a d w t7 t7 t7 t7 r
 ·have g:iK c a=false:=by simpa using i
  unfold bG;rw[g,za];have o:=of_decide_eq_false g;by_cases f:c<1
  ·exact zY c b a d w f
  ·by_cases h:1000000000000<c
   ·exact zZ c b a d w f h
   ·by_cases j:a<2
    ·exact Aa c b a d w f h j
    ·exact Ab c b a d w f h j t7
theorem Ae(a c d b w)(f:0<=a)(g:a<=1000000000000):
 Calls prog 122 #[.agg #[.int .i64 a,.int .i64 c,.int .i64 d,.int .i64 b]] w fun e w'=>e= .returned (.int .i64 (a%2))/\Below w.1.size w w':=by
 go_enter func122,ntmps122;go_wp2;go_ret;exact⟨rfl,bAl _ _⟩
