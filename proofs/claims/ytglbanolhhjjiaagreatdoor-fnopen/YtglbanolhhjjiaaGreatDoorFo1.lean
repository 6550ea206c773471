import Derived.Test.YtglbanolhhjjiaaGreatDoorFo0
namespace Go.Proofs.YtglbanolhhjjiaaGreatDoor
open Go.Proofs.Tryz
open Go.RowKit
set_option linter.unusedVariables false
set_option maxRecDepth 100000
set_option maxHeartbeats 32000000
theorem pH(a b:Nat)(c:a<4294967296)(d:b<4294967296):bits .xor .i64 (a:Int) (b:Int)=((a^^^b:Nat):Int):=by
 have hx:a^^^b<2^32:=Nat.xor_lt_two_pow uA uA;show IntKind.i64.wrap ((BitVec.ofInt 64 (a:Int)^^^BitVec.ofInt 64 (b:Int)).toNat:Int)= _;rw[BitVec.toNat_xor,ofInt_u64 a uA,ofInt_u64 b uA];simp[IntKind.wrap,IntKind.bits,IntKind.signed];omega
def fN(h:Nat):Nat:=if h%2=1 then(h/2)^^^3988292384 else h/2
def ff:Nat->Nat->Nat
 |0,h=>h
 |j+1,h=>fN (ff j h)
def dv(l:List Int):Nat->Nat
 |0=>4294967295
 |k+1=>ff 8 (dv l k^^^(l.getD k 0).toNat)
def crc(l:List Int):Nat:=dv l l.length^^^4294967295
theorem jW{a b}(c:a<4294967296)(d:b<4294967296):a^^^b<4294967296:=Nat.xor_lt_two_pow (n:=32) uA uA
theorem zp{h}(a:h<4294967296):fN h<4294967296:=by
 unfold fN;split
 ·exact jW uA uA
 ·omega
theorem mP{h}(a:h<4294967296):∀j,ff j h<4294967296
 |0=>a
 |j+1=>zp (mP a j)
theorem mQ{l}(a:∀i,0<=l.getD i 0/\l.getD i 0<256):∀k,dv l k<4294967296
 |0=>by unfold dv;omega
 |k+1=>mP (jW (mQ a k) (by have:=a k;omega)) 8
theorem tu{l}(a:∀i,0<=l.getD i 0/\l.getD i 0<256):crc l<4294967296:=jW (mQ a _) uA
theorem tv{h}(a:h%2=1):fN h=(h/2)^^^3988292384:=by unfold fN;rw[B4 a]
theorem tw{h}(a:¬h%2=1):fN h=h/2:=by unfold fN;rw[CH a]
theorem zq(a n d l w)(h:Bs w a n d l)(N:n<=1048576):
 Calls prog 156 #[.slice a n d] w fun e w'=>e= .returned (.int .i64 (crc l))/\w'=w:=by
 go_enter func156,ntmps156;go_wp2
 go_loop [3,4] (fun x i=> ∃k:Nat,k<=n/\i= .int .i64 k/\x= .int .i64 (dv l k:Nat)) (fun _ i=>n-(intOf i).toNat)
 case atStart=>exact⟨0,wa _,rfl,rfl⟩
 case round=>
  obtain⟨k,L,rfl,rfl⟩:=hrel;have o:=mQ h.byte k;have D:Hid (crc l=dv l l.length^^^4294967295):=rfl;have p:Hid (dv l (k+1)=ff 8 (dv l k^^^(l.getD k 0).toNat)):=rfl;have E:Hid (l.length=n):=h.len_eq;by_cases v:k<n
  ·obtain⟨b,J,rfl,H,t⟩:=h.at_ uA;have u:=t k v;have s:=h.byte k;obtain⟨B,g⟩:∃B:Nat,l.getD k 0=(B:Int):=⟨(l.getD k 0).toNat,uA⟩;rw[g]at u s;have q:Hid (dv l (k+1)=ff 8 (dv l k^^^B)):=by have:=p.out;rw[g,Int.toNat_natCast]at this;exact this
   clear p t h g;generalize dv l k=F at*;have z:=pH F B o uA;have G:F^^^B<4294967296:=jW o uA;go_wp2;generalize F^^^B=C at*
   go_loop [3,5] (fun x j=> ∃m:Nat,m<=8/\j= .int .i64 m/\x= .int .i64 (ff m C:Nat)) (fun _ j=>8-(intOf j).toNat)
   case atStart=>exact⟨0,wa _,rfl,rfl⟩
   case round=>
    obtain⟨m,M,rfl,rfl⟩:=hrel;have K:=mP G m;by_cases I:m<8
    ·have r:Hid (ff (m+1) C=fN (ff m C)):=rfl;generalize ff m C=Z at*;have A:bits .xor .i64 ((Z:Int)/2) 3988292384=((Z/2^^^3988292384:Nat):Int):=pH (Z/2) 3988292384 uA uA;by_cases c:Z%2=1
     ·have f:Hid (fN Z=Z/2^^^3988292384):=tv c;have y:((Z:Int)%2==1)=true:=by simp;omega
      clear c;go_wp2
      go_round
      case rel=>exact⟨m+1,uA,by go_num,by rw[r.out,f.out]⟩
      case measure=>simp[intOf];omega
     ·have f:Hid (fN Z=Z/2):=tw c;have y:((Z:Int)%2==1)=false:=by simp;omega
      clear c A;go_wp2
      go_round
      case rel=>exact⟨m+1,uA,by go_num,by rw[r.out,f.out];go_num⟩
      case measure=>simp[intOf];omega
    ·have e:m=8:=uA;subst e;go_wp2
     go_round
     case rel=>exact⟨k+1,uA,by go_num,by rw[q.out]⟩
     case measure=>simp[intOf];omega
  ·have e:k=n:=uA;subst e;have z:bits .xor .i64 (dv l k:Int) 4294967295=((dv l k^^^4294967295:Nat):Int):=pH _ 4294967295 o uA;go_wp2;go_ret;exact⟨by rw[D.out,E.out];rfl,rfl⟩
theorem zt(a n f l w)(h:Bs w a n f l)(N:n<=1048576):
 Calls prog 174 #[.slice a n f] w fun e w'=>e= .returned (.int .i64 (crc l))/\w'=w:=by
 go_enter func174,ntmps174;go_wp2
 go_loop [3,9] (fun x i=> ∃k:Nat,k<=n/\i= .int .i64 k/\x= .int .u32 (dv l k:Nat)) (fun _ i=>n-(intOf i).toNat)
 case atStart=>exact⟨0,wa _,rfl,rfl⟩
 case round=>
  obtain⟨k,L,rfl,rfl⟩:=hrel;have c:=mQ h.byte k;have D:Hid (crc l=dv l l.length^^^4294967295):=rfl;have p:Hid (dv l (k+1)=ff 8 (dv l k^^^(l.getD k 0).toNat)):=rfl;have E:Hid (l.length=n):=h.len_eq;by_cases v:k<n
  ·obtain⟨b,K,rfl,I,t⟩:=h.at_ uA;have u:=t k v;have s:=h.byte k;obtain⟨B,o⟩:∃B:Nat,l.getD k 0=(B:Int):=⟨(l.getD k 0).toNat,uA⟩;rw[o]at u s;have q:Hid (dv l (k+1)=ff 8 (dv l k^^^B)):=by have:=p.out;rw[o,Int.toNat_natCast]at this;exact this
   clear p t h o;generalize dv l k=F at*;have z:=u32_xor_nat F B c uA;have G:F^^^B<4294967296:=jW c uA;go_wp2;generalize F^^^B=C at*
   go_loop [3,17] (fun x j=> ∃m:Nat,m<=8/\j= .int .i64 m/\x= .int .u32 (ff m C:Nat)) (fun _ j=>8-(intOf j).toNat)
   case atStart=>exact⟨0,wa _,rfl,rfl⟩
   case round=>
    obtain⟨m,M,rfl,rfl⟩:=hrel;have H:=mP G m;by_cases J:m<8
    ·have r:Hid (ff (m+1) C=fN (ff m C)):=rfl;generalize ff m C=Z at*;have A:bits .xor .u32 ((Z:Int)/2) 3988292384=((Z/2^^^3988292384:Nat):Int):=u32_xor_nat (Z/2) 3988292384 uA uA;by_cases d:Z%2=1
     ·have g:Hid (fN Z=Z/2^^^3988292384):=tv d;have y:((Z:Int)%2==1)=true:=by simp;omega
      clear d;go_wp2
      go_round
      case rel=>exact⟨m+1,uA,by go_num,by rw[r.out,g.out]⟩
      case measure=>simp[intOf];omega
     ·have g:Hid (fN Z=Z/2):=tw d;have y:((Z:Int)%2==1)=false:=by simp;omega
      clear d A;go_wp2
      go_round
      case rel=>exact⟨m+1,uA,by go_num,by rw[r.out,g.out];go_num⟩
      case measure=>simp[intOf];omega
    ·have e:m=8:=uA;subst e;go_wp2
     go_round
     case rel=>exact⟨k+1,uA,by go_num,by rw[q.out]⟩
     case measure=>simp[intOf];omega
  ·have e:k=n:=uA;subst e;have z:bits .xor .u32 (dv l k:Int) 4294967295=((dv l k^^^4294967295:Nat):Int):=u32_xor_nat _ 4294967295 c uA;have H:dv l k^^^4294967295<4294967296:=jW c uA;go_wp2;go_ret;exact⟨by rw[D.out,E.out];rfl,rfl⟩
theorem zu:num 0 4=[0,0,0,0]:=uB
def fg(id kind:Int)(l:List Int):List Int:=ed id kind l.length++l++List.replicate (240-l.length) 0
def page(id kind:Int)(l:List Int):List Int:=num (crc (fg id kind l)) 4++fg id kind l
def gd(id kind:Int)(l:List Int):List Int:=if bL id kind l.length=true then page id kind l else []
theorem mR(id a n):(ed id a n).length=12:=by simp[ed,ew]
theorem tA{id a n}(h:bL id a n=true):IsB (ed id a n):=by
 obtain⟨b,c,d,e,f⟩:=C3 h;exact dC (dC (dC (ec _ _) (pD uA uA (jP uA uA))) (ec _ _)) (ec _ _)
theorem ja{id a n}(h:bL id a n=true):n<=240:=(C3 h).2.2.2.2
theorem tB{id a l}(h:l.length<=240):(fg id a l).length=252:=by
 simp[fg,mR];omega
theorem pI{id a l}(h:bL id a l.length=true)(b:IsB l):IsB (fg id a l):=
 dC (dC (tA h) b) (lH _)
theorem tC{id a l}(h:l.length<=240):(page id a l).length=256:=by
 simp[page,ew,tB h]
theorem tD{id a l}(h:bL id a l.length=true)(b:IsB l):IsB (page id a l):=
 dC (ec _ _) (pI h b)
theorem zv{id a l}(b:IsB l):IsB (gd id a l):=by
 unfold gd;split
 ·exact tD (by assumption) b
 ·exact eX
def tE:Value->Nat| .slice _ n _=>n|_=>0
theorem tF(id b a n c l w)(h:Bs w a n c l)(g:bL id b n=true):
 Calls prog 127 #[.int .i64 id,.int .i64 b,.slice a n c] w fun e w'=> ∃N T,e= .returned (.tuple #[.slice N 256 T,.bool true])/\Below w.1.size w w'/\Own w.1.size w' N 256 T (page id b l):=by
 obtain⟨bd,bx,bz,bA,bB⟩:=C3 g;have X:=h.len_eq;have L:Hid (bL id b n=true):=g;clear g;have K:Hid (l.length=n):=X;clear X;go_enter func127,ntmps127;go_wp2_with fail;refine(i9 id 4 _ bd uA uA).mono ?_;rintro e w1 ⟨aX,a7,rfl,m,Y⟩;have bk:=m.size;go_wp2_with (at_builtin;refine eu rfl _ _ rfl w.1.size aX 4 a7 (num id 4) rfl ?own _ 2 2 [b,0] rfl ?bs ?len ?B ?_)
 case own=>exact CV Y _
 case bs=>exact ta w1 b 0 uA uA uA uA
 case len=>omega
 case B=>simp;omega
 intro a0 a8 bE ab t _;have C:=(m.alloc m.size _).trans t;clear t m Y bk;go_wp2_with fail;refine(i9 n 2 _ uA uA uA).mono ?_;rintro e bF ⟨a1,a9,rfl,d,ac⟩;have z:=ab.below d;have D:=C.trans (d.mono C.size);have aB:=D.size;have an:=ac.bs (ec _ _);clear ab C d ac;go_wp2_with (at_builtin;refine eu rfl _ _ rfl w.1.size a0 6 a8 (num id 4++[b,0]) rfl ?own a1 2 a9 (num n 2) rfl ?bs ?len ?B ?_)
 case own=>exact z
 case bs=>exact an
 case len=>omega
 case B=>exact aB
 intro a2 ba bf ad u _;have p:=D.trans u;have bl:=p.size;clear u D z an aB;go_wp2_with (at_builtin;refine eu rfl _ _ rfl w.1.size a2 8 ba (num id 4++[b,0]++num n 2) rfl ?own _ 4 4 [0,0,0,0] rfl ?bs ?len ?B ?_)
 case own=>exact CV ad _
 case bs=>exact zc bf
 case len=>omega
 case B=>simp;omega
 intro a3 bb bP ae v _;have q:=(p.alloc p.size _).trans v;have aS:=q.size;have ap:=h.below q;clear v p ad bl;go_wp2_with (at_builtin;refine eu rfl _ _ rfl w.1.size a3 12 bb (num id 4++[b,0]++num n 2++[0,0,0,0]) rfl ?own a n c l rfl ?bs ?len ?B ?_)
 case own=>exact ae
 case bs=>exact ap
 case len=>omega
 case B=>exact aS
 intro P V bg af x _;have a5:=q.trans x;have ag:Own w.1.size bg P (12+n) V (ed id b n++l):=by simpa [ed,zu]using af
 clear x q ae aS ap af;go_wp2_with fail;go_loopw [8] (fun o wr=> ∃j a c,j<=240-n/\o= .slice a (12+n+j) c/\Below w.1.size w wr/\Own w.1.size wr a (12+n+j) c (ed id b n++l++List.replicate j 0)) (fun o _=>252-tE o)
 case atStart=>exact⟨0,P,V,wa _,rfl,a5,by simpa using ag⟩
 case round=>
  obtain⟨j,A,E,bC,rfl,f,i⟩:=hrel;have J:=f.size;by_cases bu:j<240-n
  ·have br:((12:Int)+(n:Int)+(j:Int))<252:=uA;go_wp2_with (at_builtin;refine eu rfl _ _ rfl w.1.size A (12+n+j) E (ed id b n++l++List.replicate j 0) rfl ?own _ 1 1 [0] rfl ?bs ?len ?B ?_)
   case own=>exact CV i _
   case bs=>exact fL wr 0 uA uA
   case len=>omega
   case B=>simp;omega
   intro Q W I H y _;have a6:=(f.alloc f.size _).trans y;have ak:Own w.1.size I Q (12+n+(j+1)) W (ed id b n++l++List.replicate (j+1) 0):=by
    rw[List.replicate_succ'];simp only[wv]at H ⊢;exact H
   clear y f i J H;go_wp2;go_roundw
   case rel=>exact⟨j+1,Q,W,uA,rfl,a6,ak⟩
   case measure=>simp[tE];omega
  ·have e:j=240-n:=uA;subst e;have F:12+n+(240-n)=252:=uA;have M:Hid (fg id b l=ed id b n++l++List.replicate (240-n) 0):=by rw[Hid,fg,K.out]
   have k:Own w.1.size wr A 252 E (fg id b l):=by rw[M.out];rw[F]at i;exact i
   clear i;have G:=pI (by rw[K.out];exact L.out) h.byte;have bn:=tu G;have aT:Hid (page id b l=num (crc (fg id b l)) 4++fg id b l):=rfl;generalize fg id b l=R at*;rw[F];clear F M;go_wp2_with fail;refine(zq _ _ _ R _ (k.bs G) uA).mono ?_;rintro e I ⟨rfl,rfl⟩;go_wp2_with fail;refine(i9 (crc R) 4 _ uA uA uA).mono ?_;rintro e bR ⟨a4,bc,rfl,r,am⟩;have aA:=(k.below r).bs G;have bm:=r.size;go_wp2_with (at_builtin;refine eu rfl _ _ rfl I.1.size a4 4 bc (num (crc R) 4) rfl ?own A 252 E R rfl ?bs ?len ?B ?_)
   case own=>exact am
   case bs=>exact aA
   case len=>omega
   case B=>exact bm
   intro O U bv Z s _;have S:=f.trans ((r.trans s).mono J);clear k r am aA s;go_wp2
   go_ret2
   exact⟨O,U,rfl,S,by rw[aT.out];exact Z.mono J⟩
theorem tG(id b a)(n c:Nat)(w)(q:n<=1048576)(g:bL id b n=false):
 Calls prog 127 #[.int .i64 id,.int .i64 b,.slice a n c] w fun e w'=> ∃i j,e= .returned (.tuple #[.slice i 0 j,.bool false])/\Below w.1.size w w'/\Own w.1.size w' i 0 j []:=by
 have f:=of_decide_eq_false g;clear g;have d:Own w.1.size (w.alloc (.cells #[] 5)) (some ⟨w.1.size,0,none⟩) 0 0 []:=eI w [] 0 rfl uA _ t6;by_cases k:id<0
 ·clear f;go_enter func127,ntmps127;go_wp2
  go_ret2
  exact⟨_,_,rfl,bAl _ _,d⟩
 ·by_cases l:1023<id
  ·clear f;go_enter func127,ntmps127;go_wp2
   go_ret2
   exact⟨_,_,rfl,bAl _ _,d⟩
  ·by_cases m:b<1
   ·clear f;go_enter func127,ntmps127;go_wp2
    go_ret2
    exact⟨_,_,rfl,bAl _ _,d⟩
   ·by_cases o:4<b
    ·clear f;go_enter func127,ntmps127;go_wp2
     go_ret2
     exact⟨_,_,rfl,bAl _ _,d⟩
    ·have p:(240:Int)< (n:Int):=uA;clear f;go_enter func127,ntmps127;go_wp2
     go_ret2
     exact⟨_,_,rfl,bAl _ _,d⟩
theorem pJ{id a l}(h:bL id a l.length=true):gd id a l=page id a l:=by unfold gd;rw[B4 h]
theorem zw{id a l}(h:bL id a l.length=false):gd id a l=[]:=by unfold gd;rw[CH (by simp[h])]
theorem zx(id b a n c l w)(h:Bs w a n c l)(k:n<=1048576):
 Calls prog 127 #[.int .i64 id,.int .i64 b,.slice a n c] w fun e w'=> ∃g i,e= .returned (.tuple #[.slice g (gd id b l).length i,.bool (bL id b n)])/\Below w.1.size w w'/\Own w.1.size w' g (gd id b l).length i (gd id b l):=by
 cases d:bL id b n with
 |true=>
  have f:=pJ (l:=l) (by rw[h.len_eq];exact d);have j:(page id b l).length=256:=tC (by have:=ja d;have:=h.len_eq;omega);rw[f,j];exact tF id b a n c l w h d
 |false=>
  have f:=zw (l:=l) (by rw[h.len_eq];exact d);rw[f];exact tG id b a n c w k d
theorem zy:(prog.info? 157).map (fun i=>(i.zero,i.size,i.bytes))=some (some (.agg #[.int .i64 0,.int .i64 0,.slice none 0 0]),3,40):=vk
theorem zA:∃i e,prog.info? 157=some i/\i.zero=some e/\i.size=2+1/\e.cells.size=2+1/\i.bytes<=64:=by
 obtain⟨i,c,a,b,d⟩:=DB zy;exact⟨i,_,c,a,b,rfl,uA⟩
def opI(id:Int):Nat->Nat->Int:=fun i q=>if q=0 then 1 else 4*id+i
def opL(P:List Int):Nat->List Int:=fun i=>(P.drop (64*i)).take 64
def POps(B:Nat)(w:World)(a:Option Addr)(k c:Nat)(id:Int)(P:List Int):Prop:=
 ∃A N C,ORecs 2 157 B w a k c (opI id) A N C (opL P)/\∀i,i<k->N i=64
theorem ORecs.congr{p e B w a n c k I' g N j L L'}(h:ORecs p e B w a n c k g N j L)(f:∀i,i<n->∀q,q<p->k i q=I' i q)(d:∀i,i<n->L i=L' i):ORecs p e B w a n c I' g N j L':=
 ⟨by rw[<-lM p n (fun i b=>⟨f i b,rfl⟩)];exact h.row,fun i b=>by rw[<-d i b];exact h.data i b,fun i b=>by rw[<-d i b];exact h.byte i b,h.sep1⟩
theorem POps.step{B w a k c id P n N o d f m}(j:∀i,i<k->N i=64)(h:ORecs 2 157 B w a (k+1) c (upd (opI id) k m) (upd n k d) (upd N k 64) (upd o k f) (upd (opL P) k (opL P k)))(g:∀q,q<2->m q=opI id k q):POps B w a (k+1) c id P:=by
 refine⟨_,_,_,h.congr (fun i b q l=> ?_) (fun i b=> ?_),fun i b=> ?_⟩
 ·by_cases e:i=k
  ·subst e;rw[be];exact g q l
  ·rw[bw _ _ _ e]
 ·by_cases e:i=k
  ·subst e;rw[be]
  ·rw[bw _ _ _ e]
 ·by_cases e:i=k
  ·subst e;rw[be]
  ·rw[bw _ _ _ e];exact j i uA
theorem zB{P}(h:IsB P)(i):IsB (opL P i):=gR (fun j=>by have:=h (64*i+j);simpa [List.getD]using this) 64
theorem pK(id b a n c l w)(h:Bs w a n c l)(d:bL id b n=true):
 Calls prog 93 #[.int .i64 id,.int .i64 b,.slice a n c] w fun e w'=> ∃A D,e= .returned (.tuple #[.slice A 4 D,.bool true])/\Below w.1.size w w'/\POps w.1.size w' A 4 D id (page id b l):=by
 have ab:0<=id/\id<=1023:=⟨(C3 d).1,(C3 d).2.1⟩;have F:(page id b l).length=256:=tC (by have:=ja d;have:=h.len_eq;omega);have f:=tD (by rw[h.len_eq];exact d) h.byte;have y:Hid (bL id b n=true):=d;clear d F;go_enter func93,ntmps93;go_wp2_with fail;have v:=(B2 w.1.size w).alloc t6 (.cells #[] 157);refine(tF id b a n c l _ (h.below v) y.out).mono ?_;rintro e w1 ⟨ad,s,rfl,r,m⟩;generalize q:page id b l=P at*;have z:Hid (page id b l=P):=q;clear q;have V:=(io 2 157 w.1.size w t6 (opI id) (fun _=>none) (fun _=>0) (fun _=>0) (opL P)).below r;have Q:=v.trans (r.mono v.size);obtain⟨g,rfl,ae⟩:=mM m uA;have Y:=(m.bs f).le;have Z:=(m.bs f).le';have G:=m.mono (B':=w.1.size) vo;clear m r;go_wp2_with fail;go_loopw [8,11] (fun o i wr=> ∃k a c,k<=4/\i= .int .i64 (k:Nat)/\o= .slice a k c/\Below w.1.size w wr/\Own w.1.size wr (some ⟨g,0,none⟩) 256 s P/\POps w.1.size wr a k c id P) (fun _ i _=>4-(intOf i).toNat)
 case atStart=>exact⟨0,_,_,wa _,rfl,rfl,Q,G,_,_,_,V,fun i T=>absurd T uA⟩
 case round=>
  obtain⟨k,B,E,af,rfl,rfl,j,t,W,N,X,x,u⟩:=hrel;by_cases ac:k<4
  ·have J:Bs wr (some ⟨g,64*k,none⟩) 64 (s-64*k) (opL P k):=by
    have:=(t.bs f).piece (64*k) 64 uA (s-64*k) uA uA;rw[wE]at this;exact this
   go_wp2_with fail;refine(jV _ 64 _ _ _ J uA).mono ?_;rintro e ag ⟨K,M,rfl,p,H⟩;go_wp2_with (at_builtin;refine zk rfl _ _ _ rfl 2 157 w.1.size underlying89 zA uB B k E (opI id) W N X (opL P) rfl x p (opI id k) K 64 M (opL P k) H (zB f k) j.size _ rfl rfl uA ?_);intro L O ak I C ge;have R:=(j.trans (p.mono j.size)).trans C;have S:=ge (t.below p);have U:=POps.step u I (fun _ _=>rfl);clear I C p H J x u j t ge;go_wp2;go_roundw
   case rel=>exact⟨k+1,L,O,uA,by go_num,rfl,R,S,U⟩
   case measure=>simp[intOf];omega
  ·have e:k=4:=uA;subst e;go_wp2
   go_ret2
   exact⟨B,E,rfl,j,by rw[z.out];exact⟨W,N,X,x,u⟩⟩
theorem tH(id b a)(n c:Nat)(w)(p:n<=1048576)(d:bL id b n=false)(P):
 Calls prog 93 #[.int .i64 id,.int .i64 b,.slice a n c] w fun e w'=> ∃k l,e= .returned (.tuple #[.slice k 0 l,.bool false])/\Below w.1.size w w'/\POps w.1.size w' k 0 l id P:=by
 have j:Hid (bL id b n=false):=d;clear d;go_enter func93,ntmps93;go_wp2_with fail;have g:=(B2 w.1.size w).alloc t6 (.cells #[] 157);refine(tG id b a n c _ p j.out).mono ?_;rintro e w1 ⟨s,t,rfl,f,q⟩;have r:=(io 2 157 w.1.size w t6 (opI id) (fun _=>none) (fun _=>0) (fun _=>0) (opL P)).below f;have m:=g.trans (f.mono g.size);clear f q g;go_wp2
 go_ret2
 exact⟨_,_,rfl,m,_,_,_,r,fun i o=>absurd o uA⟩
structure KeepT(t:Nat)(w w':World):Prop where
 size:w.1.size<=w'.1.size
 block:∀(k:Nat)(cs:Array Value)(fr:Nat×Nat),w.heap[k]?=some (.cells cs t fr)->w'.heap[k]?=some (.cells cs t fr)
theorem KeepT.refl(t w):KeepT t w w:=⟨t6,fun _ _ _ h=>h⟩
theorem KeepT.trans{t a b c}(h:KeepT t a b)(k:KeepT t b c):KeepT t a c:=⟨wg h.size k.size,fun i cs fr d=>k.block i cs fr (h.block i cs fr d)⟩
theorem aV{t w w'}(h:Below w.1.size w w'):KeepT t w w':=⟨h.size,fun k cs fr a=>by rw[h.block k (wy.1 a).1];exact a⟩
theorem bD{t e s B w w' v n xs}(j:w.ownsRow B e s v n xs)(d:w.grownBy w' v.ownBlock)(i:e≠t):KeepT t w w':=
 ⟨d.size,fun k cs fr c=>by
  rw[d.block k (wy.1 c).1 (fun a=> ?_)]
  ·exact c
  ·rcases j.2 with⟨b,_⟩|⟨g,l,m,b,_,f,_⟩
   ·subst b;simp[Value.ownBlock]at a
   ·subst b;simp[Value.ownBlock]at a;subst a;rw[c]at f;cases f;exact i rfl⟩
theorem cw{t s B w w' v n xs}(h:w.ownsRow B t s v n xs)(a:KeepT t w w'):w'.ownsRow B t s v n xs:=by
 refine⟨h.1,?_⟩;rcases h.2 with h2|⟨k,cap,cur,hv,hg,hh,r⟩
 ·exact v7 h2
 ·exact v6 ⟨k,cap,cur,hv,hg,a.block k _ _ hh,r⟩
theorem Blk.keepT{w w' t g xs}(h:Blk w t g xs)(a:KeepT t w w'):Blk w' t g xs:=a.block g _ _ h
theorem aw{t e g w w' xs}(h:OnlyB g w w')(d:Blk w e g xs)(c:e≠t):KeepT t w w':=
 ⟨h.size,fun k cs fr a=>by
  by_cases b:k=g
  ·subst b;rw[d]at a;cases a;exact absurd rfl c
  ·exact(h.block k (wy.1 a).1 b).trans a⟩
theorem cx{t e g:Nat}{w w' b fr}(h:OnlyB g w w')(f:w.heap[g]?=some (.cells b e fr))(d:e≠t):KeepT t w w':=
 ⟨h.size,fun k cs i a=>by
  by_cases c:k=g
  ·subst c;rw[f]at a;cases a;exact absurd rfl d
  ·exact(h.block k (wy.1 a).1 c).trans a⟩
abbrev OpK:=Int×Int×List Int
abbrev OpV:=Option Addr×Nat
def op0:OpK:=(0,0,[])
def opX(x:OpK)(v:OpV):List Value:=[.int .i64 x.1,.int .i64 x.2.1,.slice v.1 x.2.2.length v.2]
def opF(xs:List OpK)(V:Nat->OpV):Nat->List Value:=fun i=>opX (xs.getD i op0) (V i)
theorem zC(x v):∀u∈opX x v,u.oneCell'=true:=by simp[opX,Value.oneCell']
theorem jb(xs a n):IsRow 3 (opF xs a) n:=⟨fun _ _=>rfl,fun i _=>zC _ _⟩
theorem pL:ElT 89 157 3 (.agg #[.int .i64 0,.int .i64 0,.slice none 0 0]) 40:=⟨underlying89,vk,by rw[Value.cells];rfl,uA⟩
def OpD(w:World)(xs:List OpK)(V:Nat->OpV):Prop:= ∀i,i<xs.length->Own 0 w (V i).1 (xs.getD i op0).2.2.length (V i).2 (xs.getD i op0).2.2/\IsB (xs.getD i op0).2.2
theorem OpD.keep{w w' xs c}(h:OpD w xs c)(b:KeepT 5 w w'):OpD w' xs c:=fun i a=>⟨cw (h i a).1 b,(h i a).2⟩
def ROp(w:World)(a:Option Addr)(c:Nat)(xs:List OpK):Prop:= ∃V,RRow w 3 a xs.length c (opF xs V)/\OpD w xs V
def OOp(B:Nat)(w:World)(a:Option Addr)(c:Nat)(xs:List OpK):Prop:= ∃V,ORow 157 3 B w a xs.length c (opF xs V)/\OpD w xs V
theorem OOp.reads{B w a c xs}(h:OOp B w a c xs):ROp w a c xs:=by
 obtain⟨e,b,d⟩:=h;exact⟨e,ORow.reads b (jb _ _ _),d⟩
theorem OOp.keep{B w w' a c xs}(h:OOp B w a c xs)(b:KeepT 157 w w')(d:KeepT 5 w w'):OOp B w' a c xs:=by
 obtain⟨g,e,f⟩:=h;exact⟨g,cw e b,f.keep d⟩
theorem OOp.below{B w w' a c xs}(h:OOp B w a c xs)(b:Below w.1.size w w'):OOp B w' a c xs:=h.keep (aV b) (aV b)
theorem OOp.mono{B B' w a c xs}(h:OOp B w a c xs)(b:B'<=B):OOp B' w a c xs:=by
 obtain⟨f,d,e⟩:=h;exact⟨f,ORow.mono d b,e⟩
theorem ROp.below{w w' a c xs}(h:ROp w a c xs)(b:Below w.1.size w w'):ROp w' a c xs:=by
 obtain⟨f,d,e⟩:=h;exact⟨f,d.below b,e.keep (aV b)⟩
theorem mS(B)(w:World)(a:B<=w.1.size):OOp B (w.alloc (.cells #[] 157)) (some ⟨w.1.size,0,none⟩) 0 []:=⟨fun _=>(none,0),td _ 3 B w a _,fun i b=>by simp at b⟩
theorem jc{w}{o:Oper}{g q F so xo B a b c d xs f}(n:OOp B w a c xs)(C:ROp w b d f)(z:xs.length+f.length<=1048576)(r:B<=w.1.size)(A:o.op= .call {callee:= .builtin .append,args:=#[so,xo],argTypes:=#[89,89]})(D:g.eval so= .slice a xs.length c)(hx:g.eval xo= .slice b f.length d)(x:∀j l w',OOp B w' j l (xs++f)->w.grownBy w' (Value.slice a xs.length c).ownBlock->Below B w w'->q (g.put o.dst (.slice j (xs.length+f.length) l)) w'):o.wp prog g w q F:=by
 obtain⟨G,m,t⟩:=n;obtain⟨U,u,v⟩:=C;refine zf so xo pL A B a xs.length c _ D m b f.length d _ hx u z uA r (fun j l w' E p=>x j l w' ⟨fun i=>if i<xs.length then G i else U (i-xs.length),?_,fun i s=> ?_⟩ p (t7.grown p r (fun k y=>(Ct m k y).1)))
 ·rw[wb];refine ORow.congr E (fun i s=> ?_);unfold i7 opF;by_cases h:i<xs.length
  ·rw[B4 h];simp[List.getD,List.getElem?_append_left h,h]
  ·rw[CH h];simp[List.getD,List.getElem?_append_right (Nat.not_lt.1 h),h]
 ·have kU:KeepT 5 w w':=bD m p uB;by_cases h:i<xs.length
  ·have e:(xs++f).getD i op0=xs.getD i op0:=by simp[List.getD,List.getElem?_append_left h]
   simp only[e,B4 h];exact t.keep kU i h
  ·have e:(xs++f).getD i op0=f.getD (i-xs.length) op0:=by simp[List.getD,List.getElem?_append_right (Nat.not_lt.1 h)]
   rw[wb]at s;simp only[e,CH h];exact v.keep kU (i-xs.length) uA
theorem mT{w j rest o e y so xo B a b c d xs f}(k:OOp B w a c xs)(v:ROp w b d f)(t:xs.length+f.length<=1048576)(q:B<=w.1.size)(l:o.guard=none)(u:o.op= .call {callee:= .builtin .append,args:=#[so,xo],argTypes:=#[89,89]})(x:e.eval so= .slice a xs.length c)(hx:e.eval xo= .slice b f.length d)(s:∀g i w',OOp B w' g i (xs++f)->w.grownBy w' (Value.slice a xs.length c).ownBlock->Below B w w'->wpList prog j y rest (e.put o.dst (.slice g (xs.length+f.length) i)) w'):wpList prog j y (o::rest) e w:=
 DR l fun _ r=>jc k v t q u x hx fun g i w' m n p=>r _ _ (s g i w' m n p)
def opS:OpK:=(2,0,[])
theorem pM(w:World):ROp (w.alloc (.cells #[.int .i64 2,.int .i64 0,.slice none 0 0] 157)) (some ⟨w.1.size,0,none⟩) 1 [opS]:=
 ⟨fun _=>(none,0),ORow.reads (B:=0) (lL (f:=opF [opS] fun _=>(none,0)) (n:=1) (aq w 157 #[.int .i64 2,.int .i64 0,.slice none 0 0]) (jb _ _ _) (wa _) uA) (jb _ _ _),fun i b=>by
  have a:i=0:=by simp at b;omega
  subst a;exact⟨jO _ _,eX⟩⟩
def pwL(k:Nat)(id:Int)(P:List Int):List OpK:=(List.range k).map fun(i:Nat)=>((1,4*id+(i:Int),opL P i):OpK)
theorem gV(k id P):(pwL k id P).length=k:=by simp[pwL]
theorem tI(k id P i)(h:i<k):(pwL k id P).getD i op0=(1,4*id+(i:Int),opL P i):=by simp[pwL,List.getD,h]
theorem tJ(a b):∀n,dy 2 a b n=aK (fun i=>[.int .i64 (a i 0),.int .i64 (a i 1),b i]) n
 |0=>rfl
 |n+1=>by rw[dy,aK,tJ a b n];rfl
theorem POps.rop{B w a k c id P}(h:POps B w a k c id P):OOp B w a c (pwL k id P):=by
 obtain⟨g,N,j,d,l⟩:=h;have f:=fun i b=>by have:=(d.data i b).1;simpa [ob]using this
 refine⟨fun i=>(g i,j i),?_,fun i b=> ?_⟩
 ·have hrow:=d.row;rw[tJ]at hrow;rw[gV];refine ORow.congr hrow (fun i b=> ?_);unfold opF;rw[tI _ _ _ _ b];simp[opX,opI,f i b]
 ·rw[gV]at b;rw[tI _ _ _ _ b];have e:=(d.data i b).mono (wa B);rw[<-f i b]at e;exact⟨e,d.byte i b⟩
def opJ(xs:List OpK):Nat->Nat->Int:=fun i q=>if q=0 then(xs.getD i op0).1 else(xs.getD i op0).2.1
def opB(xs:List OpK):Nat->List Int:=fun i=>(xs.getD i op0).2.2
def opM(xs:List OpK):Nat->Nat:=fun i=>(xs.getD i op0).2.2.length
theorem ROp.recs{w a c xs}(h:ROp w a c xs):∃o p,RRecs 2 w a xs.length c (opJ xs) o (opM xs) p (opB xs):=by
 obtain⟨n,f,g⟩:=h;refine⟨fun i=>(n i).1,fun i=>(n i).2,f.le,f.le',f.nil,fun m=> ?_,fun i d=>(g i d).1.bs (g i d).2⟩;obtain⟨b,k,e,l,j⟩:=f.at_ m;refine⟨b,k,e,l,fun i d=>⟨fun q r=> ?_,j i 2 d uA⟩⟩;rw[j i q d uA];rcases(show q=0\/q=1 by omega)with rfl|rfl<;>rfl
def nmB(used id:Int):Bool:=decide (id=0\/(2<=id/\id<used))
def iK(gen used:Int):Bool:=decide (1<=gen/\gen<=1000000000000/\2<=used/\used<=1024)
def bG(gen root used free:Int):Bool:=iK gen used&&(nmB used root&&nmB used free)
theorem zD(d b c a id w)(h:(id==0)=true):
 Calls prog 142 #[.agg #[.int .i64 d,.int .i64 b,.int .i64 c,.int .i64 a],.int .i64 id] w fun e w'=>e= .returned (.bool true)/\Below w.1.size w w':=by
 go_enter func142,ntmps142;go_wp2;go_ret;exact⟨rfl,bAl _ _⟩
theorem zE(d c a b id w)(h:(id==0)=false)(f:2<=id)(g:id<a):
 Calls prog 142 #[.agg #[.int .i64 d,.int .i64 c,.int .i64 a,.int .i64 b],.int .i64 id] w fun e w'=>e= .returned (.bool true)/\Below w.1.size w w':=by
 go_enter func142,ntmps142;go_wp2;go_ret;exact⟨rfl,bAl _ _⟩
theorem zF(d b c a id w)(h:(id==0)=false)(f:decide (2<=id)=false):
 Calls prog 142 #[.agg #[.int .i64 d,.int .i64 b,.int .i64 c,.int .i64 a],.int .i64 id] w fun e w'=>e= .returned (.bool false)/\Below w.1.size w w':=by
 go_enter func142,ntmps142;go_wp2;go_ret;exact⟨rfl,bAl _ _⟩
theorem zG(d c a b id w)(h:(id==0)=false)(f:2<=id)(g:decide (id<a)=false):
 Calls prog 142 #[.agg #[.int .i64 d,.int .i64 c,.int .i64 a,.int .i64 b],.int .i64 id] w fun e w'=>e= .returned (.bool false)/\Below w.1.size w w':=by
 go_enter func142,ntmps142;go_wp2;go_ret;exact⟨rfl,bAl _ _⟩
theorem pO(d c a b id w):
 Calls prog 142 #[.agg #[.int .i64 d,.int .i64 c,.int .i64 a,.int .i64 b],.int .i64 id] w fun e w'=>e= .returned (.bool (nmB a id))/\Below w.1.size w w':=by
 by_cases h:id=0
 ·rw[show nmB a id=true from CR (v7 h)];exact zD d c a b id w (by simpa using h)
 ·by_cases f:2<=id
  ·by_cases g:id<a
   ·rw[show nmB a id=true from CR (v6 ⟨f,g⟩)];exact zE d c a b id w (by simpa using h) f g
   ·rw[show nmB a id=false from CP uA];exact zG d c a b id w (by simpa using h) f (by simpa using g)
  ·rw[show nmB a id=false from CP uA];exact zF d c a b id w (by simpa using h) (by simpa using f)
theorem zH(a c d b w)(h:a<1):
 Calls prog 63 #[.agg #[.int .i64 a,.int .i64 c,.int .i64 d,.int .i64 b]] w fun e w'=>e= .returned (.bool false)/\Below w.1.size w w':=by
 go_enter func63,ntmps63;go_wp2;go_ret;exact⟨rfl,bAl _ _⟩
theorem zJ(a c d b w)(h:¬a<1)(f:1000000000000<a):
 Calls prog 63 #[.agg #[.int .i64 a,.int .i64 c,.int .i64 d,.int .i64 b]] w fun e w'=>e= .returned (.bool false)/\Below w.1.size w w':=by
 go_enter func63,ntmps63;go_wp2;go_ret;exact⟨rfl,bAl _ _⟩
theorem zK(a d b c w)(h:¬a<1)(f:¬1000000000000<a)(g:b<2):
 Calls prog 63 #[.agg #[.int .i64 a,.int .i64 d,.int .i64 b,.int .i64 c]] w fun e w'=>e= .returned (.bool false)/\Below w.1.size w w':=by
 go_enter func63,ntmps63;go_wp2;go_ret;exact⟨rfl,bAl _ _⟩
theorem zL(b d a c w)(h:¬b<1)(f:¬1000000000000<b)(g:¬a<2)(i:1024<a):
 Calls prog 63 #[.agg #[.int .i64 b,.int .i64 d,.int .i64 a,.int .i64 c]] w fun e w'=>e= .returned (.bool false)/\Below w.1.size w w':=by
 go_enter func63,ntmps63;go_wp2;go_ret;exact⟨rfl,bAl _ _⟩
theorem zM(c d a b w)(h:¬c<1)(g:¬1000000000000<c)(i:¬a<2)(j:¬1024<a)(r:(d==0)=true)(f:(b==0)=true):
 Calls prog 63 #[.agg #[.int .i64 c,.int .i64 d,.int .i64 a,.int .i64 b]] w fun e w'=>e= .returned (.bool true)/\Below w.1.size w w':=by
 go_enter func63,ntmps63;go_wp2;go_ret;exact⟨rfl,bAl _ _⟩
theorem zN(c d b a w)(h:¬c<1)(j:¬1000000000000<c)(k:¬b<2)(l:¬1024<b)(r:(d==0)=true)(f:(a==0)=false)(g:2<=a)(i:a<b):
 Calls prog 63 #[.agg #[.int .i64 c,.int .i64 d,.int .i64 b,.int .i64 a]] w fun e w'=>e= .returned (.bool true)/\Below w.1.size w w':=by
 go_enter func63,ntmps63;go_wp2;go_ret;exact⟨rfl,bAl _ _⟩
theorem zO(c d b a w)(h:¬c<1)(i:¬1000000000000<c)(j:¬b<2)(k:¬1024<b)(r:(d==0)=true)(f:(a==0)=false)(g:decide (2<=a)=false):
 Calls prog 63 #[.agg #[.int .i64 c,.int .i64 d,.int .i64 b,.int .i64 a]] w fun e w'=>e= .returned (.bool false)/\Below w.1.size w w':=by
 go_enter func63,ntmps63;go_wp2;go_ret;exact⟨rfl,bAl _ _⟩
theorem zQ(c d b a w)(h:¬c<1)(j:¬1000000000000<c)(k:¬b<2)(l:¬1024<b)(r:(d==0)=true)(f:(a==0)=false)(g:2<=a)(i:decide (a<b)=false):
 Calls prog 63 #[.agg #[.int .i64 c,.int .i64 d,.int .i64 b,.int .i64 a]] w fun e w'=>e= .returned (.bool false)/\Below w.1.size w w':=by
 go_enter func63,ntmps63;go_wp2;go_ret;exact⟨rfl,bAl _ _⟩
theorem zR(d a b c w)(h:¬d<1)(g:¬1000000000000<d)(i:¬b<2)(j:¬1024<b)(r:(a==0)=false)(k:2<=a)(l:a<b)(f:(c==0)=true):
 Calls prog 63 #[.agg #[.int .i64 d,.int .i64 a,.int .i64 b,.int .i64 c]] w fun e w'=>e= .returned (.bool true)/\Below w.1.size w w':=by
 go_enter func63,ntmps63;go_wp2;go_ret;exact⟨rfl,bAl _ _⟩
theorem zS(d c a b w)(h:¬d<1)(j:¬1000000000000<d)(k:¬a<2)(l:¬1024<a)(r:(c==0)=false)(m:2<=c)(n:c<a)(f:(b==0)=false)(g:2<=b)(i:b<a):
 Calls prog 63 #[.agg #[.int .i64 d,.int .i64 c,.int .i64 a,.int .i64 b]] w fun e w'=>e= .returned (.bool true)/\Below w.1.size w w':=by
 go_enter func63,ntmps63;go_wp2;go_ret;exact⟨rfl,bAl _ _⟩
theorem zT(d a b c w)(h:¬d<1)(i:¬1000000000000<d)(j:¬b<2)(k:¬1024<b)(r:(a==0)=false)(l:2<=a)(m:a<b)(f:(c==0)=false)(g:decide (2<=c)=false):
 Calls prog 63 #[.agg #[.int .i64 d,.int .i64 a,.int .i64 b,.int .i64 c]] w fun e w'=>e= .returned (.bool false)/\Below w.1.size w w':=by
 go_enter func63,ntmps63;go_wp2;go_ret;exact⟨rfl,bAl _ _⟩
theorem zU(d c a b w)(h:¬d<1)(j:¬1000000000000<d)(k:¬a<2)(l:¬1024<a)(r:(c==0)=false)(m:2<=c)(n:c<a)(f:(b==0)=false)(g:2<=b)(i:decide (b<a)=false):
 Calls prog 63 #[.agg #[.int .i64 d,.int .i64 c,.int .i64 a,.int .i64 b]] w fun e w'=>e= .returned (.bool false)/\Below w.1.size w w':=by
 go_enter func63,ntmps63;go_wp2;go_ret;exact⟨rfl,bAl _ _⟩
theorem zV(c a b d w)(h:¬c<1)(f:¬1000000000000<c)(g:¬b<2)(i:¬1024<b)(r:(a==0)=false)(j:decide (2<=a)=false):
 Calls prog 63 #[.agg #[.int .i64 c,.int .i64 a,.int .i64 b,.int .i64 d]] w fun e w'=>e= .returned (.bool false)/\Below w.1.size w w':=by
 go_enter func63,ntmps63;go_wp2;go_ret;exact⟨rfl,bAl _ _⟩
theorem zX(c a b d w)(h:¬c<1)(f:¬1000000000000<c)(g:¬b<2)(i:¬1024<b)(r:(a==0)=false)(j:2<=a)(k:decide (a<b)=false):
 Calls prog 63 #[.agg #[.int .i64 c,.int .i64 a,.int .i64 b,.int .i64 d]] w fun e w'=>e= .returned (.bool false)/\Below w.1.size w w':=by
 go_enter func63,ntmps63;go_wp2;go_ret;exact⟨rfl,bAl _ _⟩
theorem mU(d c a b w):
 Calls prog 63 #[.agg #[.int .i64 d,.int .i64 c,.int .i64 a,.int .i64 b]] w fun e w'=>e= .returned (.bool (bG d c a b))/\Below w.1.size w w':=by
 by_cases s:iK d a=true
 ·obtain⟨t,u,v,x⟩:=C3 s;have g:¬d<1:=uA;have i:¬1000000000000<d:=uA;have j:¬a<2:=uA;have l:¬1024<a:=uA;unfold bG;rw[s,zd];by_cases r:c=0
  ·rw[show nmB a c=true from CR (v7 r),zd];have k:(c==0)=true:=by simpa using r
   by_cases f:b=0
   ·rw[show nmB a b=true from CR (v7 f)];exact zM d c a b w g i j l k (by simpa using f)
   ·by_cases m:2<=b
    ·by_cases n:b<a
     ·rw[show nmB a b=true from CR (v6 ⟨m,n⟩)];exact zN d c a b w g i j l k (by simpa using f) m n
     ·rw[show nmB a b=false from CP uA];exact zQ d c a b w g i j l k (by simpa using f) m (by simpa using n)
    ·rw[show nmB a b=false from CP uA];exact zO d c a b w g i j l k (by simpa using f) (by simpa using m)
  ·have k:(c==0)=false:=by simpa using r
   by_cases o:2<=c
   ·by_cases p:c<a
    ·rw[show nmB a c=true from CR (v6 ⟨o,p⟩),zd];by_cases f:b=0
     ·rw[show nmB a b=true from CR (v7 f)];exact zR d c a b w g i j l k o p (by simpa using f)
     ·by_cases m:2<=b
      ·by_cases n:b<a
       ·rw[show nmB a b=true from CR (v6 ⟨m,n⟩)];exact zS d c a b w g i j l k o p (by simpa using f) m n
       ·rw[show nmB a b=false from CP uA];exact zU d c a b w g i j l k o p (by simpa using f) m (by simpa using n)
      ·rw[show nmB a b=false from CP uA];exact zT d c a b w g i j l k o p (by simpa using f) (by simpa using m)
    ·rw[show nmB a c=false from CP uA,z6];exact zX d c a b w g i j l k o (by simpa using p)
   ·rw[show nmB a c=false from CP uA,z6];exact zV d c a b w g i j l k (by simpa using o)
 ·have q:iK d a=false:=by simpa using s
  unfold bG;rw[q,z6];have y:=of_decide_eq_false q;by_cases g:d<1
  ·exact zH d c a b w g
  ·by_cases i:1000000000000<d
   ·exact zJ d c a b w g i
   ·by_cases j:a<2
    ·exact zK d c a b w g i j
    ·exact zL d c a b w g i j uA
theorem zY(a c d b w)(h:a<1):
 Calls prog 111 #[.agg #[.int .i64 a,.int .i64 c,.int .i64 d,.int .i64 b]] w fun e w'=>e= .returned (.bool false)/\Below w.1.size w w':=by
 go_enter func111,ntmps111;go_wp2;go_ret;exact⟨rfl,bAl _ _⟩
theorem zZ(a c d b w)(h:¬a<1)(f:1000000000000<a):
 Calls prog 111 #[.agg #[.int .i64 a,.int .i64 c,.int .i64 d,.int .i64 b]] w fun e w'=>e= .returned (.bool false)/\Below w.1.size w w':=by
 go_enter func111,ntmps111;go_wp2;go_ret;exact⟨rfl,bAl _ _⟩
theorem Aa(a d b c w)(h:¬a<1)(f:¬1000000000000<a)(g:b<2):
 Calls prog 111 #[.agg #[.int .i64 a,.int .i64 d,.int .i64 b,.int .i64 c]] w fun e w'=>e= .returned (.bool false)/\Below w.1.size w w':=by
 go_enter func111,ntmps111;go_wp2;go_ret;exact⟨rfl,bAl _ _⟩
theorem Ab(b d a c w)(h:¬b<1)(f:¬1000000000000<b)(g:¬a<2)(i:1024<a):
 Calls prog 111 #[.agg #[.int .i64 b,.int .i64 d,.int .i64 a,.int .i64 c]] w fun e w'=>e= .returned (.bool false)/\Below w.1.size w w':=by
 go_enter func111,ntmps111;go_wp2;go_ret;exact⟨rfl,bAl _ _⟩
theorem Ac(c b a d w)(h:¬c<1)(i:¬1000000000000<c)(j:¬a<2)(k:¬1024<a)(r:nmB a b=false):
 Calls prog 111 #[.agg #[.int .i64 c,.int .i64 b,.int .i64 a,.int .i64 d]] w fun e w'=>e= .returned (.bool false)/\Below w.1.size w w':=by
 have f:Hid (nmB a b=false):=r;clear r;go_enter func111,ntmps111;go_wp2_with fail;refine(pO c b a d b _).mono ?_;rw[f.out];rintro e w1 ⟨rfl,g⟩;have q:=(bAl _ _).trans (g.mono vo);go_wp2;go_ret;exact⟨rfl,q⟩
theorem Ad(d b a c w)(h:¬d<1)(j:¬1000000000000<d)(k:¬a<2)(l:¬1024<a)(r:nmB a b=true):
 Calls prog 111 #[.agg #[.int .i64 d,.int .i64 b,.int .i64 a,.int .i64 c]] w fun e w'=>e= .returned (.bool (nmB a c))/\Below w.1.size w w':=by
 have g:Hid (nmB a b=true):=r;clear r;go_enter func111,ntmps111;go_wp2_with fail;refine(pO d b a c b _).mono ?_;rw[g.out];rintro e w1 ⟨rfl,f⟩;have q:=(bAl _ _).trans (f.mono vo);have k0:w1.cell? ⟨w.1.size,0,none⟩=some (.int .i64 d):=by rw[f.cell (p:=⟨w.1.size,0,none⟩) vo];simp
 have m:w1.cell? ⟨w.1.size,1,none⟩=some (.int .i64 b):=by rw[f.cell (p:=⟨w.1.size,1,none⟩) vo];simp
 have n:w1.cell? ⟨w.1.size,2,none⟩=some (.int .i64 a):=by rw[f.cell (p:=⟨w.1.size,2,none⟩) vo];simp
 have o:w1.cell? ⟨w.1.size,3,none⟩=some (.int .i64 c):=by rw[f.cell (p:=⟨w.1.size,3,none⟩) vo];simp
 clear f;go_wp2_with fail;refine(pO d b a c c _).mono ?_;rintro e s ⟨rfl,i⟩;go_wp2;go_ret;exact⟨rfl,q.trans (i.mono q.size)⟩
theorem pP(c b a d w):
 Calls prog 111 #[.agg #[.int .i64 c,.int .i64 b,.int .i64 a,.int .i64 d]] w fun e w'=>e= .returned (.bool (bG c b a d))/\Below w.1.size w w':=by
 by_cases j:iK c a=true
 ·obtain⟨l,m,n,o⟩:=C3 j;unfold bG;rw[j,zd];cases r:nmB a b with
  |true=>
   rw[zd];exact Ad c b a d w uA uA uA uA r
  |false=>
   rw[z6];exact Ac c b a d w uA uA uA uA r
 ·have g:iK c a=false:=by simpa using j
  unfold bG;rw[g,z6];have p:=of_decide_eq_false g;by_cases f:c<1
  ·exact zY c b a d w f
  ·by_cases i:1000000000000<c
   ·exact zZ c b a d w f i
   ·by_cases k:a<2
    ·exact Aa c b a d w f i k
    ·exact Ab c b a d w f i k uA
theorem Ae(a c d b w)(f:0<=a)(g:a<=1000000000000):
 Calls prog 122 #[.agg #[.int .i64 a,.int .i64 c,.int .i64 d,.int .i64 b]] w fun e w'=>e= .returned (.int .i64 (a%2))/\Below w.1.size w w':=by
 go_enter func122,ntmps122;go_wp2;go_ret;exact⟨rfl,bAl _ _⟩
