import Derived.Test.YtnohmedccbogkaaGreatDoorCo22
import Derived.Shelf.SortM.Plain
import Derived.Shelf.SortM.SortNone
import Derived.Sort.OwnSortedInts
namespace Go.Proofs.YtnohmedccbogkaaGreatDoor
open Go.Proofs.Tryz
open Go.RowKit
set_option linter.unusedVariables false
set_option maxRecDepth 100000
set_option maxHeartbeats 32000000
theorem i5{w1 f rest o b D}(l:o.guard=none)(i j){C e bytes z}(T:ElT C e 1 z bytes)(y:o.op= .call {callee:= .builtin .append,args:=#[i,j],argTypes:=#[C,C]})(B a n c xs)(A:b.eval i= .slice a n c)(h:Own1 e B w1 a n c xs)(x)(m:x.oneCell'=true)(hx:b.eval j= .slice (some ⟨w1.1.size,0,none⟩) 1 1)(w:n<=1048576)(k:bytes<=1048576)(t:B<=w1.1.size)(v:∀g d w',Own1 e B w' (some ⟨g,0,none⟩) (n+1) d (xs++[x])->Below B w1 w'->(w1.alloc (.cells #[x] e)).grownBy w' (Value.slice a n c).ownBlock->(a=some ⟨g,0,none⟩\/w1.1.size<g)->wpList prog f D rest (b.put o.dst (.slice (some ⟨g,0,none⟩) (n+1) d)) w'):
 wpList prog f D (o::rest) b (w1.alloc (.cells #[x] e)):=
 sH l fun _ u=>lm i j T y B a n c xs A h x m hx w k t fun g d w' p q r s=>u _ _ (v g d w' p q r s)
def eQ(l:List Int)(i:Nat):Int:=low ((l.drop (4*i)).take 4)
def frA:List Int->List Int->Option (List Int)
 |[],free=>some free
 |x::xs,free=>if free≠[]/\x<=free.getLastD 0 then none else frA xs (free++[x])
def dz(l:List Int)(i:Nat):List Int:=((List.range (l.length/4)).drop i).map (eQ l)
theorem zC{l i}(h:l.length/4<=i):dz l i=[]:=by
 unfold dz;rw[pk (by simpa using h)]
 rfl
theorem zD{l i}(h:i<l.length/4):dz l i=eQ l i::dz l (i+1):=by
 unfold dz;rw[oF (by simpa using h)];simp
def fX(P:Pg)(own:List Int)(id:Int):Bool:=P.ok id&&(P.kd id==4)&& !own.contains id&&decide (4<=(P.bd id).length)&&((P.bd id).length%4==0)
theorem lZ{P a id}:fX P a id=true↔P.ok id=true/\P.kd id=4/\id∉a/\4<=(P.bd id).length/\(P.bd id).length%4=0:=by
 simp[fX,and_assoc]
def flR(P:Pg):Nat->Int->List Int->List Int->Option (List Int×List Int)
 |0,id,own,free=>if id=0 then some (free,own)else none
 |f+1,id,own,free=>if id=0 then some (free,own)else if fX P own id=true then(frA (dz (P.bd id) 1) free).bind fun free'=>flR P f (eQ (P.bd id) 0) (own++[id]) free' else none
theorem zE{P}(f b a):flR P f 0 b a=some (a,b):=by cases f<;>simp[flR]
theorem zF{P f id a b}(c:id≠0)(h:fX P a id=false):flR P (f+1) id a b=none:=by rw[flR,q4 c,q4 (by rw[h];decide)]
theorem qc{P f id b a}(d:id≠0)(h:fX P b id=true):flR P (f+1) id b a=(frA (dz (P.bd id) 1) a).bind fun c=>flR P f (eQ (P.bd id) 0) (b++[id]) c:=by rw[flR,q4 d,qb h]
noncomputable def flT(K:DK)(id:Int):Option (List Int×List Int):=match bK K with|false=>none|true=>flR (pgD K) (nPg K+1) id [] []
theorem zG:(prog.info? 3).map (fun i=>(i.zero,i.size,i.bytes))=some (some (.int .i64 0),1,8):=kO
theorem Kh(l):∀a∈on l,a.oneCell'=true:=ints_oneCell .i64 l
theorem Own1.belowW{e w w' a n c xs}(h:Own1 e 0 w a n c xs)(b:Below w.1.size w w'):Own1 e 0 w' a n c xs:=h.below b
theorem Ki{w z rest o p V}(v:o.guard=none)(s x)(K:o.op= .call {callee:= .builtin .append,args:=#[s,x],argTypes:=#[119,119]})(B a n c xs)(L:p.eval s= .slice a n c)(f:Own1 3 B w a n c (on xs))(b m d l)(hx:p.eval x= .slice b m d)(C:Own1 3 0 w b m d (on l))(S:n+m<=1048576)(G:B<=w.1.size)(h:∀q r w',Own1 3 B w' q (n+m) r (on (xs++l))->Below B w w'->w.grownBy w' (Value.slice a n c).ownBlock->wpList prog z V rest (p.put o.dst (.slice q (n+m) r)) w'):wpList prog z V (o::rest) p w:=by
 obtain⟨i,H,M,N,O⟩:=sk zG;have y:l.length=m:=by have:=C.len;rwa [mR]at this
 cases b with
 |none=>
  have T:m=0/\d=0:=by
   rcases C.2 with⟨A,F⟩|⟨g,D,E,A,_⟩
   ·cases A;exact⟨rfl,rfl⟩
   ·cases A
  obtain⟨rfl,rfl⟩:=T;have J:=oT y;subst J;refine wpList_append_own_none v s x _ K B 3 i 1 sS H _ n (on xs) L f hx ?_;exact h a c w (by simpa using f) kF ⟨rfl,rfl,rfl,kE,fun _ _ _=>rfl⟩
 |some P=>
  refine wpList_append_own w v s x _ K B 3 i _ 1 8 sS H M N O rfl kH _ n (on xs) L f P m d (on l) hx (by rw[mR,y];omega) ?_ (Kh l) (by unfold maxLen;omega) kH G ?_
  ·intro j X I;have W:j<l.length:=by have:=(lb.1 I).1;rwa [mR]at this
   obtain⟨g,e,_,_,_,Q⟩:=C.at_ kH;cases e;rw[sj,ld,Q j kH];rw[List.getD,I]
   rfl
  ·intro v' w' t u _;rw[iU]at t;have U:∃q r,v'= .slice q (n+m) r:=by
    rcases t.2 with⟨rfl,F⟩|⟨g,D,E,rfl,_⟩
    ·exact⟨none,0,by rw[F]⟩
    ·exact⟨_,_,rfl⟩
   obtain⟨q,r,rfl⟩:=U;exact h q r w' t (kF.grown u G (fun k R=>(qX f k R).1)) u
theorem Kj(n:Nat)(w)(o:n<=1048576):
 Calls prog 189 #[.slice none 0 0,.int .i64 n] w fun e w'=> ∃a c,e= .returned (.slice a 0 c)/\Below w.1.size w w'/\Own1 3 w.1.size w' a 0 c []:=by
 by_cases g:0<n
 ·obtain⟨i,h,d,m,f⟩:=sk zG;have hr:=fun j k=>Lib.run_append_nil_zeros (P:=prog) k 119 3 j 3 i _ .i64 .i64 sS r7 h d n g kH kH (by rw[f];omega);go_enter func189,ntmps189;go_wp2_with (at_builtin;refine Lib.wpList_append_run _ rfl _ _ _ _ rfl _ _ rfl rfl _ _ (hr _ _) ?_);go_ret;have l:=grownCap_ge w n 0 3;have b:=grownCap_le_maxLen w n 0 3 (by unfold maxLen;omega);refine⟨_,_,rfl,(bAl _ _).drew,?_⟩;refine World.ownsRow_made (size:=1) w _ _ kE b ?_;simp[size_zeroCells];omega
 ·have e:n=0:=kH;subst e;go_enter func189,ntmps189;go_wp2;go_ret;exact⟨none,0,rfl,kF,ew _ _ _⟩
def dQ(L:Nat->List Int):Nat->List Int
 |0=>[]
 |k+1=>dQ L k++L k
theorem tI(a){j k}(h:j<=k):(dQ a j).length<=(dQ a k).length:=by
 induction k with
 |zero=>have:j=0:=kH;subst this;exact kE
 |succ k ih=>
  by_cases e:j=k+1
  ·subst e;exact kE
  ·have:=ih kH;simp[dQ];omega
theorem Kk(b off n C)(E:Nat->Option Addr)(N F:Nat->Nat)(d w)(L:b<w.1.size)(V:n<=1048576)(r:∀i,i<n->w.cell? ⟨b,off+i,none⟩=some (.slice (E i) (N i) (F i)))(s:∀i,i<n->Own1 3 0 w (E i) (N i) (F i) (on (d i)))(P:(dQ d n).length<=1048576):
 Calls prog 155 #[.slice (some ⟨b,off,none⟩) n C] w fun e w'=> ∃a c,e= .returned (.slice a (dQ d n).length c)/\Below w.1.size w w'/\Own1 3 w.1.size w' a (dQ d n).length c (on (dQ d n)):=by
 go_enter func155,ntmps155;go_wp2
 go_loop [3,11] (fun x i=> ∃k:Nat,k<=n/\i= .int .i64 k/\x= .int .i64 ((dQ d k).length:Nat)) (fun _ i=>n-(intOf i).toNat)
 case atStart=>exact⟨0,kX _,rfl,rfl⟩
 case round=>
  obtain⟨k,M,rfl,rfl⟩:=hrel;have U:=tI d M;by_cases f:k<n
  ·have v:=r k f;have A:=s k f;have h:Hid ((dQ d (k+1)).length=(dQ d k).length+N k):=by
    show(dQ d k++d k).length= _;rw[kY,(show(d k).length=N k by have:=A.len;rwa [mR]at this)]
   have l:=tI d (show k+1<=n from f);rw[h.out]at l;generalize (dQ d k).length=R at*;generalize N k=S at*;have O:¬((R:Int)+(S:Int)<0):=kH;clear r s A;go_wp2
   go_round
   case rel=>exact⟨k+1,kH,by go_num,by rw[h.out];go_num⟩
   case measure=>simp[intOf];omega
  ·have e:k=n:=kH;subst e;go_wp2_with fail;refine(Kj (dQ d k).length _ P).mono ?_;rintro e w1 ⟨I,K,rfl,u,z⟩;go_wp2_with fail;go_loopw [6,27] (fun o i wr=> ∃j a c,j<=k/\i= .int .i64 (j:Nat)/\o= .slice a (dQ d j).length c/\Below w.1.size w wr/\Own1 3 w.1.size wr a (dQ d j).length c (on (dQ d j))) (fun _ i _=>k-(intOf i).toNat)
   case atStart=>exact⟨0,I,K,kX _,rfl,rfl,u,z⟩
   case round=>
    obtain⟨j,a,c,T,rfl,rfl,g,m⟩:=hrel;by_cases f:j<k
    ·have v:wr.cell? ⟨b,off+j,none⟩=some (.slice (E j) (N j) (F j)):=by rw[g.cell (p:=⟨b,off+j,none⟩) L];exact r j f
     have q:=(s j f).belowW g;have l:=tI d (show j+1<=k from f);have h:Hid ((dQ d (j+1)).length=(dQ d j).length+N j):=by
      show(dQ d j++d j).length= _;rw[kY,(show(d j).length=N j by have:=q.len;rwa [mR]at this)]
     rw[h.out]at l;have G:Hid (dQ d (j+1)=dQ d j++d j):=rfl;have Q:=g.size;clear r s z u;go_wp2_with (at_builtin;refine Ki rfl _ _ rfl w.1.size a _ c (dQ d j) rfl ?own (E j) (N j) (F j) (d j) rfl ?bs ?len ?B ?_)
     case own=>exact m
     case bs=>exact q
     case len=>omega
     case B=>exact Q
     intro H J w' y t _;have D:=g.trans t;rw[<-h.out,<-G.out]at y;rw[<-h.out];clear m g t q v;go_wp2;go_roundw
     case rel=>exact⟨j+1,H,J,kH,by go_num,rfl,D,y⟩
     case measure=>simp[intOf];omega
    ·have e:j=k:=kH;subst e;go_wp2;go_ret;exact⟨a,c,rfl,g,m⟩
theorem zJ{e B w w' a n c xs}(h:Own1 e B w a n c xs)(b:∀k∈rb a,w'.heap[k]?=w.heap[k]?):Own1 e B w' a n c xs:=by
 refine⟨h.1,?_⟩;rcases h.2 with h2|⟨g,cap,cur,e1,hB,hh,r⟩
 ·exact kV h2
 ·cases e1;exact kT ⟨g,_,cur,rfl,hB,(b g (by simp[rb])).trans hh,r⟩
theorem l4{e B w a n c xs}(h:Own1 e B w a n c xs):∀k∈rb a,B<=k/\k<w.1.size:=by
 intro k d;rcases h.2 with⟨b,_⟩|⟨g,j,l,b,f,i,r⟩
 ·cases b;simp[rb]at d
 ·cases b;simp[rb]at d;subst d;exact⟨f,(k6.1 i).1⟩
theorem tJ(l i)(a:i<l.length):(on l).getD i undef= .int .i64 (l.getD i 0):=by
 simp[on,List.getD,a]
theorem Kl(B a c l x w)(h:Own1 3 B w a l.length c (on l))(F:l.length<=1048576):
 Calls prog 209 #[.slice a l.length c,.int .i64 x] w fun e w'=> ∃i:Int,e= .returned (.int .i64 i)/\(0<=i↔x∈l)/\w'=w:=by
 have b:∀i,i<l.length->∃g,a=some ⟨g,0,none⟩/\w.cell? ⟨g,i,none⟩=some (.int .i64 (l.getD i 0)):=fun i r=>by
  obtain⟨g,e,_,_,_,b⟩:=h.at_ kH;exact⟨g,e,by rw[b i r,tJ l i r]⟩
 have v:Hid _:=b;clear b h;go_enter func209,ntmps209;go_wp2
 go_loop [8] (fun s=> ∃k:Nat,k<=l.length/\s= .int .i64 (k:Nat)/\∀j,j<k->l.getD j 0≠x) (fun s=>l.length-(intOf s).toNat)
 case atStart=>exact⟨0,kX _,rfl,fun j d=>absurd d (np _)⟩
 case round=>
  obtain⟨k,E,rfl,n⟩:=hrel;have f:Hid _:=n;clear n;by_cases m:k<l.length
  ·obtain⟨g,rfl,C⟩:=v.out k m;have p:Hid (l.getD k 0∈l):=by show l.getD k 0∈l;rw[List.getD,lx m];exact o2 _
   generalize u:l.getD k 0=y at*;have z:Hid _:=u;clear u;by_cases q:x=y
   ·subst q;go_wp2;go_ret;exact⟨(k:Int),rfl,⟨fun _=>p.out,fun _=>by omega⟩,rfl⟩
   ·have D:(x==y)=false:=by simp[q]
    go_wp2
    go_round
    case rel=>
     refine⟨k+1,kH,by go_num,fun j d=> ?_⟩;by_cases t:j=k
     ·subst t;rw[z.out];exact fun e=>q e.symm
     ·exact f.out j kH
    case measure=>simp[intOf];omega
  ·have o:Hid (x∉l):=fun A=>by
    obtain⟨j,d,e⟩:=List.mem_iff_getElem.1 A;exact f.out j kH (by rw[List.getD,lx d];exact e)
   go_wp2;go_ret;exact⟨-1,rfl,⟨fun h=>by omega,fun h=>absurd h o.out⟩,rfl⟩
theorem Km(B a c l x w)(h:Own1 3 B w a l.length c (on l))(g:l.length<=1048576):
 Calls prog 185 #[.slice a l.length c,.int .i64 x] w fun e w'=>(∃i:Int,e= .returned (.bool (decide (0<=i)))/\(0<=i↔x∈l))/\w'=w:=by
 have I:=Kl B a c l x w h g;clear h;go_enter func185,ntmps185;go_wp2_with fail;refine I.mono ?_;rintro e w1 ⟨i,rfl,b,d⟩;obtain rfl:=d.symm;have f:Hid _:=b;clear I b d;go_wp2;go_ret;exact⟨⟨i,rfl,f.out⟩,rfl⟩
theorem Ko(B a c l x w)(h:Own1 3 B w a l.length c (on l))(f:l.length<=1048576):
 Calls prog 185 #[.slice a l.length c,.int .i64 x] w fun e w'=>e= .returned (.bool (l.contains x))/\w'=w:=by
 refine(Km B a c l x w h f).mono ?_;rintro e w1 ⟨⟨i,rfl,d⟩,rfl⟩;have b:l.contains x=decide (0<=i):=by
  rw[Bool.eq_iff_iff,sZ,d,m9]
 rw[b];exact⟨rfl,rfl⟩
def Kp:Go.Shelf.Ren:=⟨fun|5=>188|8=>211|7=>210|19=>230|20=>231|10=>221|11=>222|12=>223|13=>224|14=>225|15=>226|16=>227|17=>228|18=>229|30=>244|31=>245|32=>246|33=>247|34=>248|35=>249|40=>251|n=>n,fun|23=>119|25=>3|3=>3|32=>231|22=>119|0=>0|44=>311|46=>330|4=>4|36=>321|35=>320|41=>326|5=>5|9=>9|53=>340|57=>344|63=>346|64=>178|n=>n,fun|n=>n⟩
theorem zK:Go.Proofs.SlLaysM.n5 prog Kp:={
 mixed:=kO
 f5:=⟨Tryz.f188.name,kN,func188.trans (rx some kO)⟩
 f7:=⟨Tryz.f210.name,kN,func210.trans (rx some kO)⟩
 f8:=func211.trans (rx some kO)
 f10:=⟨Tryz.f221.name,kN,func221.trans (rx some kO)⟩
 f11:=⟨Tryz.f222.name,kN,func222.trans (rx some kO)⟩
 f12:=⟨Tryz.f223.name,kN,func223.trans (rx some kO)⟩
 f13:=⟨Tryz.f224.name,kN,func224.trans (rx some kO)⟩
 f14:=⟨Tryz.f225.name,kN,func225.trans (rx some kO)⟩
 f15:=⟨Tryz.f226.name,kN,func226.trans (rx some kO)⟩
 f16:=⟨Tryz.f227.name,kN,func227.trans (rx some kO)⟩
 f17:=⟨Tryz.f228.name,kN,func228.trans (rx some kO)⟩
 f18:=⟨Tryz.f229.name,kN,func229.trans (rx some kO)⟩
 f19:=func230.trans (rx some kO)
 f20:=func231.trans (rx some kO)
 f30:=⟨Tryz.f244.name,kN,func244.trans (rx some kO)⟩
 f31:=func245.trans (rx some kO)
 f32:=func246.trans (rx some kO)
 f33:=⟨Tryz.f247.name,kN,func247.trans (rx some kO)⟩
 f34:=⟨Tryz.f248.name,kN,func248.trans (rx some kO)⟩
 f35:=⟨Tryz.f249.name,kN,func249.trans (rx some kO)⟩
 f40:=⟨Tryz.f251.name,kN,func251.trans (rx some kO)⟩
 t0:=underlying0
 a0:=Tryz.isAgg0
 z0:=Tryz.sizeOf0
 v0:=Tryz.zeroValue0
 t3:=r7
 a3:=Tryz.isAgg3
 z3:=Tryz.sizeOf3
 v3:=Tryz.zeroValue3
 t4:=underlying4
 a4:=Tryz.isAgg4
 z4:=Tryz.sizeOf4
 v4:=Tryz.zeroValue4
 t5:=sM
 a5:=Tryz.isAgg5
 z5:=Tryz.sizeOf5
 v5:=Tryz.zeroValue5
 t9:=s4
 a9:=Tryz.isAgg9
 z9:=Tryz.sizeOf9
 v9:=Tryz.zeroValue9
 t22:=sS
 a22:=Tryz.isAgg119
 z22:=Tryz.sizeOf119
 v22:=Tryz.zeroValue119
 t23:=sS
 a23:=Tryz.isAgg119
 z23:=Tryz.sizeOf119
 v23:=Tryz.zeroValue119
 t25:=r7
 a25:=Tryz.isAgg3
 z25:=Tryz.sizeOf3
 v25:=Tryz.zeroValue3
 t32:=underlying231
 a32:=Tryz.isAgg231
 z32:=Tryz.sizeOf231
 v32:=Tryz.zeroValue231
 t35:=underlying320
 a35:=Tryz.isAgg320
 z35:=Tryz.sizeOf320
 v35:=Tryz.zeroValue320
 t36:=underlying321
 a36:=Tryz.isAgg321
 z36:=Tryz.sizeOf321
 v36:=Tryz.zeroValue321
 t41:=underlying326
 a41:=Tryz.isAgg326
 z41:=Tryz.sizeOf326
 v41:=Tryz.zeroValue326
 t44:=underlying311
 a44:=Tryz.isAgg311
 z44:=Tryz.sizeOf311
 v44:=Tryz.zeroValue311
 t46:=underlying330
 a46:=Tryz.isAgg330
 z46:=Tryz.sizeOf330
 v46:=Tryz.zeroValue330
 t53:=underlying340
 a53:=Tryz.isAgg340
 z53:=Tryz.sizeOf340
 v53:=Tryz.zeroValue340
 t57:=underlying344
 a57:=Tryz.isAgg344
 z57:=Tryz.sizeOf344
 v57:=Tryz.zeroValue344
 t63:=underlying346
 a63:=Tryz.isAgg346
 z63:=Tryz.sizeOf346
 v63:=Tryz.zeroValue346
 t64:=underlying178
 a64:=Tryz.isAgg178
 z64:=Tryz.sizeOf178
 v64:=Tryz.zeroValue178}
theorem zL(B a c l w)(h:Own1 3 B w a l.length c (on l))(q:l.length<=1048576):
 Calls prog 188 #[.slice a l.length c] w fun e w'=>e= .returned (.tuple #[])/\w.grownBy w' (Value.slice a l.length c).ownBlock/\Own1 3 B w' a l.length c (on (srt l)):=by
 rcases h.2 with⟨b,j⟩|⟨g,s,t,b,p,d,k,m,o,f⟩
 ·simp only[s0]at b;obtain⟨rfl,_,rfl⟩:=b;have i:=oT j;subst i;refine q2 (AnyM.slices_Sort_int_none zK none 0 w) ?_;rintro e w' ⟨rfl,rfl⟩;exact⟨rfl,⟨rfl,rfl,rfl,kE,fun _ _ _=>rfl⟩,by rw[show srt []=[]by simp[srt]];exact ew _ _ _⟩
 ·simp only[s0]at b;obtain⟨rfl,_,rfl⟩:=b;rw[oG]at f;have r:l.length<4611686018427387904:=Nat.lt_of_le_of_lt q kN;refine q2 (AnyM.slices_Sort_int zK g 0 c l w (holds_of_blockI d f) (k6.1 d).1 r) ?_;rintro e w' ⟨rfl,n,os,rfl⟩;exact⟨rfl,grownBy_sortedI _,ownsRow_sortedI (jT l) p d k m o⟩
theorem zM{a n j}(h:j<n):(upF a n).getD j 0=((a+j:Nat):Int):=by simp[upF,List.getD,h]
theorem Kq{l M j}(a:j<l.length)(h:(srt l).getD j 0≠((2+j:Nat):Int)):fI l M=false:=by
 unfold fI;have:(srt l==upF 2 l.length)=false:=by
  rw[sV];intro e;rw[e,zM a]at h;exact h rfl
 rw[this]
 rfl
theorem Kr{l M}(h:∀j,j<l.length->(srt l).getD j 0=((2+j:Nat):Int)):fI l M=(2+l.length==M):=by
 unfold fI;have:(srt l==upF 2 l.length)=true:=by
  rw[beq_iff_eq];apply oS
  ·rw[jT,JZ]
  ·intro i b d;rw[jT]at b;have e:=h i b;have c:(srt l).getD i 0=(srt l)[i]:=by simp[List.getD,List.getElem?_eq_getElem (show i< (srt l).length by rw[jT];exact b)]
   rw[<-c,e,<-zM (a:=2) b];simp[List.getD,List.getElem?_eq_getElem d]
 rw[this]
 rfl
theorem Ks(B a c l M w)(h:Own1 3 B w a l.length c (on l))(J:l.length<=1048576)(O:M<=1048576):
 Calls prog 154 #[.slice a l.length c,.int .i64 (M:Nat)] w fun e w'=>e= .returned (.bool (fI l M))/\w.grownBy w' (Value.slice a l.length c).ownBlock:=by
 have A:=zL B a c l w h J;generalize o:fI l M=b at*;have k:Hid _:=o;clear h o;go_enter func154,ntmps154;go_wp2_with fail;refine A.mono ?_;rintro e w1 ⟨rfl,g1,v⟩;have r:=kG g1 v;have p:∀i,i<l.length->∃g,a=some ⟨g,0,none⟩/\w1.cell? ⟨g,i,none⟩=some (.int .i64 ((srt l).getD i 0)):=fun i t=>by
  obtain⟨g,e,_,_,_,p⟩:=v.at_ kH;exact⟨g,e,by rw[p i t,tJ _ i (by rw[jT];exact t)]⟩
 have H:Hid _:=p;clear A p g1 v;go_wp2_with fail
 go_loop [11] (fun s=> ∃i:Nat,i<=l.length/\s= .int .i64 (i:Nat)/\∀j,j<i->(srt l).getD j 0=((2+j:Nat):Int)) (fun s=>l.length-(intOf s).toNat)
 case atStart=>exact⟨0,kX _,rfl,fun j u=>absurd u (np _)⟩
 case round=>
  obtain⟨i,t,rfl,m⟩:=hrel;have x:Hid _:=m;clear m;by_cases q:i<l.length
  ·have K:(i:Int)< (l.length:Int):=kH;obtain⟨g,rfl,L⟩:=H.out i q;generalize G:(srt l).getD i 0=y at*;have z:Hid ((srt l).getD i 0=y):=G;clear G;by_cases d:y=2+(i:Int)
   ·have C:(y==2+(i:Int))=true:=by simp[d]
    have I:Hid (y=2+(i:Int)):=d;clear d;go_wp2_with fail
    go_round
    case rel=>
     refine⟨i+1,kH,by go_num,fun j u=> ?_⟩;by_cases E:j=i
     ·subst E;rw[z.out,I.out];omega
     ·exact x.out j kH
    case measure=>simp[intOf];omega
   ·have C:(y==2+(i:Int))=false:=by simp[d]
    have hr:Hid (b=false):=by
     show b=false;rw[<-k.out];exact Kq q (by rw[z.out];intro e;exact d (by rw[e];omega))
    clear d;go_wp2_with fail;go_ret;exact⟨by rw[hr.out];rfl,r.out.1⟩
  ·have D:i=l.length:=kH;have N:¬((i:Int)< (l.length:Int)):=kH;have hr:Hid (b=decide ((2:Int)+(l.length:Nat)=(M:Nat))):=by
    show b=decide ((2:Int)+(l.length:Nat)=(M:Nat));rw[<-k.out,Kr (fun j u=>x.out j kH),Bool.eq_iff_iff,beq_iff_eq,sZ];omega
   clear D;by_cases f:(2:Int)+(l.length:Nat)=(M:Nat)
   ·have F:((2:Int)+(l.length:Nat)==(M:Nat))=true:=by simp[f]
    have n:Hid (b=true):=by show b=true;rw[hr.out];exact q6 f
    clear f;go_wp2_with fail;go_ret;exact⟨by rw[n.out];rfl,r.out.1⟩
   ·have F:((2:Int)+(l.length:Nat)==(M:Nat))=false:=by simp[f]
    have n:Hid (b=false):=by show b=false;rw[hr.out];exact q5 f
    clear f;go_wp2_with fail;go_ret;exact⟨by rw[n.out];rfl,r.out.1⟩
section
structure FS(w:World)(d:DV)(K:DK)(gv cv vb sb:Nat)(free own:List Int)(a a2:Option Addr)(c c2:Nat)(wr:World):Prop where
 b:Below w.1.size w wr
 f:Own1 3 w.1.size wr a free.length c (on free)
 o:Own1 3 w.1.size wr a2 own.length c2 (on own)
 m:Own1 4 w.1.size wr (some ⟨sb,0,none⟩) (nPg K) (nPg K) (mkB own (nPg K))
 v:VRow wr d K gv
 gvt:∃cs,wr.heap[gv]?=some (.cells cs 70 (0,0))
 k:Blk wr 249 vb [.slice (some ⟨gv,0,none⟩) K.n cv]
 sep:∀g,a2=some ⟨g,0,none⟩->a≠some ⟨g,0,none⟩
variable {w wr wr':World} {d:DV} {K:DK} {gv cv vb sb:Nat} {free own:List Int} {a a2:Option Addr} {c c2:Nat}
theorem FS.below(h:FS w d K gv cv vb sb free own a a2 c c2 wr)(b:Below wr.1.size wr wr'):FS w d K gv cv vb sb free own a a2 c c2 wr':=
 ⟨h.b.trans (b.mono h.b.size),h.f.below b,h.o.below b,h.m.below b,h.v.below b,by obtain⟨cs,e⟩:=h.gvt;exact⟨cs,(b.block gv h.v.1).trans e⟩,h.k.below b,h.sep⟩
theorem VRow.keepT(h:VRow wr d K gv)(a:∃cs,wr.heap[gv]?=some (.cells cs 70 (0,0)))(c:KeepT 70 wr wr'):VRow wr' d K gv:=by
 obtain⟨cs,b⟩:=a;exact⟨lk h.1 c.size,fun e a=>(r8 (w:=wr) ((c.block gv cs _ b).trans b.symm)).trans (h.2 e a)⟩
theorem FS.kept(h:FS w d K gv cv vb sb free own a a2 c c2 wr)(e:Below w.1.size wr wr')(b:KeepT 70 wr wr')(g:KeepT 249 wr wr'):Below w.1.size w wr'/\VRow wr' d K gv/\(∃cs,wr'.heap[gv]?=some (.cells cs 70 (0,0)))/\Blk wr' 249 vb [.slice (some ⟨gv,0,none⟩) K.n cv]:=
 ⟨h.b.trans e,h.v.keepT h.gvt b,by obtain⟨cs,f⟩:=h.gvt;exact⟨cs,b.block gv cs _ f⟩,g.block vb _ _ h.k⟩
theorem FS.appO(h:FS w d K gv cv vb sb free own a a2 c c2 wr){i g r}(C:i<nPg K){w'}(D:Own1 3 w.1.size w' (some ⟨g,0,none⟩) (own.length+1) r (on own++[.int .i64 (i:Nat)]))(m:((wr.setCell ⟨sb,i,none⟩ (.bool true)).alloc (.cells #[.int .i64 (i:Nat)] 3)).grownBy w' (Value.slice a2 own.length c2).ownBlock)(u:a2=some ⟨g,0,none⟩\/wr.1.size<g):FS w d K gv cv vb sb free (own++[(i:Int)]) a (some ⟨g,0,none⟩) c r w':=by
 obtain⟨L,e0,t,J,⟨I,l⟩,_⟩:=h.m.at_ kH;cases e0;have z:=aB wr sb i (.bool true);have q:Below (wr.setCell ⟨sb,i,none⟩ (.bool true)).1.size (wr.setCell ⟨sb,i,none⟩ (.bool true)) ((wr.setCell ⟨sb,i,none⟩ (.bool true)).alloc (.cells #[.int .i64 (i:Nat)] 3)):=bAl _ _;have v:=h.b.size;have f:∀p,4≠p->KeepT p wr (wr.setCell ⟨sb,i,none⟩ (.bool true)):=fun p n=>iN z l n;have f1:=(h.f.keep (f _ kN)).below q;have j:=(h.o.keep (f _ kN)).below q;have y:=(h.m.set i (.bool true)).below q;rw[pH _ _ _ C]at y;have o:∀p,3≠p->KeepT p ((wr.setCell ⟨sb,i,none⟩ (.bool true)).alloc (.cells #[.int .i64 (i:Nat)] 3)) w':=fun p n=>bJ j m n;have A:=((z.below t v).trans (q.mono (by simpa using v))).trans (kF.grown m (by simp;omega) (fun k e=>(qX h.o k e).1));obtain⟨E,F,G,H⟩:=h.kept A (((f _ kN).trans (aW q)).trans (o _ kN)) (((f _ kN).trans (aW q)).trans (o _ kN));refine⟨E,f1.grown j m h.sep,?_,?_,F,G,H,?_⟩
 ·rw[kY,<-iU];exact D
 ·rw[tB (b:=(i:Int)::own) _ (fun x=>by simp[or_comm])];exact y.keep (o _ kN)
 ·intro g1 B s;cases B;rcases u with e|e
  ·exact h.sep g e s
  ·have:=h.f.lt s;omega
theorem FS.appF(h:FS w d K gv cv vb sb free own a a2 c c2 wr){x g m w'}(o:Own1 3 w.1.size w' (some ⟨g,0,none⟩) (free.length+1) m (on free++[.int .i64 x]))(j:(wr.alloc (.cells #[.int .i64 x] 3)).grownBy w' (Value.slice a free.length c).ownBlock)(n:a=some ⟨g,0,none⟩\/wr.1.size<g):FS w d K gv cv vb sb (free++[x]) own (some ⟨g,0,none⟩) a2 m c2 w':=by
 have q:=bAl wr (.cells #[.int .i64 x] 3);have b:=h.below q;have y:=b.b.size;have l:∀r,3≠r->KeepT r (wr.alloc (.cells #[.int .i64 x] 3)) w':=fun r p=>bJ b.f j p;obtain⟨s,t,u,v⟩:=b.kept (kF.grown j kH (fun k e=>(qX h.f k e).1)) (l _ kN) (l _ kN);refine⟨s,?_,b.o.grown b.f j (fun g1 f i=>b.sep g1 i f),b.m.keep (l _ kN),t,u,v,?_⟩
 ·rw[kY,<-iU];exact o
 ·intro g1 f i;cases i;rcases n with e|e
  ·exact h.sep g f e
  ·have:=h.o.lt f;omega
end
