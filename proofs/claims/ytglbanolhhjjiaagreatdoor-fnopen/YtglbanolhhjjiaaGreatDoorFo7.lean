import Derived.Test.YtglbanolhhjjiaaGreatDoorFo6
namespace Go.Proofs.YtglbanolhhjjiaaGreatDoor
open Go.Proofs.Tryz
open Go.RowKit
set_option linter.unusedVariables false
set_option maxRecDepth 100000
set_option maxHeartbeats 32000000
theorem OnlyB.thenB{g B a b c}(e:OnlyB g a b)(d:Below B b c)(h:a.1.size<=B):OnlyB g a c:=
 ⟨d.os.trans e.os,d.tape.trans e.tape,d.output.trans e.output,u9 e.size d.size,fun k f i=>(d.block k (ws f h)).trans (e.block k f i)⟩
theorem uF{l}(d:IsB l)(i){u}(b:0<=u)(c:u<256):IsB (l.set i u):=fun j=>by
 rw[x3,A2];by_cases e:i=j
 ·rw[BC e];by_cases a:i<l.length
  ·rw[BC a];exact⟨b,c⟩
  ·rw[BX a];exact⟨uB,uB⟩
 ·rw[BX e];have:=d j;rwa [x3]at this
theorem uG{B g w n c l}(b:Own B w (some ⟨g,0,none⟩) n c l)(i u):Own B (w.setCell ⟨g,i,none⟩ (.int .u8 u)) (some ⟨g,0,none⟩) n c (l.set i u):=by
 have a:=(World.ownsRow.stored b i (.int .u8 u)).1;have e:(ob l).set i (.int .u8 u)=ob (l.set i u):=by unfold ob;rw[List.map_set]
 rw[e]at a;exact a
def rdN(n p:Nat):Nat->Nat
 |0=>p
 |j+1=>rdP n (rdN n p j)
def rdL(l:List Int)(n p:Nat):Nat->List Int
 |0=>[]
 |j+1=>rdL l n p j++[l.getD (rdN n p j) 0]
theorem qx(l n p):∀j,(rdL l n p j).length=j
 |0=>rfl
 |j+1=>by simp[rdL,qx l n p j]
def iR(l:List Int)(p:Nat):Nat:=(l.getD p 0%5).toNat
def ki(l:List Int)(n p:Nat):List Int:=rdL l n (rdP n p) (iR l p)
def qy(l:List Int)(n p:Nat):Nat:=rdN n (rdP n p) (iR l p)
theorem By{l v}(c:IsB l)(a:0<=v)(b:v<256):IsB (l++[v]):=dC c (jP a b)
theorem qz{l}(a:IsB l)(n p):∀j,IsB (rdL l n p j)
 |0=>eX
 |j+1=>By (qz a n p j) (a _).1 (a _).2
theorem Bz(g a n c l p w)(J:IsRd w g a n c l p):
 Calls prog 60 #[.pointer (some ⟨g,0,none⟩)] w fun e w'=> ∃b d,e= .returned (.slice b (iR l p) d)/\OnlyB g w w'/\IsRd w' g a n c l (qy l n p)/\Own w.1.size w' b (iR l p) d (ki l n p):=by
 have Y:=J.bs.byte p;have Z:=J.lt;go_enter func60,ntmps60;go_wp2_with fail;refine(cZ g a n c l p w J).mono ?_;rintro e w1 ⟨rfl,u,O⟩;obtain⟨m,K⟩:∃m:Nat,l.getD p 0%5=(m:Int):=⟨(l.getD p 0%5).toNat,t7⟩;have R:Hid (iR l p=m):=by show iR l p=m;unfold iR;rw[K];rfl
 generalize l.getD p 0=k at*;obtain⟨k0,an⟩:=Y;have L:k.tmod 5=k%5:=z6 k0;have ae:m<=4:=t7;have E:=(Bn w1.1.size w1).alloc t1 (.cells #[] 5);have f:=u.thenB E u.size;have t:=O.below E;have Q:=eI w1 [] 0 rfl t7 w.1.size u.size;rw[K]at L;have H:Hid (IsRd w g a n c l p):=J;clear E u O J;go_wp2_with fail;go_loopw [4,5] (fun o i wr=> ∃(j:Nat)(b:Option Addr)(d:Nat),j<=m/\i= .int .i64 (j:Nat)/\o= .slice b j d/\OnlyB g w wr/\IsRd wr g a n c l (rdN n (rdP n p) j)/\Own w.1.size wr b j d (rdL l n (rdP n p) j)) (fun _ i _=>m-(intOf i).toNat)
 case atStart=>exact⟨0,_,0,u6 _,rfl,rfl,f,t,Q⟩
 case round=>
  obtain⟨j,b,d,am,rfl,rfl,h,r,s⟩:=hrel;clear f t Q;by_cases ad:j<m
  ·have C:(j:Int)< (m:Int):=t7;have ab:=r.bs.byte (rdN n (rdP n p) j);go_wp2_with fail;refine(cZ g a n c l _ wr r).mono ?_;rintro e F ⟨rfl,f,t⟩;have M:(Value.slice b j d).ownBlock≠some g:=fun e=>by have:=(BS s g e).1;omega
   have y:=f.own s M;have ac:=u9 h.size f.size;have G:Hid _:=h.trans f;have z:Hid _:=t;have x:Hid _:=y;have S:Hid (rdL l n (rdP n p) (j+1)=rdL l n (rdP n p) j++[l.getD (rdN n (rdP n p) j) 0]):=rfl;generalize l.getD (rdN n (rdP n p) j) 0=v at*;obtain⟨af,ag⟩:=ab;clear s r h f t y;go_wp2_with (at_builtin;refine eu rfl _ _ rfl w.1.size b j d (rdL l n (rdP n p) j) rfl ?own _ 1 1 [v] rfl ?bs ?len ?B ?_)
   case own=>exact B4 x.out _
   case bs=>exact fL F v t7 t7
   case len=>omega
   case B=>simp;omega
   intro W X ap N I _;have q:=(Bn F.1.size F).alloc t1 (.cells #[.int .u8 v] 5);have A:=(q.mono ac).trans I;have D:=G.out.thenB A t1;have P:=H.out.only D (by rw[A.block g Z];exact z.out.box) z.out.at_;have U:Hid _:=D;have V:Hid _:=P;have T:Hid _:=N;clear N I q A D P G z x;go_wp2;go_roundw
   case rel=>exact⟨j+1,W,X,t7,by go_num,rfl,U.out,V.out,by rw[S.out];exact T.out⟩
   case measure=>simp[intOf];omega
  ·have e:j=m:=t7;subst e;have ak:=t6 h (u2 r s);have C:¬(j:Int)< (j:Int):=t7;clear h r s;go_wp2;go_ret;unfold ki qy;rw[R.out];exact⟨b,d,rfl,ak.out⟩
def kyT:List Nat:=[1,2,5,20,40,34,12,3]
def kyM(k:Int):Nat:=kyT.getD (k%8).toNat 0
def kyL(l:List Int)(n p:Nat):List Int:=
 if 1<kyM (l.getD p 0)then((List.replicate (kyM (l.getD p 0)) (97+l.getD p 0/8%6)).set (kyM (l.getD p 0)-1) (97+l.getD p 0/48)).set 0 (97+l.getD (rdP n p) 0%8)
 else List.replicate (kyM (l.getD p 0)) (97+l.getD p 0/8%6)
def kyQ(l:List Int)(n p:Nat):Nat:=if 1<kyM (l.getD p 0)then rdP n (rdP n p)else rdP n p
theorem uH(k):kyM k<=40:=by
 unfold kyM;generalize (k%8).toNat=j
 match j with
 |0|1|2|3|4|5|6|7=>decide
 |j+8=>exact u6 _
theorem BA{j}(a:j<8):(#[.int .i64 1,.int .i64 2,.int .i64 5,.int .i64 20,.int .i64 40,.int .i64 34,.int .i64 12,.int .i64 3]:Array Value)[j]?=some (.int .i64 (kyT.getD j 0:Nat)):=by
 match j,a with
 |0,_|1,_|2,_|3,_|4,_|5,_|6,_|7,_=>rfl
theorem BE(j x)(a:0<=x)(b:x<256):IsB (List.replicate j x):=by
 induction j with
 |zero=>exact eX
 |succ j ih=>rw[List.replicate_succ'];exact dC ih (jP a b)
theorem BF{B w a n c l}(h:Own B w a n c l)(j:0<n):∃g,a=some ⟨g,0,none⟩/\B<=g:=by
 rcases h.2 with⟨e,i⟩|⟨g,d,f,e,b,_⟩
 ·omega
 ·cases e;exact⟨g,rfl,b⟩
theorem BG(g a n c l p w)(aX:IsRd w g a n c l p):
 Calls prog 101 #[.pointer (some ⟨g,0,none⟩)] w fun e w'=>e= .returned (.string (strOfNums (kyL l n p)))/\OnlyB g w w'/\IsRd w' g a n c l (kyQ l n p):=by
 have bS:=aX.bs.byte p;have bb:=aX.bs.byte (rdP n p);have bW:=aX.lt;go_enter func101,ntmps101;go_wp2_with fail;refine(cZ g a n c l p w aX).mono ?_;rintro e w1 ⟨rfl,bn,bu⟩;have f:Hid (kyL l n p=if 1<kyM (l.getD p 0)then((List.replicate (kyM (l.getD p 0)) (97+l.getD p 0/8%6)).set (kyM (l.getD p 0)-1) (97+l.getD p 0/48)).set 0 (97+l.getD (rdP n p) 0%8)else List.replicate (kyM (l.getD p 0)) (97+l.getD p 0/8%6)):=rfl;have C:Hid (kyQ l n p=if 1<kyM (l.getD p 0)then rdP n (rdP n p)else rdP n p):=rfl;generalize l.getD p 0=k at*;obtain⟨k0,cf⟩:=bS;obtain⟨m,af⟩:∃m:Nat,k%8=(m:Int):=⟨(k%8).toNat,t7⟩;have bl:k.tmod 8=(m:Int):=by rw[z6 k0,af]
 have bk:m<8:=t7;have a0:Hid (kyM k=kyT.getD m 0):=by show kyM k= _;unfold kyM;rw[af];rfl
 have bZ:kyT.getD m 0<=40:=by rw[<-a0.out];exact uH k
 have N:(w1.alloc (.cells #[.int .i64 1,.int .i64 2,.int .i64 5,.int .i64 20,.int .i64 40,.int .i64 34,.int .i64 12,.int .i64 3] 3)).cell? ⟨w1.1.size,m,none⟩=some (.int .i64 (kyT.getD m 0:Nat)):=by
  rw[CV _ _ _ _ _ _ (DI w1 _)];exact BA bk
 rw[a0.out]at f C;generalize kyT.getD m 0=M at*;have b8:(0:Int)<=(m:Int):=t7;have b9:(m:Int)<8:=t7;have H:Hid (IsRd w g a n c l p):=aX;have W:Hid _:=bn;have a3:Hid _:=bu;obtain⟨t,ad⟩:∃t:Int,t=k/8%6:=⟨_,rfl⟩;obtain⟨Q,ae⟩:∃Q:Int,Q=k/48:=⟨_,rfl⟩;have b6:k.tdiv 8=k/8:=y6 k0;have bT:k.tdiv 48=Q:=by rw[ae];exact y6 k0
 have b7:(k/8).tmod 6=t:=by rw[ad];exact z6 t7
 have bd:0<=t/\t<=5:=t7;have bf:0<=Q/\Q<=5:=t7;rw[<-ad,<-ae]at f;clear aX bn bu af ad ae;obtain⟨b2,b3⟩:=bd;obtain⟨b4,b5⟩:=bf;obtain⟨A,E⟩:=aa (w1.alloc (.cells #[.int .i64 1,.int .i64 2,.int .i64 5,.int .i64 20,.int .i64 40,.int .i64 34,.int .i64 12,.int .i64 3] 3));have am:Below w1.1.size w1 A:=by rw[E];exact bAl _ _
 have J:Hid (OnlyB g w A):=W.out.thenB am W.out.size;have a4:Hid (IsRd A g a n c l (rdP n p)):=a3.out.below am;go_upto_region 3 with fail
 rw[<-E];clear E am N W a3 bl;have an:=(Bn A.1.size A).alloc t1 (.cells #[] 5);have a1:=t6 (J.out.thenB an J.out.size) (u2 (a4.out.below an) (eI A [] 0 rfl t7 w.1.size J.out.size));clear an;go_wp2_with fail;go_loopw [5,6] (fun o i wr=> ∃(j:Nat)(K:Option Addr)(L:Nat),j<=M/\i= .int .i64 (j:Nat)/\o= .slice K j L/\OnlyB g w wr/\IsRd wr g a n c l (rdP n p)/\Own w.1.size wr K j L (List.replicate j (97+t))) (fun _ i _=>M-(intOf i).toNat)
 case atStart=>exact⟨0,_,0,u6 _,rfl,rfl,a1.out⟩
 case round=>
  obtain⟨j,K,L,ce,rfl,rfl,u,x,h⟩:=hrel;have bY:=u.size;clear a1 J a4;by_cases cc:j<M
  ·have D:(j:Int)< (M:Int):=t7;have I:=t6 u x;have P:Hid _:=h;clear u x h;go_wp2_with (at_builtin;refine eu rfl _ _ rfl w.1.size K j L (List.replicate j (97+t)) rfl ?own _ 1 1 [97+t] rfl ?bs ?len ?B ?_)
   case own=>exact B4 P.out _
   case bs=>exact fL wr _ t7 t7
   case len=>omega
   case B=>simp;omega
   intro bC bF cg br a6 _;have q:=(Bn wr.1.size wr).alloc t1 (.cells #[.int .u8 (97+t)] 5);have ab:=(q.mono bY).trans a6;have ag:=I.out.1.thenB ab t1;have bv:=H.out.only ag (by rw[ab.block g bW];exact I.out.2.box) I.out.2.at_;have U:=t6 ag (u2 bv br);have bB:Hid (List.replicate (j+1) (97+t)=List.replicate j (97+t)++[97+t]):=List.replicate_succ';clear br a6 q ab ag bv I P;go_wp2;go_roundw
   case rel=>exact⟨j+1,bC,bF,t7,by go_num,rfl,U.out.1,U.out.2.1,by rw[bB.out];exact U.out.2.2⟩
   case measure=>simp[intOf];omega
  ·have e:j=M:=t7;subst e;have z:IsB (List.replicate j (97+t)):=BE _ _ t7 t7;by_cases a9:1<j
   ·rw[BC a9]at f C;obtain⟨b,rfl,bg⟩:=BF h t7;obtain⟨d,S⟩:∃d:Nat,d=j-1:=⟨_,rfl⟩;rw[<-S]at f;have cb:((j:Int)-1)=(d:Int):=t7;have R:g≠b:=t7;have aA:=uG h d (97+Q);have bE:wr.cell? ⟨b,d,none⟩=some (.int .u8 (97+t)):=by
     rw[C1 h d t7];simp[ob,show d<j by omega]
    have f1:=World.ownsRow.frozenAt h d;obtain⟨aS,r⟩:=aa (wr.setCell ⟨b,d,none⟩ (.int .u8 (97+Q)));have a7:Below w.1.size wr aS:=by rw[r];exact(Bn w.1.size wr).setCell (p:=⟨b,d,none⟩) bg _
    have bz:aS.heap[g]?=wr.heap[g]?:=by rw[r];exact Below.heap_setCell _ _ _ _ R
    rw[<-r]at aA;have X:=u.thenB a7 t1;have Z:=H.out.only X (bz.trans x.box) x.at_;have G:=t6 X (u2 Z aA);have a2:=cZ g a n c l (rdP n p) aS Z;have ca:(0:Int)<=(d:Int):=t7;have hi4:(d:Int)< (j:Int):=t7;have D:¬(j:Int)< (j:Int):=t7;have ba:(1:Int)< (j:Int):=t7;clear u x h aA X Z a7 bz S;go_upto_region 10 with fail
    rw[<-r];clear r bE f1;go_wp2_with fail;refine a2.mono ?_;rintro e F ⟨rfl,ak,ap⟩;clear a2;generalize l.getD (rdP n p) 0=v at*;obtain⟨v0,v1⟩:=bb;have bm:v.tmod 8=v%8:=z6 v0;obtain⟨aT,bc⟩:∃aT:Int,aT=v%8:=⟨_,rfl⟩;have b0:0<=aT:=t7;have b1:aT<8:=t7;rw[<-bc]at bm f;clear bc;have O:=ak.own G.out.2.2 (fun bP=>by have:=(BS G.out.2.2 g bP).1;omega);have aB:=uG O 0 (97+aT);have ac:∃y,F.cell? ⟨b,0,none⟩=some (.int .u8 y):=by
     rw[C1 O 0 t7];cases bX:(List.replicate j (97+t)).set d (97+Q)with
     |nil=>have:=B8 List.length bX;simp at this;omega
     |cons y ch=>exact⟨y,rfl⟩
    obtain⟨y,ac⟩:=ac;have bR:=World.ownsRow.frozenAt O 0;obtain⟨bx,s⟩:=aa (F.setCell ⟨b,0,none⟩ (.int .u8 (97+aT)));have a8:Below w.1.size F bx:=by rw[s];exact(Bn w.1.size F).setCell (p:=⟨b,0,none⟩) bg _
    have bA:bx.heap[g]?=F.heap[g]?:=by rw[s];exact Below.heap_setCell _ _ _ _ R
    rw[<-s]at aB;have Y:=(G.out.1.trans ak).thenB a8 t1;have a5:=H.out.only Y (bA.trans ap.box) ap.at_;have T:=jn (aB.bs (uF (uF z _ t7 t7) 0 t7 t7));have V:=t6 Y a5;rw[<-f.out]at T;clear G ak ap O aB a8 bA Y a5 z f;go_upto_region 11 with fail
    rw[<-s];clear s ac bR;go_wp2_with fail;go_ret;rw[C.out];exact⟨rfl,V.out⟩
   ·rw[BX a9]at f C;have T:=jn (h.bs z);have V:=t6 u x;rw[<-f.out]at T;have D:¬(j:Int)< (j:Int):=t7;have ba:¬(1:Int)< (j:Int):=t7;clear u x h z f;go_wp2_with fail;go_ret;rw[C.out];exact⟨rfl,V.out⟩
theorem qA(k:Nat)(g)(f:g=(k:Int))(h:k<=1048576)(w):
 (Instr.makeSlice 56 (.int .i64 g) (.int .i64 g)).run prog w= .ok (.slice (some ⟨w.1.size,0,none⟩) k k) (w.alloc (.cells (madeCells #[.int .u8 0] k) 5)):=by
 obtain⟨i,d,a,b,c⟩:=CT jM;subst f;have e:=run_make (P:=prog) w 56 5 i _ underlying56 d a .i64 .i64 k k t7 (z7 _) (by rw[c];omega) t7;rw[e,b];simp[Value.cells]
theorem uI(k)(a:k<=1048576)(w:World):Bs (w.alloc (.cells (madeCells #[.int .u8 0] k) 5)) (some ⟨w.1.size,0,none⟩) k k (List.replicate k 0):=by
 have e:madeCells #[Value.int .u8 0] k=(ob (List.replicate k 0)).toArray:=by
  apply Array.toList_inj.1;rw[toList_madeCells_one];simp[ob]
 rw[e];exact mK w _ k uB a (lH k)
def vaT:List Nat:=[0,1,13,70,46,33]
def vaM(k:Int):Nat:=vaT.getD (k%6).toNat 0
def vaS(M:Nat):ByteArray:=if M=70 then strOfNums (List.replicate 69 0)++⟨#[122]⟩else strOfNums (List.replicate M 0)++⟨#[]⟩
theorem uJ(k):vaM k<=70:=by
 unfold vaM;generalize (k%6).toNat=j
 match j with
 |0|1|2|3|4|5=>decide
 |j+6=>exact u6 _
theorem BH{j}(a:j<6):(#[.int .i64 0,.int .i64 1,.int .i64 13,.int .i64 70,.int .i64 46,.int .i64 33]:Array Value)[j]?=some (.int .i64 (vaT.getD j 0:Nat)):=by
 match j,a with
 |0,_|1,_|2,_|3,_|4,_|5,_=>rfl
theorem BI(g a n c l p w)(O:IsRd w g a n c l p):
 Calls prog 102 #[.pointer (some ⟨g,0,none⟩)] w fun e w'=>e= .returned (.string (vaS (vaM (l.getD p 0))))/\OnlyB g w w'/\IsRd w' g a n c l (rdP n p):=by
 have H:=O.bs.byte p;go_enter func102,ntmps102;go_wp2_with fail;refine(cZ g a n c l p w O).mono ?_;rintro e w1 ⟨rfl,E,L⟩;obtain⟨k,C⟩:=aa (l.getD p 0);have G:Hid (vaM (l.getD p 0)=vaM k):=by show vaM _= _;rw[C]
 rw[<-C]at H ⊢;clear C;obtain⟨k0,V⟩:=H;obtain⟨m,D⟩:∃m:Nat,k%6=(m:Int):=⟨(k%6).toNat,t7⟩;have J:k.tmod 6=(m:Int):=by rw[z6 k0,D]
 have I:m<6:=t7;have A:Hid (vaM k=vaT.getD m 0):=by show vaM k= _;unfold vaM;rw[D];rfl
 have R:vaT.getD m 0<=70:=by rw[<-A.out];exact uJ k
 have x:(w1.alloc (.cells #[.int .i64 0,.int .i64 1,.int .i64 13,.int .i64 70,.int .i64 46,.int .i64 33] 3)).cell? ⟨w1.1.size,m,none⟩=some (.int .i64 (vaT.getD m 0:Nat)):=by
  rw[CV _ _ _ _ _ _ (DI w1 _)];exact BH I
 generalize vaT.getD m 0=M at*;have T:(0:Int)<=(m:Int):=t7;have U:(m:Int)<6:=t7;obtain⟨o,t⟩:=aa (w1.alloc (.cells #[.int .i64 0,.int .i64 1,.int .i64 13,.int .i64 70,.int .i64 46,.int .i64 33] 3));have F:Below w1.1.size w1 o:=by rw[t];exact bAl _ _
 have v:Hid (OnlyB g w o/\IsRd o g a n c l (rdP n p)):=⟨E.thenB F E.size,L.below F⟩;clear O E L D;go_upto_region 3 with fail
 rw[<-t];clear t F x J;refine az (fun _=>True) (fun _=>false) uA ?_;have s:=bDr o;have i:Hid (OnlyB g w o.drew/\IsRd o.drew g a n c l (rdP n p)):=⟨v.out.1.thenB s v.out.1.size,v.out.2.below s⟩;clear s v;generalize o.drew=h at*;by_cases q:M=70
 ·subst q;have P:((70:Nat):Int).tdiv 70=1:=uv;refine ai 0 trivial ?_;refine ai 1 trivial ?_;refine ai 6 trivial ?_;refine aM 2 (.int .i64 1) trivial ?h2 ?_
  case h2=>intro u _;go_simp;rfl
  refine aM 3 (.int .i64 69) trivial ?h3 ?_
  case h3=>intro u _;go_simp;rfl
  refine aM 7 (.int .i64 1) trivial ?h7 ?_
  case h7=>intro u _;go_simp;rfl
  refine aM 8 (.string ⟨#[122]⟩) trivial ?h8 ?_
  case h8=>intro u _;go_simp;rfl
  have N:=qA 69 69 rfl t7 h;have y:=jn (uI 69 t7 h);have j:=(Bn h.1.size h).alloc t1 (.cells (madeCells #[.int .u8 0] 69) 5);have z:=t6 (i.out.1.thenB j i.out.1.size) (i.out.2.below j);obtain⟨r,f⟩:=aa (strOfNums (List.replicate 69 0));have K:¬9223372036854775807<r.size+1:=by rw[f,B5,List.length_replicate];omega
  rw[<-f]at y;have B:Hid (vaS (vaM (l.getD p 0))=r++⟨#[122]⟩):=by show vaS _= _;rw[G.out,A.out,f];rfl
  clear j i f;refine ah 4 fun d b=> ?_;go_wp2_with fail;generalize h.alloc (.cells (madeCells #[.int .u8 0] 69) 5)=Q at*;refine ao b ?_;clear b d;refine ah 5 fun d b=> ?_;go_wp2_with fail;refine ao b ?_;clear b d;refine ah 9 fun d b=> ?_;go_wp2_with fail;refine ao b ?_;clear b d;refine ah 10 fun d b=> ?_;go_wp2_with fail;refine aU b ?_;clear b d;go_wp2_with fail;go_ret;rw[B.out];exact⟨rfl,z.out⟩
 ·have P:(M:Int).tdiv 70=0:=by rw[y6 t7];omega
  have S:M<70:=t7;refine ai 0 trivial ?_;refine ai 1 trivial ?_;refine ai 6 trivial ?_;refine aM 2 (.int .i64 0) trivial ?h2 ?_
  case h2=>intro u _;go_simp;try rfl
  refine aM 3 (.int .i64 M) trivial ?h3 ?_
  case h3=>intro u _;go_simp;rw[IntKind.wrap_i64];omega
  refine aM 7 (.int .i64 0) trivial ?h7 ?_
  case h7=>intro u _;go_simp;try rfl
  refine aM 8 (.string ⟨#[]⟩) trivial ?h8 ?_
  case h8=>intro u _;go_simp;rfl
  have N:=qA M M rfl t7 h;have y:=jn (uI M t7 h);have j:=(Bn h.1.size h).alloc t1 (.cells (madeCells #[.int .u8 0] M) 5);have z:=t6 (i.out.1.thenB j i.out.1.size) (i.out.2.below j);obtain⟨r,f⟩:=aa (strOfNums (List.replicate M 0));have K:¬9223372036854775807<r.size+0:=by rw[f,B5,List.length_replicate];omega
  rw[<-f]at y;have B:Hid (vaS (vaM (l.getD p 0))=r++⟨#[]⟩):=by show vaS _= _;rw[G.out,A.out,f];unfold vaS;rw[BX q]
  clear j i f;refine ah 4 fun d b=> ?_;go_wp2_with fail;generalize h.alloc (.cells (madeCells #[.int .u8 0] M) 5)=Q at*;refine ao b ?_;clear b d;refine ah 5 fun d b=> ?_;go_wp2_with fail;refine ao b ?_;clear b d;refine ah 9 fun d b=> ?_;go_wp2_with fail;refine ao b ?_;clear b d;refine ah 10 fun d b=> ?_;go_wp2_with fail;refine aU b ?_;clear b d;go_wp2_with fail;go_ret;rw[B.out];exact⟨rfl,z.out⟩
def jy(N:Nat->Nat):Nat->Nat
 |0=>0
 |k+1=>jy N k+N k
theorem BJ:(prog.info? 133).map (fun i=>(i.zero,i.size,i.bytes))=some (some (.agg #[.int .i64 0,.slice none 0 0]),2,32):=uA
theorem l4{B w w'}(a:Below B w.drew w'):Below B w w':=⟨a.os,a.tape,a.output,a.size,a.block⟩
theorem fA{w:World}{B e size:Nat}{v n xs}(h:w.ownsRow B e size v n xs){k}(a:v.ownBlock=some k):B<=k/\k<w.1.size:=by
 rcases h.2 with⟨rfl,_⟩|⟨g,f,c,rfl,b,d,_⟩
 ·simp[Value.ownBlock]at a
 ·simp[Value.ownBlock]at a;subst a;exact⟨b,(vR.1 d).1⟩
theorem l5(p N k):∀j,mk p N k j=k+p*j+jy N j
 |0=>by simp[mk,jy]
 |j+1=>by
  have:=l5 p N k j;have e:(p:Int)*((j+1:Nat):Int)=p*j+p:=by rw[Int.natCast_add,Int.mul_add];simp
  simp only[mk,jy];rw[this,e];simp;omega
theorem Small.congr{d g K}(j:Small d K)(h:g.sN=d.sN)(i:g.pN=d.pN):Small g K:=by
 obtain⟨a,b,c,e,f⟩:=j;unfold dmk at f;exact⟨a,b,by rw[h];exact c,by rw[i];exact e,by unfold dmk;rw[h,i];exact f⟩
theorem jz{w:World}{B e size:Nat}{v n xs}(l:w.ownsRow B e size v n xs){g f d fr}(i:w.heap[g]?=some (.cells d f fr))(h:e≠f):v.ownBlock≠some g:=by
 intro b;rcases l.2 with⟨rfl,_⟩|⟨k,j,c,rfl,_,a,_⟩
 ·simp[Value.ownBlock]at b
 ·simp[Value.ownBlock]at b;subst b;rw[i]at a;simp at a;exact h a.2.1.symm
theorem BK{w:World}{B e size:Nat}{v n xs}(i:w.ownsRow B e size v n xs){g b a fr}(f:w.heap[g]?=some (.cells a b fr))(d:e≠b){k}(h:v.ownBlock=some k):g≠k:=
 fun c=>jz i f d (by rw[h,c])
theorem ORecs.setBelow{p e B w a n c j g N h L}(d:ORecs p e B w a n c j g N h L){q}(b:q.block<B)(u):ORecs p e B (w.setCell q u) a n c j g N h L:=
 ⟨ownsRow_setCell_below d.row b u,fun i f=>ownsRow_setCell_below (d.data i f) b u,d.byte,d.sep1⟩
def l6:DV:=⟨none,0,fun _=>none,fun _=>0,fun _=>0,none,0,fun _=>none,fun _=>0,fun _=>0⟩
def bV(n:Nat):DK:={n:=n,S:=fun _=>gM,m:=0,At:=fun _=>0,D:=fun _=>[]}
theorem ORecs.setOther{p e B w a n c x t N v L}(o:ORecs p e B w a n c x t N v L){g d h fr}(m:w.heap[g]?=some (.cells h d fr))(q:e≠d)(l:5≠d)(j u):ORecs p e B (w.setCell ⟨g,j,none⟩ u) a n c x t N v L:=by
 have s:Turned (fun k=>k=g) w (w.setCell ⟨g,j,none⟩ u):=⟨rfl,rfl,rfl,uB,fun k b=>Below.heap_setCell _ _ _ _ b⟩;refine o.turned s (fun k b f=> ?_) (fun i r k b f=> ?_)
 ·subst f;exact jz o.row m q b
 ·subst f;exact jz (o.data i r) m l b
theorem uK{wr h:World}{d f}{B e size:Nat}{v n xs}(l:wr.ownsRow B e size v n xs){g b:Nat}{a fr}(c:wr.heap[g]?=some (.cells a b fr))(k:e≠b)(j:(((wr.alloc d).drew).alloc f).grownBy h v.ownBlock):h.heap[g]?=some (.cells a b fr):=by
 have m:=(vR.1 c).1;have o:(((wr.alloc d).drew).alloc f).1.size=wr.1.size+2:=by simp
 rw[j.block g t7 (fun i=>jz l c k i.symm),<-c];exact(fK wr d f).block g m
theorem BL{wr h q s B e size v n xs}(o:wr.ownsRow B e size v n xs){p b B' a c w t N u L}(f:ORecs p b B' wr a 0 c w t N u L)(l:e≠b)(k:(((wr.alloc q).drew).alloc s).grownBy h v.ownBlock):ORecs p b B' h a 0 c w t N u L:=by
 refine⟨?_,fun i d=>absurd d t7,fun i d=>absurd d t7,fun i j _ m=>absurd m t7⟩;refine⟨f.row.1,?_⟩;rcases f.row.2 with h2|⟨g,cap,cur,hv,hb,hh,r⟩
 ·exact u5 h2
 ·exact u4 ⟨g,cap,cur,hv,hb,uK o hh l k,r⟩
theorem uM(n:Nat)(w)(ap:1<=n)(aA:n<=4096):
 Calls prog 90 #[.int .i64 n] w fun e w'=> ∃d,e= .returned (.tuple #[av d (bV n),.bool true])/\Below w.1.size w w'/\ODisk w.1.size w' d (bV n):=by
 have am:(1:Int)<=(n:Int):=t7;have an:(n:Int)<=4096:=t7;have ak:=AV;go_enter func90,ntmps90;go_wp2_with fail;have x:Below (w.1.size+1) (w.alloc (.cells #[.slice none 0 0,.slice none 0 0] 35)) ((((w.alloc (.cells #[.slice none 0 0,.slice none 0 0] 35)).alloc (.cells #[] 56)).alloc (.cells #[] 133)).alloc (.cells #[.slice (some ⟨w.1.size+1,0,none⟩) 0 0,.slice (some ⟨w.1.size+1+1,0,none⟩) 0 0] 35)):=
  ((t2.alloc uB _).alloc uB _).alloc uB _
 have y:((((w.alloc (.cells #[.slice none 0 0,.slice none 0 0] 35)).alloc (.cells #[] 56)).alloc (.cells #[] 133)).alloc (.cells #[.slice (some ⟨w.1.size+1,0,none⟩) 0 0,.slice (some ⟨w.1.size+1+1,0,none⟩) 0 0] 35)).heap[w.1.size+1+1+1]?=some (.cells #[.slice (some ⟨w.1.size+1,0,none⟩) 0 0,.slice (some ⟨w.1.size+1+1,0,none⟩) 0 0] 35 (0,0)):=by
  have:=DI (((w.alloc (.cells #[.slice none 0 0,.slice none 0 0] 35)).alloc (.cells #[] 56)).alloc (.cells #[] 133)) (.cells #[.slice (some ⟨w.1.size+1,0,none⟩) 0 0,.slice (some ⟨w.1.size+1+1,0,none⟩) 0 0] 35);rwa [World.size_alloc,World.size_alloc,World.size_alloc]at this
 have o:=((io 1 133 (w.1.size+1) ((w.alloc (.cells #[.slice none 0 0,.slice none 0 0] 35)).alloc (.cells #[] 56)) uB (aI (bV n)) (fun _=>none) (fun _=>0) (fun _=>0) (bV n).D).below (t2.alloc t1 (.cells #[.slice (some ⟨w.1.size+1,0,none⟩) 0 0,.slice (some ⟨w.1.size+1+1,0,none⟩) 0 0] 35)));have r:=((io 0 56 (w.1.size+1) (w.alloc (.cells #[.slice none 0 0,.slice none 0 0] 35)) uB zI (fun _=>none) (fun _=>0) (fun _=>0) (fun _=>[])).below (fK _ (.cells #[] 133) (.cells #[.slice (some ⟨w.1.size+1,0,none⟩) 0 0,.slice (some ⟨w.1.size+1+1,0,none⟩) 0 0] 35)));rw[World.size_alloc]at r;rw[World.size_alloc,World.size_alloc]at o;go_loopw [5] (fun i wr=> ∃j a c O N P L,j<=n/\i= .int .i64 (j:Nat)/\Below (w.1.size+1) (w.alloc (.cells #[.slice none 0 0,.slice none 0 0] 35)) wr/\wr.heap[w.1.size+1+1+1]?=some (.cells #[.slice a j c,.slice (some ⟨w.1.size+1+1,0,none⟩) 0 0] 35 (0,0))/\ORecs 0 56 (w.1.size+1) wr a j c zI O N P L/\(∀i,i<j->L i=gM)/\ORecs 1 133 (w.1.size+1) wr (some ⟨w.1.size+1+1,0,none⟩) 0 0 (aI (bV n)) (fun _=>none) (fun _=>0) (fun _=>0) (bV n).D) (fun i _=>n-(intOf i).toNat)
 case atStart=>exact⟨0,_,_,_,_,_,_,u6 _,rfl,x,y,r,fun i g=>absurd g t7,o⟩
 case round=>
  clear x y o r;obtain⟨j,a,c,O,N,P,L,aB,rfl,b,hx,u,D,t⟩:=hrel;have k0:wr.cell? ⟨w.1.size+1+1+1,0,none⟩=some (.slice a j c):=by rw[CV wr _ 0 _ _ _ hx];rfl
  have W:wr.cell? ⟨w.1.size+1+1+1,1,none⟩=some (.slice (some ⟨w.1.size+1+1,0,none⟩) 0 0):=by rw[CV wr _ 1 _ _ _ hx];rfl
  have G:w.1.size+1+1+1<wr.1.size:=(vR.1 hx).1;by_cases ag:j<n
  ·have C:wr.frozen? ⟨w.1.size+1+1+1,0,none⟩=false:=frozen_of_row wr _ 0 _ _ hx;have X:=fun I J=>(show((wr.alloc I).alloc J).cell? ⟨w.1.size+1+1+1,0,none⟩=some (.slice a j c)by rw[(fK wr I J).cell (p:=⟨w.1.size+1+1+1,0,none⟩) G];exact k0);have Q:Hid _:=hx;have s:Hid _:=b;have m:Hid _:=u;have z:Hid _:=t;clear hx b u t;go_wp2_with fail
   go_region_law (refine jS (w0:=wr.drew) (w1:=(wr.alloc (.cells kf 5)).drew) rfl _ _ 22 rfl 0 56 (w.1.size+1) underlying22 qm uv a j c zI O N P L rfl (m.out.below t2.drew) ?_ (fun _=>0) (some ⟨wr.1.size,0,none⟩) 64 64 gM ?_ AX ?_ _ rfl ?_ ?_ ?_;exact((Bn wr.drew.1.size wr.drew).alloc t1 _);exact AW wr.1.size wr t1;(simp;omega);(rw[DR,World.size_alloc];rfl);omega;intro h k f M B H A;have l:=uK m.out.row Q.out uv A;have K:=BL m.out.row z.out uv A;have ab:f.cell? ⟨w.1.size+1+1+1,0,none⟩=some (.slice a j c):=(by rw[CV f _ 0 _ _ _ l];rfl);have ac:f.frozen? ⟨w.1.size+1+1+1,0,none⟩=false:=frozen_of_row f _ 0 _ _ l;clear H A)
   all_goals
    have T:Below (w.1.size+1) (w.alloc (.cells #[.slice none 0 0,.slice none 0 0] 35)) (f.setCell ⟨w.1.size+1+1+1,0,none⟩ (.slice h (j+1) k)):=by
     have aT:=s.out.size;have q:Below (w.1.size+1) wr f:=(t2.alloc t7 (.cells kf 5)).drew.trans B;exact(s.out.trans q).setCell uB _
    have af:(f.setCell ⟨w.1.size+1+1+1,0,none⟩ (.slice h (j+1) k)).heap[w.1.size+1+1+1]?=some (.cells #[.slice h (j+1) k,.slice (some ⟨w.1.size+1+1,0,none⟩) 0 0] 35 (0,0)):=heap_setCell_same f _ 0 _ _ _ l;have ae:=M.setOther l uv uv 0 (.slice h (j+1) k);have Z:=K.setOther l uv uv 0 (.slice h (j+1) k);clear ab ac l M K B X k0 W C;go_wp2;go_roundw
    case rel=>
     refine⟨j+1,h,k,_,_,_,_,t7,by go_num,T,af,ae.congr' (fun i g q F=>absurd F t7) (fun i g=>rfl),fun i g=> ?_,Z⟩;by_cases e:i=j
     ·subst e;rw[be]
     ·rw[bw _ _ _ e];exact D i t7
    case measure=>simp[intOf];omega
  ·have e:j=n:=t7;subst e;have U:wr.cell? ⟨w.1.size,0,none⟩=some (.slice none 0 0):=by rw[b.cell (p:=⟨w.1.size,0,none⟩) (xc _)];simp
   have V:wr.cell? ⟨w.1.size,1,none⟩=some (.slice none 0 0):=by rw[b.cell (p:=⟨w.1.size,1,none⟩) (xc _)];simp
   have C:wr.frozen? ⟨w.1.size,0,none⟩=false:=by rw[b.frozen (p:=⟨w.1.size,0,none⟩) (xc _)];simp
   have f1:wr.frozen? ⟨w.1.size,1,none⟩=false:=by rw[b.frozen (p:=⟨w.1.size,1,none⟩) (xc _)];simp
   have m:Hid _:=u;have s:Hid _:=b;have z:Hid _:=t;clear u b hx t;go_wp2;have ad:=(m.out.setBelow (q:=⟨w.1.size,0,none⟩) (xc _) (.slice a j c)).setBelow (q:=⟨w.1.size,1,none⟩) (xc _) (.slice (some ⟨w.1.size+1+1,0,none⟩) 0 0);have Y:=(z.out.setBelow (q:=⟨w.1.size,0,none⟩) (xc _) (.slice a j c)).setBelow (q:=⟨w.1.size,1,none⟩) (xc _) (.slice (some ⟨w.1.size+1+1,0,none⟩) 0 0);have R:Below w.1.size w _:=(((Bn w.1.size w).alloc t1 _).trans (s.out.mono (xa _))).setCell (p:=⟨w.1.size,0,none⟩) t1 (.slice a j c);have S:=R.setCell (p:=⟨w.1.size,1,none⟩) t1 (.slice (some ⟨w.1.size+1+1,0,none⟩) 0 0);refine BB (v:= .tuple #[.agg #[.slice a j c,.slice (some ⟨w.1.size+1+1,0,none⟩) 0 0],.bool true]) (by simp[results,results90,go_sem,U,V]) rfl ⟨⟨a,c,O,N,P,some ⟨w.1.size+1+1,0,none⟩,0,fun _=>none,fun _=>0,fun _=>0⟩,rfl,S,?_⟩;exact⟨(ad.mono (xa _)).congr' (fun i g q F=>rfl) (fun i g=>D i g),Y.mono (xa _),fun i aS _ E=>absurd E (w8 _)⟩
theorem BM(h w)(j:h<1\/4096<h):
 Calls prog 90 #[.int .i64 h] w fun e w'=> ∃d,e= .returned (.tuple #[av d (bV 0),.bool false])/\Below w.1.size w w'/\ODisk w.1.size w' d (bV 0):=by
 have b:∀w',ODisk w.1.size w' l6 (bV 0):=fun w'=>⟨jU _ _ _ _ _ _ _ _ _,jU _ _ _ _ _ _ _ _ _,fun i p _ g=>absurd g (w8 _)⟩;have a:Hid _:=b;clear b;have f:=fun k l m n=>(((Bn w.1.size w).alloc uB k).alloc uB l|>.alloc (by simp;omega) m).alloc (by simp;omega) n;have c:Hid _:=f;clear f;rcases j with j|j
 ·go_enter func90,ntmps90;go_wp2;refine BB (v:= .tuple #[.agg #[.slice none 0 0,.slice none 0 0],.bool false]) (by simp[results,results90,go_sem]) rfl ⟨l6,rfl,?_,a.out _⟩;exact c.out _ _ _ _
 ·have o:¬h<1:=t7;go_enter func90,ntmps90;go_wp2;refine BB (v:= .tuple #[.agg #[.slice none 0 0,.slice none 0 0],.bool false]) (by simp[results,results90,go_sem]) rfl ⟨l6,rfl,?_,a.out _⟩;exact c.out _ _ _ _
theorem qB:∃i d,prog.info? 133=some i/\i.zero=some d/\i.size=1+1/\d.cells.size=1+1/\i.bytes<=64:=by
 obtain⟨i,c,a,b,e⟩:=CT BJ;exact⟨i,_,c,a,b,rfl,t7⟩
theorem ig{a:Type}(f:Nat->a)(j):upd f j (f j)=f:=by
 funext i;by_cases e:i=j
 ·subst e;rw[be]
 ·rw[bw _ _ _ e]
theorem kl{wr a h o}{B e size:Nat}{v n xs}(f:Below wr.1.size wr a)(l:wr.ownsRow B e size v n xs){g c:Nat}{b fr}(d:wr.heap[g]?=some (.cells b c fr))(k:e≠c)(j:(a.alloc o).grownBy h v.ownBlock):h.heap[g]?=some (.cells b c fr):=by
 have m:=(vR.1 d).1;have p:=f.size;rw[j.block g (by simp;omega) (fun i=>jz l d k i.symm),((Bn a.1.size a).alloc t1 o).block g t7,f.block g m,d]
theorem ORecs.keptT{p e B wr f m o a n c J H N I L}(x:ORecs p e B wr a n c J H N I L)(r:Below wr.1.size wr f){B' b size G:Nat}{v xs}(F:wr.ownsRow B' b size v G xs)(C:b≠e)(t:b≠5)(z:(f.alloc o).grownBy m v.ownBlock):ORecs p e B m a n c J H N I L:=by
 have A:=r.trans (((Bn f.1.size f).alloc t1 o).mono r.size);have h:∀{d size l:Nat}{u:Value}{q:List Value},b≠d->wr.ownsRow B d size u l q->m.ownsRow B d size u l q:=fun{d size l u q} w s=>by
  refine World.ownsRow.kept (bQ s A) z ?_;cases j:u.ownBlock with
  |none=>exact u5 rfl
  |some k=>
   right;intro y;rcases s.2 with⟨rfl,_⟩|⟨g,K,M,rfl,_,D,_⟩
   ·simp[Value.ownBlock]at j
   ·simp[Value.ownBlock]at j;subst j;exact jz F D w y.symm
 exact⟨h C x.row,fun i E=>h t (x.data i E),x.byte,x.sep1⟩
theorem ORecs.kept3{p e B h wr g a n c r o N q L}(l:ORecs p e B h a n c r o N q L)(m:ORecs p e B wr a n c r o N q L){blk}(x:wr.grownBy g blk)(w:∀k,blk=some k->h.1.size<=k):ORecs p e B g a n c r o N q L:=by
 have f:∀{b size d:Nat}{v:Value}{xs:List Value},h.ownsRow B b size v d xs->wr.ownsRow B b size v d xs->g.ownsRow B b size v d xs:=fun{b size d v xs} t u=>by
  refine World.ownsRow.kept u x ?_;cases y:v.ownBlock with
  |none=>exact u5 rfl
  |some k=>
   right;intro s;have:=w k s.symm;have:=(fA t y).2;omega
 exact⟨f l.row m.row,fun i j=>f (l.data i j) (m.data i j),m.byte,m.sep1⟩
theorem BN(y o z pc a8 A t a9 d B K w)(af:RRecs 0 w y K.n z zI a8 t a9 K.S)(U:RRecs 1 w o K.m pc (aI K) A d B K.D)(cv:K.n<=1048576)(cs:K.m<=1048576)(br:∀i,i<K.n->t i<=1048576)(bm:∀i,i<K.m->d i<=1048576):
 Calls prog 43 #[.agg #[.slice y K.n z,.slice o K.m pc]] w fun e w'=> ∃ae,e= .returned (av ae K)/\Below w.1.size w w'/\ODisk w.1.size w' ae K/\ae.sN=t/\ae.pN=d:=by
 have b9:Hid _:=br;have b8:Hid _:=bm;clear br bm;go_enter func43,ntmps43;go_wp2_with fail;have bP:Below w.1.size w (((w.alloc (.cells #[.slice y K.n z,.slice o K.m pc] 35)).alloc (.cells #[.slice none 0 0,.slice none 0 0] 35)).alloc (.cells #[.slice none 0 0,.slice none 0 0] 35)):=((Bn w.1.size w).alloc uB _).alloc uB _|>.alloc (by simp;omega) _;have b4:(((w.alloc (.cells #[.slice y K.n z,.slice o K.m pc] 35)).alloc (.cells #[.slice none 0 0,.slice none 0 0] 35)).alloc (.cells #[.slice none 0 0,.slice none 0 0] 35)).heap[w.1.size+1+1]?=some (.cells #[.slice none 0 0,.slice none 0 0] 35 (0,0)):=by
  have:=DI ((w.alloc (.cells #[.slice y K.n z,.slice o K.m pc] 35)).alloc (.cells #[.slice none 0 0,.slice none 0 0] 35)) (.cells #[.slice none 0 0,.slice none 0 0] 35);rwa [World.size_alloc,World.size_alloc]at this
 have ad:(((w.alloc (.cells #[.slice y K.n z,.slice o K.m pc] 35)).alloc (.cells #[.slice none 0 0,.slice none 0 0] 35)).alloc (.cells #[.slice none 0 0,.slice none 0 0] 35)).cell? ⟨w.1.size,1,none⟩=some (.slice o K.m pc):=by go_simp
 have b0:(((w.alloc (.cells #[.slice y K.n z,.slice o K.m pc] 35)).alloc (.cells #[.slice none 0 0,.slice none 0 0] 35)).alloc (.cells #[.slice none 0 0,.slice none 0 0] 35)).heap[w.1.size+1]?=some (.cells #[.slice none 0 0,.slice none 0 0] 35 (0,0)):=by
  have bl:=DI (w.alloc (.cells #[.slice y K.n z,.slice o K.m pc] 35)) (.cells #[.slice none 0 0,.slice none 0 0] 35);rw[World.size_alloc]at bl;rw[((Bn (w.1.size+1+1) ((w.alloc (.cells #[.slice y K.n z,.slice o K.m pc] 35)).alloc (.cells #[.slice none 0 0,.slice none 0 0] 35))).alloc uB _).block _ (xc _)];exact bl
 have cB:(((w.alloc (.cells #[.slice y K.n z,.slice o K.m pc] 35)).alloc (.cells #[.slice none 0 0,.slice none 0 0] 35)).alloc (.cells #[.slice none 0 0,.slice none 0 0] 35)).1.size=w.1.size+1+1+1:=by simp
 generalize bu:(((w.alloc (.cells #[.slice y K.n z,.slice o K.m pc] 35)).alloc (.cells #[.slice none 0 0,.slice none 0 0] 35)).alloc (.cells #[.slice none 0 0,.slice none 0 0] 35))=R at*;clear bu;have bf:Hid _:=bP;have b7:Hid _:=ad;have ca:Hid _:=b0;clear ad b0 bP;go_loopw [5,11] (fun _ i wr=> ∃j a c bb bc,j<=K.n/\i= .int .i64 (j:Nat)/\Below (w.1.size+1+1) R wr/\wr.heap[w.1.size+1+1]?=some (.cells #[.slice a j c,.slice none 0 0] 35 (0,0))/\ORecs 0 56 (w.1.size+1+1+1) wr a j c zI bb t bc K.S) (fun _ i _=>K.n-(intOf i).toNat)
 case atStart=>exact⟨0,none,0,fun _=>none,fun _=>0,u6 _,rfl,t2,b4,jU _ _ _ _ _ _ _ _ _⟩
 case round=>
  clear b4;obtain⟨j,a,c,bb,bc,a2,rfl,s,hx,F⟩:=hrel;have k0:wr.cell? ⟨w.1.size+1+1,0,none⟩=some (.slice a j c):=by rw[CV wr _ 0 _ _ _ hx];rfl
  have b5:w.1.size+1+1<wr.1.size:=(vR.1 hx).1;have bd:Hid (Below w.1.size w wr):=bf.out.trans (s.mono t7);by_cases r:j<K.n
  ·obtain⟨H,g,rfl,E,D⟩:=af.at_ t7;have a4:wr.cell? ⟨H,g+j,none⟩=some (.slice (a8 j) (t j) (a9 j)):=by rw[bd.out.cell (p:=⟨H,g+j,none⟩) E];have:=(D j r).2;simpa using this
   have X:=(af.data j r).below bd.out;have bs:=b9.out j r;have bx:(0:Int)<=(j:Int):=t7;have bz:(j:Int)< (K.n:Int):=t7;have aS:Hid _:=hx;have aB:Hid _:=s;have L:Hid _:=F;have bg:Hid _:=X;clear hx s F D af U X;go_wp2_with fail
   go_region_law (first
    |(refine jS (w0:=wr) rfl _ _ 22 rfl 0 56 (w.1.size+1+1+1) underlying22 qm uv a j c zI bb t bc K.S rfl L.out ?_ (fun _=>0) T (t j) S (K.S j) ?_ bg.out.byte ?_ _ rfl ?_ ?_ ?_;exact b;exact I;omega;rfl;omega;intro l n f W M V N;have u:=kl b L.out.row aS.out uv N;have a6:f.cell? ⟨w.1.size+1+1,0,none⟩=some (.slice a j c):=(by rw[CV f _ 0 _ _ _ u];rfl);have a7:f.frozen? ⟨w.1.size+1+1,0,none⟩=false:=frozen_of_row f _ 0 _ _ u;clear V N)
    |(rw[BC (show Region.wanted _ _=true from rfl)];go_wp2_with (go_at_call 83;refine(pF (a8 j) (t j) (a9 j) (K.S j) _ (bg.out.below t2.drew) bs).mono ?_;rintro e G ⟨T,S,rfl,b,I⟩;simp only[DR]at b I;replace b:=l4 b;have bR:G.cell? ⟨w.1.size+1+1,0,none⟩=some (.slice a j c):=(by rw[b.cell (p:=⟨w.1.size+1+1,0,none⟩) b5];exact k0);have cg:(G.alloc (.cells #[.slice T (t j) S] 56)).cell? ⟨w.1.size+1+1,0,none⟩=some (.slice a j c):=(by rw[((Bn G.1.size G).alloc t1 _).cell (p:=⟨w.1.size+1+1,0,none⟩) (ws b5 b.size)];exact bR))))
   all_goals
    have aX:Below (w.1.size+1+1) R (f.setCell ⟨w.1.size+1+1,0,none⟩ (.slice l (j+1) n)):=
     ((aB.out.trans (b.mono t7)).trans (M.mono t7)).setCell (p:=⟨w.1.size+1+1,0,none⟩) t1 _
    have ba:(f.setCell ⟨w.1.size+1+1,0,none⟩ (.slice l (j+1) n)).heap[w.1.size+1+1]?=some (.cells #[.slice l (j+1) n,.slice none 0 0] 35 (0,0)):=heap_setCell_same f _ 0 _ _ _ u;have P:=W.setOther u uv uv 0 (.slice l (j+1) n);rw[ig,ig]at P;have ch:=P.congr' (I':=zI) (L':=K.S) (fun i a1 q cb=>absurd cb t7) (fun i a1=>rfl);clear a6 a7 u W M k0 a4 bR cg b I P;go_wp2;go_roundw
    case rel=>exact⟨j+1,l,n,_,_,t7,by go_num,aX,ba,ch⟩
    case measure=>simp[intOf];omega
  ·have e:j=K.n:=t7;subst e;have ad:wr.cell? ⟨w.1.size,1,none⟩=some (.slice o K.m pc):=by rw[s.cell (p:=⟨w.1.size,1,none⟩) (by show w.1.size<_;omega)];exact b7.out
   obtain⟨Q,bB⟩:=aa wr;subst bB;have aT:Hid (ORecs 0 56 (w.1.size+1+1+1) Q a K.n c zI bb t bc K.S):=F;have ak:Hid _:=s;have an:=hx;clear F s hx af k0;go_wp2_with fail;go_loopw [7,26] (fun _ i wr=> ∃j h m Z ab,j<=K.m/\i= .int .i64 (j:Nat)/\Below (w.1.size+1+1) R wr/\Q.1.size<=wr.1.size/\wr.heap[w.1.size+1+1]?=some (.cells #[.slice a K.n c,.slice h j m] 35 (0,0))/\ORecs 0 56 (w.1.size+1+1+1) wr a K.n c zI bb t bc K.S/\ORecs 1 133 Q.1.size wr h j m (aI K) Z d ab K.D) (fun _ i _=>K.m-(intOf i).toNat)
   case atStart=>exact⟨0,none,0,fun _=>none,fun _=>0,u6 _,rfl,ak.out,t1,an,aT.out,jU _ _ _ _ _ _ _ _ _⟩
   case round=>
    clear an ak ad;obtain⟨j,h,m,Z,ab,a2,rfl,s,cp,hx,F,J⟩:=hrel;have k0:wr.cell? ⟨w.1.size+1+1,0,none⟩=some (.slice a K.n c):=by rw[CV wr _ 0 _ _ _ hx];rfl
    have a4:wr.cell? ⟨w.1.size+1+1,1,none⟩=some (.slice h j m):=by rw[CV wr _ 1 _ _ _ hx];rfl
    have b6:w.1.size+1+1<wr.1.size:=(vR.1 hx).1;have ac:Hid (Below w.1.size w wr):=bf.out.trans (s.mono t7);by_cases r:j<K.m
    ·obtain⟨H,g,rfl,E,D⟩:=U.at_ t7;have ce:wr.cell? ⟨H,g+j*2,none⟩=some (.int .i64 (K.At j)):=by rw[ac.out.cell (p:=⟨H,g+j*2,none⟩) E];exact(D j r).1 0 t7
     have cf:wr.cell? ⟨H,g+j*2+1,none⟩=some (.slice (A j) (d j) (B j)):=by rw[ac.out.cell (p:=⟨H,g+j*2+1,none⟩) E];exact(D j r).2
     have X:=(U.data j r).below ac.out;have bn:=b8.out j r;have bx:(0:Int)<=(j:Int):=t7;have bz:(j:Int)< (K.m:Int):=t7;have O:=(Bn wr.1.size wr).alloc t1 (.cells #[.int .i64 (K.At j),.slice (A j) (d j) (B j)] 133);have cD:(wr.alloc (.cells #[.int .i64 (K.At j),.slice (A j) (d j) (B j)] 133)).1.size=wr.1.size+1:=by simp
     have a5:(wr.alloc (.cells #[.int .i64 (K.At j),.slice (A j) (d j) (B j)] 133)).heap[wr.1.size]?=some (.cells #[.int .i64 (K.At j),.slice (A j) (d j) (B j)] 133 (0,0)):=DI wr _;have ag:=hx;rw[<-O.block _ b6]at ag;have b1:=F.below O;have aA:=J.below O;have b2:=X.below O;clear D U X hx F J;go_wp2_with fail;generalize bv:wr.alloc (.cells #[.int .i64 (K.At j),.slice (A j) (d j) (B j)] 133)=x at*;clear bv;have aB:Hid (Below (w.1.size+1+1) R x):=s.trans (O.mono t7);have cq:Q.1.size<=x.1.size:=t7;have bC:x.cell? ⟨wr.1.size,0,none⟩=some (.int .i64 (K.At j)):=by rw[CV x _ 0 _ _ _ a5];rfl
     have bE:x.cell? ⟨wr.1.size,1,none⟩=some (.slice (A j) (d j) (B j)):=by rw[CV x _ 1 _ _ _ a5];rfl
     have bF:x.cell? ⟨w.1.size+1+1,1,none⟩=some (.slice h j m):=by rw[CV x _ 1 _ _ _ ag];rfl
     have ap:∀v:World,Below x.1.size x v->v.cell? ⟨wr.1.size,0,none⟩=some (.int .i64 (K.At j))/\v.cell? ⟨wr.1.size,1,none⟩=some (.slice (A j) (d j) (B j))/\v.cell? ⟨w.1.size+1+1,1,none⟩=some (.slice h j m):=fun v a0=>by
      refine⟨?_,?_,?_⟩
      ·rw[a0.cell (p:=⟨wr.1.size,0,none⟩) (by show wr.1.size<_;omega)];exact bC
      ·rw[a0.cell (p:=⟨wr.1.size,1,none⟩) (by show wr.1.size<_;omega)];exact bE
      ·rw[a0.cell (p:=⟨w.1.size+1+1,1,none⟩) (by show w.1.size+1+1<_;omega)];exact bF
     have am:Hid _:=ap;have aS:Hid _:=ag;have L:Hid _:=b1;have C:Hid _:=aA;have bk:Hid _:=b2;clear ap ag b1 aA b2 O s a5 k0 a4 ce cf
     go_region_law (first
      |(refine jS (w0:=x) rfl _ _ 33 rfl 1 133 Q.1.size underlying33 qB uv h j m (aI K) Z d ab K.D rfl C.out ?_ (aI K j) T (d j) S (K.D j) ?_ bk.out.byte ?_ _ rfl ?_ ?_ ?_;exact b;exact I;omega;rfl;omega;intro l n f W M V N;have u:=kl b C.out.row aS.out uv N;have a6:f.cell? ⟨w.1.size+1+1,1,none⟩=some (.slice h j m):=(by rw[CV f _ 1 _ _ _ u];rfl);have a7:f.frozen? ⟨w.1.size+1+1,1,none⟩=false:=frozen_of_row f _ 1 _ _ u;have b3:=aT.out.kept3 ((L.out.below b).below ((Bn G.1.size G).alloc t1 _)) N (fun k a3=>(fA C.out.row a3).1);clear V N)
      |(rw[BC (show Region.wanted _ _=true from rfl)];go_wp2_with (go_at_call 83;refine(pF (A j) (d j) (B j) (K.D j) _ (bk.out.below t2.drew) bn).mono ?_;rintro e G ⟨T,S,rfl,b,I⟩;simp only[DR]at b I;replace b:=l4 b;obtain⟨bS,bT,bW⟩:=am.out G b;obtain⟨bX,bY,bZ⟩:=am.out (G.alloc (.cells #[.int .i64 (K.At j),.slice T (d j) S] 133)) (b.alloc b.size _))))
     all_goals
      have aX:Below (w.1.size+1+1) R (f.setCell ⟨w.1.size+1+1,1,none⟩ (.slice l (j+1) n)):=
       ((aB.out.trans (b.mono t7)).trans (M.mono t7)).setCell (p:=⟨w.1.size+1+1,1,none⟩) t1 _
      have cn:Q.1.size<=(f.setCell ⟨w.1.size+1+1,1,none⟩ (.slice l (j+1) n)).1.size:=by rw[World.size_setCell];have:=b.size;have:=M.size;omega
      have ba:(f.setCell ⟨w.1.size+1+1,1,none⟩ (.slice l (j+1) n)).heap[w.1.size+1+1]?=some (.cells #[.slice a K.n c,.slice l (j+1) n] 35 (0,0)):=heap_setCell_same f _ 1 _ _ _ u;have P:=W.setOther u uv uv 1 (.slice l (j+1) n);have cm:=b3.setOther u uv uv 1 (.slice l (j+1) n);rw[ig,ig,ig]at P;clear a6 a7 u W M bS bT bW bX bY bZ bC bE bF b I b3;go_wp2;go_roundw
      case rel=>exact⟨j+1,l,n,_,_,t7,by go_num,aX,cn,ba,cm,P⟩
      case measure=>simp[intOf];omega
    ·have e:j=K.m:=t7;subst e;have Y:wr.heap[w.1.size+1]?=some (.cells #[.slice none 0 0,.slice none 0 0] 35 (0,0)):=by rw[s.block _ (xc _)];exact ca.out
     have l0:wr.cell? ⟨w.1.size+1,0,none⟩=some (.slice none 0 0):=by rw[CV wr _ 0 _ _ _ Y];rfl
     have cc:wr.cell? ⟨w.1.size+1,1,none⟩=some (.slice none 0 0):=by rw[CV wr _ 1 _ _ _ Y];rfl
     have cr:wr.frozen? ⟨w.1.size+1,0,none⟩=false:=frozen_of_row wr _ 0 _ _ Y;have f1:wr.frozen? ⟨w.1.size+1,1,none⟩=false:=frozen_of_row wr _ 1 _ _ Y;have L:Hid _:=F;have C:Hid _:=J;clear F J s hx Y U;go_wp2;have cj:=(L.out.setBelow (q:=⟨w.1.size+1,0,none⟩) (by show w.1.size+1<_;omega) (.slice a K.n c)).setBelow (q:=⟨w.1.size+1,1,none⟩) (by show w.1.size+1<_;omega) (.slice h K.m m);have ck:=(C.out.setBelow (q:=⟨w.1.size+1,0,none⟩) (by show w.1.size+1<_;omega) (.slice a K.n c)).setBelow (q:=⟨w.1.size+1,1,none⟩) (by show w.1.size+1<_;omega) (.slice h K.m m);have cl:=(ac.out.setCell (p:=⟨w.1.size+1,0,none⟩) (xa _) (.slice a K.n c)).setCell (p:=⟨w.1.size+1,1,none⟩) (xa _) (.slice h K.m m);refine BB (v:= .agg #[.slice a K.n c,.slice h K.m m]) (by simp[results,results43,go_sem,l0,cc]) rfl ⟨⟨a,c,bb,t,bc,h,m,Z,d,ab⟩,rfl,cl,⟨cj.mono t7,ck.mono t7,fun i j a1 a2 k a3 bA=> ?_⟩,rfl,rfl⟩;have cz:=(fA (aT.out.data i a1) a3).2;have cA:=(fA (C.out.data j a2) bA).1;omega
theorem BP(d K w)(c:RDisk w d K)(b:Small d K):
 Calls prog 43 #[av d K] w fun e w'=> ∃a,e= .returned (av a K)/\Below w.1.size w w'/\ODisk w.1.size w' a K/\a.sN=d.sN/\a.pN=d.pN:=
 BN d.sa d.pa d.sc d.pc d.sA d.pA d.sN d.sC d.pN d.pC K w c.safe c.pend b.n b.m b.sN b.pN
def iS(z:Int):Nat:=if 1<=z/\z<=4096 then z.toNat else 0
def nH(z:Int):Bool:=decide (1<=z/\z<=4096)
theorem BQ(a w):
 Calls prog 90 #[.int .i64 a] w fun e w'=> ∃d,e= .returned (.tuple #[av d (bV (iS a)),.bool (nH a)])/\Below w.1.size w w'/\ODisk w.1.size w' d (bV (iS a)):=by
 by_cases f:1<=a/\a<=4096
 ·obtain⟨n,rfl⟩:=xb (show 0<=a by omega);have b:iS (n:Int)=n:=by unfold iS;rw[BC f];simp
  have c:nH (n:Int)=true:=B2 f;rw[b,c];exact uM n w t7 t7
 ·have b:iS a=0:=by unfold iS;rw[BX f]
  have c:nH a=false:=B1 f;rw[b,c];exact BM a w t7
