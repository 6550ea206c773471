import Derived.Test.YtglbanolhhjjiaaGreatDoorFo6
namespace Go.Proofs.YtglbanolhhjjiaaGreatDoor
open Go.Proofs.Tryz
open Go.RowKit
set_option linter.unusedVariables false
set_option maxRecDepth 100000
set_option maxHeartbeats 32000000
theorem OnlyB.thenB{g B a b c}(h:OnlyB g a b)(d:Below B b c)(f:a.1.size<=B):OnlyB g a c:=
 ⟨d.os.trans h.os,d.tape.trans h.tape,d.output.trans h.output,wg h.size d.size,fun k e i=>(d.block k (wQ e f)).trans (h.block k e i)⟩
theorem uF{l}(h:IsB l)(i){u}(b:0<=u)(c:u<256):IsB (l.set i u):=fun j=>by
 rw[yc,BO];by_cases e:i=j
 ·rw[B4 e];by_cases a:i<l.length
  ·rw[B4 a];exact⟨b,c⟩
  ·rw[CH a];exact⟨vo,vo⟩
 ·rw[CH e];have:=h j;rwa [yc]at this
theorem uG{B g w n c l}(h:Own B w (some ⟨g,0,none⟩) n c l)(i u):Own B (w.setCell ⟨g,i,none⟩ (.int .u8 u)) (some ⟨g,0,none⟩) n c (l.set i u):=by
 have a:=(World.ownsRow.stored h i (.int .u8 u)).1;have e:(ob l).set i (.int .u8 u)=ob (l.set i u):=by unfold ob;rw[List.map_set]
 rw[e]at a;exact a
def rdN(n p:Nat):Nat->Nat
 |0=>p
 |j+1=>rdP n (rdN n p j)
def rdL(l:List Int)(n p:Nat):Nat->List Int
 |0=>[]
 |j+1=>rdL l n p j++[l.getD (rdN n p j) 0]
theorem qx(l n p):∀j,(rdL l n p j).length=j
 |0=>rfl
 |j+1=>by simp[rdL,qx l n p j]
def iR(l:List Int)(p:Nat):Nat:=(l.getD p 0%5).toNat
def ki(l:List Int)(n p:Nat):List Int:=rdL l n (rdP n p) (iR l p)
def qy(l:List Int)(n p:Nat):Nat:=rdN n (rdP n p) (iR l p)
theorem By{l v}(h:IsB l)(a:0<=v)(b:v<256):IsB (l++[v]):=dC h (jP a b)
theorem qz{l}(h:IsB l)(n p):∀j,IsB (rdL l n p j)
 |0=>eX
 |j+1=>By (qz h n p j) (h _).1 (h _).2
theorem Bz(g a n c l p w)(h:IsRd w g a n c l p):
 Calls prog 60 #[.pointer (some ⟨g,0,none⟩)] w fun e w'=> ∃b d,e= .returned (.slice b (iR l p) d)/\OnlyB g w w'/\IsRd w' g a n c l (qy l n p)/\Own w.1.size w' b (iR l p) d (ki l n p):=by
 have Y:=h.bs.byte p;have Z:=h.lt;go_enter func60,ntmps60;go_wp2_with fail;refine(cZ g a n c l p w h).mono ?_;rintro e w1 ⟨rfl,x,O⟩;obtain⟨m,K⟩:∃m:Nat,l.getD p 0%5=(m:Int):=⟨(l.getD p 0%5).toNat,uA⟩;have R:Hid (iR l p=m):=by show iR l p=m;unfold iR;rw[K];rfl
 generalize l.getD p 0=k at*;obtain⟨k0,an⟩:=Y;have L:k.tmod 5=k%5:=A3 k0;have ae:m<=4:=uA;have F:=(B2 w1.1.size w1).alloc t6 (.cells #[] 5);have f:=x.thenB F x.size;have u:=O.below F;have Q:=eI w1 [] 0 rfl uA w.1.size x.size;rw[K]at L;have H:Hid (IsRd w g a n c l p):=h;clear F x O h;go_wp2_with fail;go_loopw [4,5] (fun o i wr=> ∃(j:Nat)(b:Option Addr)(d:Nat),j<=m/\i= .int .i64 (j:Nat)/\o= .slice b j d/\OnlyB g w wr/\IsRd wr g a n c l (rdN n (rdP n p) j)/\Own w.1.size wr b j d (rdL l n (rdP n p) j)) (fun _ i _=>m-(intOf i).toNat)
 case atStart=>exact⟨0,_,0,wa _,rfl,rfl,f,u,Q⟩
 case round=>
  obtain⟨j,b,d,am,rfl,rfl,r,s,t⟩:=hrel;clear f u Q;by_cases ad:j<m
  ·have D:(j:Int)< (m:Int):=uA;have ab:=s.bs.byte (rdN n (rdP n p) j);go_wp2_with fail;refine(cZ g a n c l _ wr s).mono ?_;rintro e G ⟨rfl,f,u⟩;have M:(Value.slice b j d).ownBlock≠some g:=fun e=>by have:=(Ct t g e).1;omega
   have z:=f.own t M;have ac:=wg r.size f.size;have I:Hid _:=r.trans f;have A:Hid _:=u;have y:Hid _:=z;have S:Hid (rdL l n (rdP n p) (j+1)=rdL l n (rdP n p) j++[l.getD (rdN n (rdP n p) j) 0]):=rfl;generalize l.getD (rdN n (rdP n p) j) 0=v at*;obtain⟨af,ag⟩:=ab;clear t s r f u z;go_wp2_with (at_builtin;refine eu rfl _ _ rfl w.1.size b j d (rdL l n (rdP n p) j) rfl ?own _ 1 1 [v] rfl ?bs ?len ?B ?_)
   case own=>exact CV y.out _
   case bs=>exact fL G v uA uA
   case len=>omega
   case B=>simp;omega
   intro W X ap N J _;have q:=(B2 G.1.size G).alloc t6 (.cells #[.int .u8 v] 5);have C:=(q.mono ac).trans J;have E:=I.out.thenB C t6;have P:=H.out.only E (by rw[C.block g Z];exact A.out.box) A.out.at_;have U:Hid _:=E;have V:Hid _:=P;have T:Hid _:=N;clear N J q C E P I A y;go_wp2;go_roundw
   case rel=>exact⟨j+1,W,X,uA,by go_num,rfl,U.out,V.out,by rw[S.out];exact T.out⟩
   case measure=>simp[intOf];omega
  ·have e:j=m:=uA;subst e;have ak:=uv r (vJ s t);have D:¬(j:Int)< (j:Int):=uA;clear r s t;go_wp2;go_ret;unfold ki qy;rw[R.out];exact⟨b,d,rfl,ak.out⟩
def kyT:List Nat:=[1,2,5,20,40,34,12,3]
def kyM(k:Int):Nat:=kyT.getD (k%8).toNat 0
def kyL(l:List Int)(n p:Nat):List Int:=
 if 1<kyM (l.getD p 0)then((List.replicate (kyM (l.getD p 0)) (97+l.getD p 0/8%6)).set (kyM (l.getD p 0)-1) (97+l.getD p 0/48)).set 0 (97+l.getD (rdP n p) 0%8)
 else List.replicate (kyM (l.getD p 0)) (97+l.getD p 0/8%6)
def kyQ(l:List Int)(n p:Nat):Nat:=if 1<kyM (l.getD p 0)then rdP n (rdP n p)else rdP n p
theorem uH(k):kyM k<=40:=by
 unfold kyM;generalize (k%8).toNat=j
 match j with
 |0|1|2|3|4|5|6|7=>decide
 |j+8=>exact wa _
theorem BA{j}(a:j<8):(#[.int .i64 1,.int .i64 2,.int .i64 5,.int .i64 20,.int .i64 40,.int .i64 34,.int .i64 12,.int .i64 3]:Array Value)[j]?=some (.int .i64 (kyT.getD j 0:Nat)):=by
 match j,a with
 |0,_|1,_|2,_|3,_|4,_|5,_|6,_|7,_=>rfl
theorem BE(j x)(a:0<=x)(b:x<256):IsB (List.replicate j x):=by
 induction j with
 |zero=>exact eX
 |succ j ih=>rw[List.replicate_succ'];exact dC ih (jP a b)
theorem BF{B w a n c l}(h:Own B w a n c l)(j:0<n):∃g,a=some ⟨g,0,none⟩/\B<=g:=by
 rcases h.2 with⟨e,i⟩|⟨g,d,f,e,b,_⟩
 ·omega
 ·cases e;exact⟨g,rfl,b⟩
theorem BG(g a n c l p w)(h:IsRd w g a n c l p):
 Calls prog 101 #[.pointer (some ⟨g,0,none⟩)] w fun e w'=>e= .returned (.string (strOfNums (kyL l n p)))/\OnlyB g w w'/\IsRd w' g a n c l (kyQ l n p):=by
 have bR:=h.bs.byte p;have ba:=h.bs.byte (rdP n p);have bT:=h.lt;go_enter func101,ntmps101;go_wp2_with fail;refine(cZ g a n c l p w h).mono ?_;rintro e w1 ⟨rfl,bm,br⟩;have f:Hid (kyL l n p=if 1<kyM (l.getD p 0)then((List.replicate (kyM (l.getD p 0)) (97+l.getD p 0/8%6)).set (kyM (l.getD p 0)-1) (97+l.getD p 0/48)).set 0 (97+l.getD (rdP n p) 0%8)else List.replicate (kyM (l.getD p 0)) (97+l.getD p 0/8%6)):=rfl;have D:Hid (kyQ l n p=if 1<kyM (l.getD p 0)then rdP n (rdP n p)else rdP n p):=rfl;generalize l.getD p 0=k at*;obtain⟨k0,ce⟩:=bR;obtain⟨m,ag⟩:∃m:Nat,k%8=(m:Int):=⟨(k%8).toNat,uA⟩;have bk:k.tmod 8=(m:Int):=by rw[A3 k0,ag]
 have bg:m<8:=uA;have a0:Hid (kyM k=kyT.getD m 0):=by show kyM k= _;unfold kyM;rw[ag];rfl
 have bY:kyT.getD m 0<=40:=by rw[<-a0.out];exact uH k
 have O:(w1.alloc (.cells #[.int .i64 1,.int .i64 2,.int .i64 5,.int .i64 20,.int .i64 40,.int .i64 34,.int .i64 12,.int .i64 3] 3)).cell? ⟨w1.1.size,m,none⟩=some (.int .i64 (kyT.getD m 0:Nat)):=by
  rw[DC _ _ _ _ _ _ (D6 w1 _)];exact BA bg
 rw[a0.out]at f D;generalize kyT.getD m 0=M at*;have b7:(0:Int)<=(m:Int):=uA;have b8:(m:Int)<8:=uA;have H:Hid (IsRd w g a n c l p):=h;have X:Hid _:=bm;have R1:Hid _:=br;obtain⟨u,ae⟩:∃u:Int,u=k/8%6:=⟨_,rfl⟩;obtain⟨R,af⟩:∃R:Int,R=k/48:=⟨_,rfl⟩;have b5:k.tdiv 8=k/8:=z2 k0;have bS:k.tdiv 48=R:=by rw[af];exact z2 k0
 have b6:(k/8).tmod 6=u:=by rw[ae];exact A3 uA
 have bc:0<=u/\u<=5:=uA;have bd:0<=R/\R<=5:=uA;rw[<-ae,<-af]at f;clear h bm br ag ae af;obtain⟨b1,b2⟩:=bc;obtain⟨b3,b4⟩:=bd;obtain⟨C,F⟩:=aa (w1.alloc (.cells #[.int .i64 1,.int .i64 2,.int .i64 5,.int .i64 20,.int .i64 40,.int .i64 34,.int .i64 12,.int .i64 3] 3));have an:Below w1.1.size w1 C:=by rw[F];exact bAl _ _
 have K:Hid (OnlyB g w C):=X.out.thenB an X.out.size;have a3:Hid (IsRd C g a n c l (rdP n p)):=R1.out.below an;go_upto_region 3 with fail
 rw[<-F];clear F an O X R1 bk;have ap:=(B2 C.1.size C).alloc t6 (.cells #[] 5);have a1:=uv (K.out.thenB ap K.out.size) (vJ (a3.out.below ap) (eI C [] 0 rfl uA w.1.size K.out.size));clear ap;go_wp2_with fail;go_loopw [5,6] (fun o i wr=> ∃(j:Nat)(L:Option Addr)(N:Nat),j<=M/\i= .int .i64 (j:Nat)/\o= .slice L j N/\OnlyB g w wr/\IsRd wr g a n c l (rdP n p)/\Own w.1.size wr L j N (List.replicate j (97+u))) (fun _ i _=>M-(intOf i).toNat)
 case atStart=>exact⟨0,_,0,wa _,rfl,rfl,a1.out⟩
 case round=>
  obtain⟨j,L,N,cc,rfl,rfl,x,z,r⟩:=hrel;have bX:=x.size;clear a1 K a3;by_cases cb:j<M
  ·have E:(j:Int)< (M:Int):=uA;have J:=uv x z;have Q:Hid _:=r;clear x z r;go_wp2_with (at_builtin;refine eu rfl _ _ rfl w.1.size L j N (List.replicate j (97+u)) rfl ?own _ 1 1 [97+u] rfl ?bs ?len ?B ?_)
   case own=>exact CV Q.out _
   case bs=>exact fL wr _ uA uA
   case len=>omega
   case B=>simp;omega
   intro bB bE cf bn a5 _;have q:=(B2 wr.1.size wr).alloc t6 (.cells #[.int .u8 (97+u)] 5);have ac:=(q.mono bX).trans a5;have ak:=J.out.1.thenB ac t6;have bu:=H.out.only ak (by rw[ac.block g bT];exact J.out.2.box) J.out.2.at_;have V:=uv ak (vJ bu bn);have bA:Hid (List.replicate (j+1) (97+u)=List.replicate j (97+u)++[97+u]):=List.replicate_succ';clear bn a5 q ac ak bu J Q;go_wp2;go_roundw
   case rel=>exact⟨j+1,bB,bE,uA,by go_num,rfl,V.out.1,V.out.2.1,by rw[bA.out];exact V.out.2.2⟩
   case measure=>simp[intOf];omega
  ·have e:j=M:=uA;subst e;have A:IsB (List.replicate j (97+u)):=BE _ _ uA uA;by_cases a8:1<j
   ·rw[B4 a8]at f D;obtain⟨b,rfl,bf⟩:=BF r uA;obtain⟨d,T⟩:∃d:Nat,d=j-1:=⟨_,rfl⟩;rw[<-T]at f;have ca:((j:Int)-1)=(d:Int):=uA;have S:g≠b:=uA;have aB:=uG r d (97+R);have bC:wr.cell? ⟨b,d,none⟩=some (.int .u8 (97+u)):=by
     rw[DP r d uA];simp[ob,show d<j by omega]
    have f1:=World.ownsRow.frozenAt r d;obtain⟨aT,s⟩:=aa (wr.setCell ⟨b,d,none⟩ (.int .u8 (97+R)));have a6:Below w.1.size wr aT:=by rw[s];exact(B2 w.1.size wr).setCell (p:=⟨b,d,none⟩) bf _
    have bx:aT.heap[g]?=wr.heap[g]?:=by rw[s];exact Below.heap_setCell _ _ _ _ S
    rw[<-s]at aB;have Y:=x.thenB a6 t6;have ab:=H.out.only Y (bx.trans z.box) z.at_;have I:=uv Y (vJ ab aB);have a2:=cZ g a n c l (rdP n p) aT ab;have b9:(0:Int)<=(d:Int):=uA;have hi4:(d:Int)< (j:Int):=uA;have E:¬(j:Int)< (j:Int):=uA;have a9:(1:Int)< (j:Int):=uA;clear x z r aB Y ab a6 bx T;go_upto_region 10 with fail
    rw[<-s];clear s bC f1;go_wp2_with fail;refine a2.mono ?_;rintro e G ⟨rfl,am,aA⟩;clear a2;generalize l.getD (rdP n p) 0=v at*;obtain⟨v0,v1⟩:=ba;have bl:v.tmod 8=v%8:=A3 v0;obtain⟨aX,bb⟩:∃aX:Int,aX=v%8:=⟨_,rfl⟩;have bZ:0<=aX:=uA;have b0:aX<8:=uA;rw[<-bb]at bl f;clear bb;have P:=am.own I.out.2.2 (fun bF=>by have:=(Ct I.out.2.2 g bF).1;omega);have aS:=uG P 0 (97+aX);have ad:∃y,G.cell? ⟨b,0,none⟩=some (.int .u8 y):=by
     rw[DP P 0 uA];cases bW:(List.replicate j (97+u)).set d (97+R)with
     |nil=>have:=C1 List.length bW;simp at this;omega
     |cons y cg=>exact⟨y,rfl⟩
    obtain⟨y,ad⟩:=ad;have bP:=World.ownsRow.frozenAt P 0;obtain⟨bv,t⟩:=aa (G.setCell ⟨b,0,none⟩ (.int .u8 (97+aX)));have a7:Below w.1.size G bv:=by rw[t];exact(B2 w.1.size G).setCell (p:=⟨b,0,none⟩) bf _
    have bz:bv.heap[g]?=G.heap[g]?:=by rw[t];exact Below.heap_setCell _ _ _ _ S
    rw[<-t]at aS;have Z:=(I.out.1.trans am).thenB a7 t6;have a4:=H.out.only Z (bz.trans aA.box) aA.at_;have U:=jn (aS.bs (uF (uF A _ uA uA) 0 uA uA));have W:=uv Z a4;rw[<-f.out]at U;clear I am aA P aS a7 bz Z a4 A f;go_upto_region 11 with fail
    rw[<-t];clear t ad bP;go_wp2_with fail;go_ret;rw[D.out];exact⟨rfl,W.out⟩
   ·rw[CH a8]at f D;have U:=jn (r.bs A);have W:=uv x z;rw[<-f.out]at U;have E:¬(j:Int)< (j:Int):=uA;have a9:¬(1:Int)< (j:Int):=uA;clear x z r A f;go_wp2_with fail;go_ret;rw[D.out];exact⟨rfl,W.out⟩
theorem qA(k:Nat)(g)(f:g=(k:Int))(j:k<=1048576)(w):
 (Instr.makeSlice 56 (.int .i64 g) (.int .i64 g)).run prog w= .ok (.slice (some ⟨w.1.size,0,none⟩) k k) (w.alloc (.cells (madeCells #[.int .u8 0] k) 5)):=by
 obtain⟨i,d,a,b,c⟩:=DB jM;subst f;have e:=run_make (P:=prog) w 56 5 i _ underlying56 d a .i64 .i64 k k uA (A4 _) (by rw[c];omega) uA;rw[e,b];simp[Value.cells]
theorem uI(k)(a:k<=1048576)(w:World):Bs (w.alloc (.cells (madeCells #[.int .u8 0] k) 5)) (some ⟨w.1.size,0,none⟩) k k (List.replicate k 0):=by
 have e:madeCells #[Value.int .u8 0] k=(ob (List.replicate k 0)).toArray:=by
  apply Array.toList_inj.1;rw[toList_madeCells_one];simp[ob]
 rw[e];exact mK w _ k vo a (lH k)
def vaT:List Nat:=[0,1,13,70,46,33]
def vaM(k:Int):Nat:=vaT.getD (k%6).toNat 0
def vaS(M:Nat):ByteArray:=if M=70 then strOfNums (List.replicate 69 0)++⟨#[122]⟩else strOfNums (List.replicate M 0)++⟨#[]⟩
theorem uJ(k):vaM k<=70:=by
 unfold vaM;generalize (k%6).toNat=j
 match j with
 |0|1|2|3|4|5=>decide
 |j+6=>exact wa _
theorem BH{j}(a:j<6):(#[.int .i64 0,.int .i64 1,.int .i64 13,.int .i64 70,.int .i64 46,.int .i64 33]:Array Value)[j]?=some (.int .i64 (vaT.getD j 0:Nat)):=by
 match j,a with
 |0,_|1,_|2,_|3,_|4,_|5,_=>rfl
theorem BI(g a n c l p w)(h:IsRd w g a n c l p):
 Calls prog 102 #[.pointer (some ⟨g,0,none⟩)] w fun e w'=>e= .returned (.string (vaS (vaM (l.getD p 0))))/\OnlyB g w w'/\IsRd w' g a n c l (rdP n p):=by
 have I:=h.bs.byte p;go_enter func102,ntmps102;go_wp2_with fail;refine(cZ g a n c l p w h).mono ?_;rintro e w1 ⟨rfl,F,N⟩;obtain⟨k,D⟩:=aa (l.getD p 0);have H:Hid (vaM (l.getD p 0)=vaM k):=by show vaM _= _;rw[D]
 rw[<-D]at I ⊢;clear D;obtain⟨k0,V⟩:=I;obtain⟨m,E⟩:∃m:Nat,k%6=(m:Int):=⟨(k%6).toNat,uA⟩;have K:k.tmod 6=(m:Int):=by rw[A3 k0,E]
 have J:m<6:=uA;have B:Hid (vaM k=vaT.getD m 0):=by show vaM k= _;unfold vaM;rw[E];rfl
 have R:vaT.getD m 0<=70:=by rw[<-B.out];exact uJ k
 have y:(w1.alloc (.cells #[.int .i64 0,.int .i64 1,.int .i64 13,.int .i64 70,.int .i64 46,.int .i64 33] 3)).cell? ⟨w1.1.size,m,none⟩=some (.int .i64 (vaT.getD m 0:Nat)):=by
  rw[DC _ _ _ _ _ _ (D6 w1 _)];exact BH J
 generalize vaT.getD m 0=M at*;have T:(0:Int)<=(m:Int):=uA;have U:(m:Int)<6:=uA;obtain⟨q,v⟩:=aa (w1.alloc (.cells #[.int .i64 0,.int .i64 1,.int .i64 13,.int .i64 70,.int .i64 46,.int .i64 33] 3));have G:Below w1.1.size w1 q:=by rw[v];exact bAl _ _
 have x:Hid (OnlyB g w q/\IsRd q g a n c l (rdP n p)):=⟨F.thenB G F.size,N.below G⟩;clear h F N E;go_upto_region 3 with fail
 rw[<-v];clear v G y K;refine az (fun _=>True) (fun _=>false) vk ?_;have t:=bDr q;have j:Hid (OnlyB g w q.drew/\IsRd q.drew g a n c l (rdP n p)):=⟨x.out.1.thenB t x.out.1.size,x.out.2.below t⟩;clear t x;generalize q.drew=i at*;by_cases r:M=70
 ·subst r;have P:((70:Nat):Int).tdiv 70=1:=uB;refine ai 0 trivial ?_;refine ai 1 trivial ?_;refine ai 6 trivial ?_;refine aM 2 (.int .i64 1) trivial ?h2 ?_
  case h2=>intro u _;go_simp;rfl
  refine aM 3 (.int .i64 69) trivial ?h3 ?_
  case h3=>intro u _;go_simp;rfl
  refine aM 7 (.int .i64 1) trivial ?h7 ?_
  case h7=>intro u _;go_simp;rfl
  refine aM 8 (.string ⟨#[122]⟩) trivial ?h8 ?_
  case h8=>intro u _;go_simp;rfl
  have O:=qA 69 69 rfl uA i;have z:=jn (uI 69 uA i);have o:=(B2 i.1.size i).alloc t6 (.cells (madeCells #[.int .u8 0] 69) 5);have A:=uv (j.out.1.thenB o j.out.1.size) (j.out.2.below o);obtain⟨s,f⟩:=aa (strOfNums (List.replicate 69 0));have L:¬9223372036854775807<s.size+1:=by rw[f,C0,List.length_replicate];omega
  rw[<-f]at z;have C:Hid (vaS (vaM (l.getD p 0))=s++⟨#[122]⟩):=by show vaS _= _;rw[H.out,B.out,f];rfl
  clear o j f;refine ah 4 fun d b=> ?_;go_wp2_with fail;generalize i.alloc (.cells (madeCells #[.int .u8 0] 69) 5)=Q at*;refine ao b ?_;clear b d;refine ah 5 fun d b=> ?_;go_wp2_with fail;refine ao b ?_;clear b d;refine ah 9 fun d b=> ?_;go_wp2_with fail;refine ao b ?_;clear b d;refine ah 10 fun d b=> ?_;go_wp2_with fail;refine aU b ?_;clear b d;go_wp2_with fail;go_ret;rw[C.out];exact⟨rfl,A.out⟩
 ·have P:(M:Int).tdiv 70=0:=by rw[z2 uA];omega
  have S:M<70:=uA;refine ai 0 trivial ?_;refine ai 1 trivial ?_;refine ai 6 trivial ?_;refine aM 2 (.int .i64 0) trivial ?h2 ?_
  case h2=>intro u _;go_simp;try rfl
  refine aM 3 (.int .i64 M) trivial ?h3 ?_
  case h3=>intro u _;go_simp;rw[IntKind.wrap_i64];omega
  refine aM 7 (.int .i64 0) trivial ?h7 ?_
  case h7=>intro u _;go_simp;try rfl
  refine aM 8 (.string ⟨#[]⟩) trivial ?h8 ?_
  case h8=>intro u _;go_simp;rfl
  have O:=qA M M rfl uA i;have z:=jn (uI M uA i);have o:=(B2 i.1.size i).alloc t6 (.cells (madeCells #[.int .u8 0] M) 5);have A:=uv (j.out.1.thenB o j.out.1.size) (j.out.2.below o);obtain⟨s,f⟩:=aa (strOfNums (List.replicate M 0));have L:¬9223372036854775807<s.size+0:=by rw[f,C0,List.length_replicate];omega
  rw[<-f]at z;have C:Hid (vaS (vaM (l.getD p 0))=s++⟨#[]⟩):=by show vaS _= _;rw[H.out,B.out,f];unfold vaS;rw[CH r]
  clear o j f;refine ah 4 fun d b=> ?_;go_wp2_with fail;generalize i.alloc (.cells (madeCells #[.int .u8 0] M) 5)=Q at*;refine ao b ?_;clear b d;refine ah 5 fun d b=> ?_;go_wp2_with fail;refine ao b ?_;clear b d;refine ah 9 fun d b=> ?_;go_wp2_with fail;refine ao b ?_;clear b d;refine ah 10 fun d b=> ?_;go_wp2_with fail;refine aU b ?_;clear b d;go_wp2_with fail;go_ret;rw[C.out];exact⟨rfl,A.out⟩
def jy(N:Nat->Nat):Nat->Nat
 |0=>0
 |k+1=>jy N k+N k
theorem BJ:(prog.info? 133).map (fun i=>(i.zero,i.size,i.bytes))=some (some (.agg #[.int .i64 0,.slice none 0 0]),2,32):=vk
theorem l4{B w w'}(h:Below B w.drew w'):Below B w w':=⟨h.os,h.tape,h.output,h.size,h.block⟩
theorem fA{w:World}{B e size:Nat}{v n xs}(h:w.ownsRow B e size v n xs){k}(a:v.ownBlock=some k):B<=k/\k<w.1.size:=by
 rcases h.2 with⟨rfl,_⟩|⟨g,f,c,rfl,b,d,_⟩
 ·simp[Value.ownBlock]at a
 ·simp[Value.ownBlock]at a;subst a;exact⟨b,(wy.1 d).1⟩
theorem l5(p N k):∀j,mk p N k j=k+p*j+jy N j
 |0=>by simp[mk,jy]
 |j+1=>by
  have:=l5 p N k j;have e:(p:Int)*((j+1:Nat):Int)=p*j+p:=by rw[Int.natCast_add,Int.mul_add];simp
  simp only[mk,jy];rw[this,e];simp;omega
theorem Small.congr{d g K}(h:Small d K)(i:g.sN=d.sN)(j:g.pN=d.pN):Small g K:=by
 obtain⟨a,b,c,e,f⟩:=h;unfold dmk at f;exact⟨a,b,by rw[i];exact c,by rw[j];exact e,by unfold dmk;rw[i,j];exact f⟩
theorem jz{w:World}{B e size:Nat}{v n xs}(h:w.ownsRow B e size v n xs){g f d fr}(j:w.heap[g]?=some (.cells d f fr))(i:e≠f):v.ownBlock≠some g:=by
 intro b;rcases h.2 with⟨rfl,_⟩|⟨l,k,c,rfl,_,a,_⟩
 ·simp[Value.ownBlock]at b
 ·simp[Value.ownBlock]at b;subst b;rw[j]at a;simp at a;exact i a.2.1.symm
theorem BK{w:World}{B e size:Nat}{v n xs}(h:w.ownsRow B e size v n xs){g b a fr}(f:w.heap[g]?=some (.cells a b fr))(d:e≠b){k}(i:v.ownBlock=some k):g≠k:=
 fun c=>jz h f d (by rw[i,c])
theorem ORecs.setBelow{p e B w a n c j f N g L}(h:ORecs p e B w a n c j f N g L){q}(b:q.block<B)(u):ORecs p e B (w.setCell q u) a n c j f N g L:=
 ⟨ownsRow_setCell_below h.row b u,fun i d=>ownsRow_setCell_below (h.data i d) b u,h.byte,h.sep1⟩
def l6:DV:=⟨none,0,fun _=>none,fun _=>0,fun _=>0,none,0,fun _=>none,fun _=>0,fun _=>0⟩
def bV(n:Nat):DK:={n:=n,S:=fun _=>gM,m:=0,At:=fun _=>0,D:=fun _=>[]}
theorem ORecs.setOther{p e B w a n c x t N v L}(h:ORecs p e B w a n c x t N v L){g d l fr}(o:w.heap[g]?=some (.cells l d fr))(q:e≠d)(m:5≠d)(j u):ORecs p e B (w.setCell ⟨g,j,none⟩ u) a n c x t N v L:=by
 have s:Turned (fun k=>k=g) w (w.setCell ⟨g,j,none⟩ u):=⟨rfl,rfl,rfl,vo,fun k b=>Below.heap_setCell _ _ _ _ b⟩;refine h.turned s (fun k b f=> ?_) (fun i r k b f=> ?_)
 ·subst f;exact jz h.row o q b
 ·subst f;exact jz (h.data i r) o m b
theorem uK{wr i:World}{d f}{B e size:Nat}{v n xs}(m:wr.ownsRow B e size v n xs){g b:Nat}{a fr}(c:wr.heap[g]?=some (.cells a b fr))(l:e≠b)(k:(((wr.alloc d).drew).alloc f).grownBy i v.ownBlock):i.heap[g]?=some (.cells a b fr):=by
 have o:=(wy.1 c).1;have p:(((wr.alloc d).drew).alloc f).1.size=wr.1.size+2:=by simp
 rw[k.block g uA (fun j=>jz m c l j.symm),<-c];exact(fK wr d f).block g o
theorem BL{wr k s t B e size v n xs}(q:wr.ownsRow B e size v n xs){p b B' a c x u N w L}(f:ORecs p b B' wr a 0 c x u N w L)(m:e≠b)(l:(((wr.alloc s).drew).alloc t).grownBy k v.ownBlock):ORecs p b B' k a 0 c x u N w L:=by
 refine⟨?_,fun i d=>absurd d uA,fun i d=>absurd d uA,fun i j _ o=>absurd o uA⟩;refine⟨f.row.1,?_⟩;rcases f.row.2 with h2|⟨g,cap,cur,hv,hb,hh,r⟩
 ·exact v7 h2
 ·exact v6 ⟨g,cap,cur,hv,hb,uK q hh m l,r⟩
theorem uM(n:Nat)(w)(aA:1<=n)(aB:n<=4096):
 Calls prog 90 #[.int .i64 n] w fun e w'=> ∃d,e= .returned (.tuple #[av d (bV n),.bool true])/\Below w.1.size w w'/\ODisk w.1.size w' d (bV n):=by
 have an:(1:Int)<=(n:Int):=uA;have ap:(n:Int)<=4096:=uA;have am:=AV;go_enter func90,ntmps90;go_wp2_with fail;have y:Below (w.1.size+1) (w.alloc (.cells #[.slice none 0 0,.slice none 0 0] 35)) ((((w.alloc (.cells #[.slice none 0 0,.slice none 0 0] 35)).alloc (.cells #[] 56)).alloc (.cells #[] 133)).alloc (.cells #[.slice (some ⟨w.1.size+1,0,none⟩) 0 0,.slice (some ⟨w.1.size+1+1,0,none⟩) 0 0] 35)):=
  ((t7.alloc vo _).alloc vo _).alloc vo _
 have z:((((w.alloc (.cells #[.slice none 0 0,.slice none 0 0] 35)).alloc (.cells #[] 56)).alloc (.cells #[] 133)).alloc (.cells #[.slice (some ⟨w.1.size+1,0,none⟩) 0 0,.slice (some ⟨w.1.size+1+1,0,none⟩) 0 0] 35)).heap[w.1.size+1+1+1]?=some (.cells #[.slice (some ⟨w.1.size+1,0,none⟩) 0 0,.slice (some ⟨w.1.size+1+1,0,none⟩) 0 0] 35 (0,0)):=by
  have:=D6 (((w.alloc (.cells #[.slice none 0 0,.slice none 0 0] 35)).alloc (.cells #[] 56)).alloc (.cells #[] 133)) (.cells #[.slice (some ⟨w.1.size+1,0,none⟩) 0 0,.slice (some ⟨w.1.size+1+1,0,none⟩) 0 0] 35);rwa [World.size_alloc,World.size_alloc,World.size_alloc]at this
 have r:=((io 1 133 (w.1.size+1) ((w.alloc (.cells #[.slice none 0 0,.slice none 0 0] 35)).alloc (.cells #[] 56)) vo (aI (bV n)) (fun _=>none) (fun _=>0) (fun _=>0) (bV n).D).below (t7.alloc t6 (.cells #[.slice (some ⟨w.1.size+1,0,none⟩) 0 0,.slice (some ⟨w.1.size+1+1,0,none⟩) 0 0] 35)));have s:=((io 0 56 (w.1.size+1) (w.alloc (.cells #[.slice none 0 0,.slice none 0 0] 35)) vo zI (fun _=>none) (fun _=>0) (fun _=>0) (fun _=>[])).below (fK _ (.cells #[] 133) (.cells #[.slice (some ⟨w.1.size+1,0,none⟩) 0 0,.slice (some ⟨w.1.size+1+1,0,none⟩) 0 0] 35)));rw[World.size_alloc]at s;rw[World.size_alloc,World.size_alloc]at r;go_loopw [5] (fun i wr=> ∃j a c P N Q L,j<=n/\i= .int .i64 (j:Nat)/\Below (w.1.size+1) (w.alloc (.cells #[.slice none 0 0,.slice none 0 0] 35)) wr/\wr.heap[w.1.size+1+1+1]?=some (.cells #[.slice a j c,.slice (some ⟨w.1.size+1+1,0,none⟩) 0 0] 35 (0,0))/\ORecs 0 56 (w.1.size+1) wr a j c zI P N Q L/\(∀i,i<j->L i=gM)/\ORecs 1 133 (w.1.size+1) wr (some ⟨w.1.size+1+1,0,none⟩) 0 0 (aI (bV n)) (fun _=>none) (fun _=>0) (fun _=>0) (bV n).D) (fun i _=>n-(intOf i).toNat)
 case atStart=>exact⟨0,_,_,_,_,_,_,wa _,rfl,y,z,s,fun i g=>absurd g uA,r⟩
 case round=>
  clear y z r s;obtain⟨j,a,c,P,N,Q,L,aS,rfl,b,hx,x,E,u⟩:=hrel;have k0:wr.cell? ⟨w.1.size+1+1+1,0,none⟩=some (.slice a j c):=by rw[DC wr _ 0 _ _ _ hx];rfl
  have X:wr.cell? ⟨w.1.size+1+1+1,1,none⟩=some (.slice (some ⟨w.1.size+1+1,0,none⟩) 0 0):=by rw[DC wr _ 1 _ _ _ hx];rfl
  have H:w.1.size+1+1+1<wr.1.size:=(wy.1 hx).1;by_cases ak:j<n
  ·have D:wr.frozen? ⟨w.1.size+1+1+1,0,none⟩=false:=frozen_of_row wr _ 0 _ _ hx;have Y:=fun J K=>(show((wr.alloc J).alloc K).cell? ⟨w.1.size+1+1+1,0,none⟩=some (.slice a j c)by rw[(fK wr J K).cell (p:=⟨w.1.size+1+1+1,0,none⟩) H];exact k0);have R:Hid _:=hx;have t:Hid _:=b;have o:Hid _:=x;have A:Hid _:=u;clear hx b x u;go_wp2_with fail
   go_region_law (refine jS (w0:=wr.drew) (w1:=(wr.alloc (.cells kf 5)).drew) rfl _ _ 22 rfl 0 56 (w.1.size+1) underlying22 qm uB a j c zI P N Q L rfl (o.out.below t7.drew) ?_ (fun _=>0) (some ⟨wr.1.size,0,none⟩) 64 64 gM ?_ AX ?_ _ rfl ?_ ?_ ?_;exact((B2 wr.drew.1.size wr.drew).alloc t6 _);exact AW wr.1.size wr t6;(simp;omega);(rw[EB,World.size_alloc];rfl);omega;intro k l f O C I B;have m:=uK o.out.row R.out uB B;have M:=BL o.out.row A.out uB B;have ac:f.cell? ⟨w.1.size+1+1+1,0,none⟩=some (.slice a j c):=(by rw[DC f _ 0 _ _ _ m];rfl);have ad:f.frozen? ⟨w.1.size+1+1+1,0,none⟩=false:=frozen_of_row f _ 0 _ _ m;clear I B)
   all_goals
    have U:Below (w.1.size+1) (w.alloc (.cells #[.slice none 0 0,.slice none 0 0] 35)) (f.setCell ⟨w.1.size+1+1+1,0,none⟩ (.slice k (j+1) l)):=by
     have aX:=t.out.size;have q:Below (w.1.size+1) wr f:=(t7.alloc uA (.cells kf 5)).drew.trans C;exact(t.out.trans q).setCell vo _
    have ag:(f.setCell ⟨w.1.size+1+1+1,0,none⟩ (.slice k (j+1) l)).heap[w.1.size+1+1+1]?=some (.cells #[.slice k (j+1) l,.slice (some ⟨w.1.size+1+1,0,none⟩) 0 0] 35 (0,0)):=heap_setCell_same f _ 0 _ _ _ m;have af:=O.setOther m uB uB 0 (.slice k (j+1) l);have ab:=M.setOther m uB uB 0 (.slice k (j+1) l);clear ac ad m O M C Y k0 X D;go_wp2;go_roundw
    case rel=>
     refine⟨j+1,k,l,_,_,_,_,uA,by go_num,U,ag,af.congr' (fun i g q G=>absurd G uA) (fun i g=>rfl),fun i g=> ?_,ab⟩;by_cases e:i=j
     ·subst e;rw[be]
     ·rw[bw _ _ _ e];exact E i uA
    case measure=>simp[intOf];omega
  ·have e:j=n:=uA;subst e;have V:wr.cell? ⟨w.1.size,0,none⟩=some (.slice none 0 0):=by rw[b.cell (p:=⟨w.1.size,0,none⟩) (x3 _)];simp
   have W:wr.cell? ⟨w.1.size,1,none⟩=some (.slice none 0 0):=by rw[b.cell (p:=⟨w.1.size,1,none⟩) (x3 _)];simp
   have D:wr.frozen? ⟨w.1.size,0,none⟩=false:=by rw[b.frozen (p:=⟨w.1.size,0,none⟩) (x3 _)];simp
   have f1:wr.frozen? ⟨w.1.size,1,none⟩=false:=by rw[b.frozen (p:=⟨w.1.size,1,none⟩) (x3 _)];simp
   have o:Hid _:=x;have t:Hid _:=b;have A:Hid _:=u;clear x b hx u;go_wp2;have ae:=(o.out.setBelow (q:=⟨w.1.size,0,none⟩) (x3 _) (.slice a j c)).setBelow (q:=⟨w.1.size,1,none⟩) (x3 _) (.slice (some ⟨w.1.size+1+1,0,none⟩) 0 0);have Z:=(A.out.setBelow (q:=⟨w.1.size,0,none⟩) (x3 _) (.slice a j c)).setBelow (q:=⟨w.1.size,1,none⟩) (x3 _) (.slice (some ⟨w.1.size+1+1,0,none⟩) 0 0);have S:Below w.1.size w _:=(((B2 w.1.size w).alloc t6 _).trans (t.out.mono (x0 _))).setCell (p:=⟨w.1.size,0,none⟩) t6 (.slice a j c);have T:=S.setCell (p:=⟨w.1.size,1,none⟩) t6 (.slice (some ⟨w.1.size+1+1,0,none⟩) 0 0);refine B3 (v:= .tuple #[.agg #[.slice a j c,.slice (some ⟨w.1.size+1+1,0,none⟩) 0 0],.bool true]) (by simp[results,results90,go_sem,V,W]) rfl ⟨⟨a,c,P,N,Q,some ⟨w.1.size+1+1,0,none⟩,0,fun _=>none,fun _=>0,fun _=>0⟩,rfl,T,?_⟩;exact⟨(ae.mono (x0 _)).congr' (fun i g q G=>rfl) (fun i g=>E i g),Z.mono (x0 _),fun i aT _ F=>absurd F (xN _)⟩
theorem BM(j w)(h:j<1\/4096<j):
 Calls prog 90 #[.int .i64 j] w fun e w'=> ∃d,e= .returned (.tuple #[av d (bV 0),.bool false])/\Below w.1.size w w'/\ODisk w.1.size w' d (bV 0):=by
 have b:∀w',ODisk w.1.size w' l6 (bV 0):=fun w'=>⟨jU _ _ _ _ _ _ _ _ _,jU _ _ _ _ _ _ _ _ _,fun i p _ g=>absurd g (xN _)⟩;have a:Hid _:=b;clear b;have f:=fun k l m n=>(((B2 w.1.size w).alloc vo k).alloc vo l|>.alloc (by simp;omega) m).alloc (by simp;omega) n;have c:Hid _:=f;clear f;rcases h with h|h
 ·go_enter func90,ntmps90;go_wp2;refine B3 (v:= .tuple #[.agg #[.slice none 0 0,.slice none 0 0],.bool false]) (by simp[results,results90,go_sem]) rfl ⟨l6,rfl,?_,a.out _⟩;exact c.out _ _ _ _
 ·have o:¬j<1:=uA;go_enter func90,ntmps90;go_wp2;refine B3 (v:= .tuple #[.agg #[.slice none 0 0,.slice none 0 0],.bool false]) (by simp[results,results90,go_sem]) rfl ⟨l6,rfl,?_,a.out _⟩;exact c.out _ _ _ _
theorem qB:∃i d,prog.info? 133=some i/\i.zero=some d/\i.size=1+1/\d.cells.size=1+1/\i.bytes<=64:=by
 obtain⟨i,c,a,b,e⟩:=DB BJ;exact⟨i,_,c,a,b,rfl,uA⟩
theorem ig{a:Type}(f:Nat->a)(j):upd f j (f j)=f:=by
 funext i;by_cases e:i=j
 ·subst e;rw[be]
 ·rw[bw _ _ _ e]
theorem kl{wr a i o}{B e size:Nat}{v n xs}(f:Below wr.1.size wr a)(m:wr.ownsRow B e size v n xs){g c:Nat}{b fr}(d:wr.heap[g]?=some (.cells b c fr))(l:e≠c)(k:(a.alloc o).grownBy i v.ownBlock):i.heap[g]?=some (.cells b c fr):=by
 have p:=(wy.1 d).1;have q:=f.size;rw[k.block g (by simp;omega) (fun j=>jz m d l j.symm),((B2 a.1.size a).alloc t6 o).block g uA,f.block g p,d]
theorem ORecs.keptT{p e B wr f q o a n c J H N I L}(h:ORecs p e B wr a n c J H N I L)(s:Below wr.1.size wr f){B' b size G:Nat}{v xs}(F:wr.ownsRow B' b size v G xs)(C:b≠e)(w:b≠5)(z:(f.alloc o).grownBy q v.ownBlock):ORecs p e B q a n c J H N I L:=by
 have A:=s.trans (((B2 f.1.size f).alloc t6 o).mono s.size);have j:∀{d size m:Nat}{u:Value}{r:List Value},b≠d->wr.ownsRow B d size u m r->q.ownsRow B d size u m r:=fun{d size m u r} x t=>by
  refine World.ownsRow.kept (bQ t A) z ?_;cases l:u.ownBlock with
  |none=>exact v7 rfl
  |some k=>
   right;intro y;rcases t.2 with⟨rfl,_⟩|⟨g,K,M,rfl,_,D,_⟩
   ·simp[Value.ownBlock]at l
   ·simp[Value.ownBlock]at l;subst l;exact jz F D x y.symm
 exact⟨j C h.row,fun i E=>j w (h.data i E),h.byte,h.sep1⟩
theorem ORecs.kept3{p e B j wr g a n c r o N q L}(m:ORecs p e B j a n c r o N q L)(h:ORecs p e B wr a n c r o N q L){blk}(x:wr.grownBy g blk)(w:∀k,blk=some k->j.1.size<=k):ORecs p e B g a n c r o N q L:=by
 have f:∀{b size d:Nat}{v:Value}{xs:List Value},j.ownsRow B b size v d xs->wr.ownsRow B b size v d xs->g.ownsRow B b size v d xs:=fun{b size d v xs} t u=>by
  refine World.ownsRow.kept u x ?_;cases y:v.ownBlock with
  |none=>exact v7 rfl
  |some k=>
   right;intro s;have:=w k s.symm;have:=(fA t y).2;omega
 exact⟨f m.row h.row,fun i l=>f (m.data i l) (h.data i l),h.byte,h.sep1⟩
theorem BN(z r A pc a9 B u ba d C K w)(ag:RRecs 0 w z K.n A zI a9 u ba K.S)(V:RRecs 1 w r K.m pc (aI K) B d C K.D)(cz:K.n<=1048576)(cv:K.m<=1048576)(bs:∀i,i<K.n->u i<=1048576)(bn:∀i,i<K.m->d i<=1048576):
 Calls prog 43 #[.agg #[.slice z K.n A,.slice r K.m pc]] w fun e w'=> ∃af,e= .returned (av af K)/\Below w.1.size w w'/\ODisk w.1.size w' af K/\af.sN=u/\af.pN=d:=by
 have ca:Hid _:=bs;have b9:Hid _:=bn;clear bs bn;go_enter func43,ntmps43;go_wp2_with fail;have bR:Below w.1.size w (((w.alloc (.cells #[.slice z K.n A,.slice r K.m pc] 35)).alloc (.cells #[.slice none 0 0,.slice none 0 0] 35)).alloc (.cells #[.slice none 0 0,.slice none 0 0] 35)):=((B2 w.1.size w).alloc vo _).alloc vo _|>.alloc (by simp;omega) _;have b5:(((w.alloc (.cells #[.slice z K.n A,.slice r K.m pc] 35)).alloc (.cells #[.slice none 0 0,.slice none 0 0] 35)).alloc (.cells #[.slice none 0 0,.slice none 0 0] 35)).heap[w.1.size+1+1]?=some (.cells #[.slice none 0 0,.slice none 0 0] 35 (0,0)):=by
  have:=D6 ((w.alloc (.cells #[.slice z K.n A,.slice r K.m pc] 35)).alloc (.cells #[.slice none 0 0,.slice none 0 0] 35)) (.cells #[.slice none 0 0,.slice none 0 0] 35);rwa [World.size_alloc,World.size_alloc]at this
 have ae:(((w.alloc (.cells #[.slice z K.n A,.slice r K.m pc] 35)).alloc (.cells #[.slice none 0 0,.slice none 0 0] 35)).alloc (.cells #[.slice none 0 0,.slice none 0 0] 35)).cell? ⟨w.1.size,1,none⟩=some (.slice r K.m pc):=by go_simp
 have b1:(((w.alloc (.cells #[.slice z K.n A,.slice r K.m pc] 35)).alloc (.cells #[.slice none 0 0,.slice none 0 0] 35)).alloc (.cells #[.slice none 0 0,.slice none 0 0] 35)).heap[w.1.size+1]?=some (.cells #[.slice none 0 0,.slice none 0 0] 35 (0,0)):=by
  have bm:=D6 (w.alloc (.cells #[.slice z K.n A,.slice r K.m pc] 35)) (.cells #[.slice none 0 0,.slice none 0 0] 35);rw[World.size_alloc]at bm;rw[((B2 (w.1.size+1+1) ((w.alloc (.cells #[.slice z K.n A,.slice r K.m pc] 35)).alloc (.cells #[.slice none 0 0,.slice none 0 0] 35))).alloc vo _).block _ (x3 _)];exact bm
 have cD:(((w.alloc (.cells #[.slice z K.n A,.slice r K.m pc] 35)).alloc (.cells #[.slice none 0 0,.slice none 0 0] 35)).alloc (.cells #[.slice none 0 0,.slice none 0 0] 35)).1.size=w.1.size+1+1+1:=by simp
 generalize bv:(((w.alloc (.cells #[.slice z K.n A,.slice r K.m pc] 35)).alloc (.cells #[.slice none 0 0,.slice none 0 0] 35)).alloc (.cells #[.slice none 0 0,.slice none 0 0] 35))=S at*;clear bv;have bg:Hid _:=bR;have b8:Hid _:=ae;have cb:Hid _:=b1;clear ae b1 bR;go_loopw [5,11] (fun _ i wr=> ∃j a c bc bd,j<=K.n/\i= .int .i64 (j:Nat)/\Below (w.1.size+1+1) S wr/\wr.heap[w.1.size+1+1]?=some (.cells #[.slice a j c,.slice none 0 0] 35 (0,0))/\ORecs 0 56 (w.1.size+1+1+1) wr a j c zI bc u bd K.S) (fun _ i _=>K.n-(intOf i).toNat)
 case atStart=>exact⟨0,none,0,fun _=>none,fun _=>0,wa _,rfl,t7,b5,jU _ _ _ _ _ _ _ _ _⟩
 case round=>
  clear b5;obtain⟨j,a,c,bc,bd,a3,rfl,t,hx,G⟩:=hrel;have k0:wr.cell? ⟨w.1.size+1+1,0,none⟩=some (.slice a j c):=by rw[DC wr _ 0 _ _ _ hx];rfl
  have b6:w.1.size+1+1<wr.1.size:=(wy.1 hx).1;have bf:Hid (Below w.1.size w wr):=bg.out.trans (t.mono uA);by_cases s:j<K.n
  ·obtain⟨I,g,rfl,F,E⟩:=ag.at_ uA;have a5:wr.cell? ⟨I,g+j,none⟩=some (.slice (a9 j) (u j) (ba j)):=by rw[bf.out.cell (p:=⟨I,g+j,none⟩) F];have:=(E j s).2;simpa using this
   have Y:=(ag.data j s).below bf.out;have bu:=ca.out j s;have bz:(0:Int)<=(j:Int):=uA;have bA:(j:Int)< (K.n:Int):=uA;have aT:Hid _:=hx;have aS:Hid _:=t;have M:Hid _:=G;have bk:Hid _:=Y;clear hx t G E ag V Y;go_wp2_with fail
   go_region_law (first
    |(refine jS (w0:=wr) rfl _ _ 22 rfl 0 56 (w.1.size+1+1+1) underlying22 qm uB a j c zI bc u bd K.S rfl M.out ?_ (fun _=>0) U (u j) T (K.S j) ?_ bk.out.byte ?_ _ rfl ?_ ?_ ?_;exact b;exact J;omega;rfl;omega;intro m o f X N W O;have x:=kl b M.out.row aT.out uB O;have a7:f.cell? ⟨w.1.size+1+1,0,none⟩=some (.slice a j c):=(by rw[DC f _ 0 _ _ _ x];rfl);have a8:f.frozen? ⟨w.1.size+1+1,0,none⟩=false:=frozen_of_row f _ 0 _ _ x;clear W O)
    |(rw[B4 (show Region.wanted _ _=true from rfl)];go_wp2_with (go_at_call 83;refine(pF (a9 j) (u j) (ba j) (K.S j) _ (bk.out.below t7.drew) bu).mono ?_;rintro e H ⟨U,T,rfl,b,J⟩;simp only[EB]at b J;replace b:=l4 b;have bS:H.cell? ⟨w.1.size+1+1,0,none⟩=some (.slice a j c):=(by rw[b.cell (p:=⟨w.1.size+1+1,0,none⟩) b6];exact k0);have ch:(H.alloc (.cells #[.slice U (u j) T] 56)).cell? ⟨w.1.size+1+1,0,none⟩=some (.slice a j c):=(by rw[((B2 H.1.size H).alloc t6 _).cell (p:=⟨w.1.size+1+1,0,none⟩) (wQ b6 b.size)];exact bS))))
   all_goals
    have a0:Below (w.1.size+1+1) S (f.setCell ⟨w.1.size+1+1,0,none⟩ (.slice m (j+1) o)):=
     ((aS.out.trans (b.mono uA)).trans (N.mono uA)).setCell (p:=⟨w.1.size+1+1,0,none⟩) t6 _
    have bb:(f.setCell ⟨w.1.size+1+1,0,none⟩ (.slice m (j+1) o)).heap[w.1.size+1+1]?=some (.cells #[.slice m (j+1) o,.slice none 0 0] 35 (0,0)):=heap_setCell_same f _ 0 _ _ _ x;have Q:=X.setOther x uB uB 0 (.slice m (j+1) o);rw[ig,ig]at Q;have cj:=Q.congr' (I':=zI) (L':=K.S) (fun i a2 q cc=>absurd cc uA) (fun i a2=>rfl);clear a7 a8 x X N k0 a5 bS ch b J Q;go_wp2;go_roundw
    case rel=>exact⟨j+1,m,o,_,_,uA,by go_num,a0,bb,cj⟩
    case measure=>simp[intOf];omega
  ·have e:j=K.n:=uA;subst e;have ae:wr.cell? ⟨w.1.size,1,none⟩=some (.slice r K.m pc):=by rw[t.cell (p:=⟨w.1.size,1,none⟩) (by show w.1.size<_;omega)];exact b8.out
   obtain⟨R,bC⟩:=aa wr;subst bC;have aX:Hid (ORecs 0 56 (w.1.size+1+1+1) R a K.n c zI bc u bd K.S):=G;have am:Hid _:=t;have ap:=hx;clear G t hx ag k0;go_wp2_with fail;go_loopw [7,26] (fun _ i wr=> ∃j l n ab ac,j<=K.m/\i= .int .i64 (j:Nat)/\Below (w.1.size+1+1) S wr/\R.1.size<=wr.1.size/\wr.heap[w.1.size+1+1]?=some (.cells #[.slice a K.n c,.slice l j n] 35 (0,0))/\ORecs 0 56 (w.1.size+1+1+1) wr a K.n c zI bc u bd K.S/\ORecs 1 133 R.1.size wr l j n (aI K) ab d ac K.D) (fun _ i _=>K.m-(intOf i).toNat)
   case atStart=>exact⟨0,none,0,fun _=>none,fun _=>0,wa _,rfl,am.out,t6,ap,aX.out,jU _ _ _ _ _ _ _ _ _⟩
   case round=>
    clear ap am ae;obtain⟨j,l,n,ab,ac,a3,rfl,t,cq,hx,G,L⟩:=hrel;have k0:wr.cell? ⟨w.1.size+1+1,0,none⟩=some (.slice a K.n c):=by rw[DC wr _ 0 _ _ _ hx];rfl
    have a5:wr.cell? ⟨w.1.size+1+1,1,none⟩=some (.slice l j n):=by rw[DC wr _ 1 _ _ _ hx];rfl
    have b7:w.1.size+1+1<wr.1.size:=(wy.1 hx).1;have ad:Hid (Below w.1.size w wr):=bg.out.trans (t.mono uA);by_cases s:j<K.m
    ·obtain⟨I,g,rfl,F,E⟩:=V.at_ uA;have cf:wr.cell? ⟨I,g+j*2,none⟩=some (.int .i64 (K.At j)):=by rw[ad.out.cell (p:=⟨I,g+j*2,none⟩) F];exact(E j s).1 0 uA
     have cg:wr.cell? ⟨I,g+j*2+1,none⟩=some (.slice (B j) (d j) (C j)):=by rw[ad.out.cell (p:=⟨I,g+j*2+1,none⟩) F];exact(E j s).2
     have Y:=(V.data j s).below ad.out;have br:=b9.out j s;have bz:(0:Int)<=(j:Int):=uA;have bA:(j:Int)< (K.m:Int):=uA;have P:=(B2 wr.1.size wr).alloc t6 (.cells #[.int .i64 (K.At j),.slice (B j) (d j) (C j)] 133);have cL:(wr.alloc (.cells #[.int .i64 (K.At j),.slice (B j) (d j) (C j)] 133)).1.size=wr.1.size+1:=by simp
     have a6:(wr.alloc (.cells #[.int .i64 (K.At j),.slice (B j) (d j) (C j)] 133)).heap[wr.1.size]?=some (.cells #[.int .i64 (K.At j),.slice (B j) (d j) (C j)] 133 (0,0)):=D6 wr _;have ak:=hx;rw[<-P.block _ b7]at ak;have b2:=G.below P;have aB:=L.below P;have b3:=Y.below P;clear E V Y hx G L;go_wp2_with fail;generalize bx:wr.alloc (.cells #[.int .i64 (K.At j),.slice (B j) (d j) (C j)] 133)=y at*;clear bx;have aS:Hid (Below (w.1.size+1+1) S y):=t.trans (P.mono uA);have cr:R.1.size<=y.1.size:=uA;have bE:y.cell? ⟨wr.1.size,0,none⟩=some (.int .i64 (K.At j)):=by rw[DC y _ 0 _ _ _ a6];rfl
     have bF:y.cell? ⟨wr.1.size,1,none⟩=some (.slice (B j) (d j) (C j)):=by rw[DC y _ 1 _ _ _ a6];rfl
     have bP:y.cell? ⟨w.1.size+1+1,1,none⟩=some (.slice l j n):=by rw[DC y _ 1 _ _ _ ak];rfl
     have aA:∀v:World,Below y.1.size y v->v.cell? ⟨wr.1.size,0,none⟩=some (.int .i64 (K.At j))/\v.cell? ⟨wr.1.size,1,none⟩=some (.slice (B j) (d j) (C j))/\v.cell? ⟨w.1.size+1+1,1,none⟩=some (.slice l j n):=fun v a1=>by
      refine⟨?_,?_,?_⟩
      ·rw[a1.cell (p:=⟨wr.1.size,0,none⟩) (by show wr.1.size<_;omega)];exact bE
      ·rw[a1.cell (p:=⟨wr.1.size,1,none⟩) (by show wr.1.size<_;omega)];exact bF
      ·rw[a1.cell (p:=⟨w.1.size+1+1,1,none⟩) (by show w.1.size+1+1<_;omega)];exact bP
     have an:Hid _:=aA;have aT:Hid _:=ak;have M:Hid _:=b2;have D:Hid _:=aB;have bl:Hid _:=b3;clear aA ak b2 aB b3 P t a6 k0 a5 cf cg
     go_region_law (first
      |(refine jS (w0:=y) rfl _ _ 33 rfl 1 133 R.1.size underlying33 qB uB l j n (aI K) ab d ac K.D rfl D.out ?_ (aI K j) U (d j) T (K.D j) ?_ bl.out.byte ?_ _ rfl ?_ ?_ ?_;exact b;exact J;omega;rfl;omega;intro m o f X N W O;have x:=kl b D.out.row aT.out uB O;have a7:f.cell? ⟨w.1.size+1+1,1,none⟩=some (.slice l j n):=(by rw[DC f _ 1 _ _ _ x];rfl);have a8:f.frozen? ⟨w.1.size+1+1,1,none⟩=false:=frozen_of_row f _ 1 _ _ x;have b4:=aX.out.kept3 ((M.out.below b).below ((B2 H.1.size H).alloc t6 _)) O (fun k a4=>(fA D.out.row a4).1);clear W O)
      |(rw[B4 (show Region.wanted _ _=true from rfl)];go_wp2_with (go_at_call 83;refine(pF (B j) (d j) (C j) (K.D j) _ (bl.out.below t7.drew) br).mono ?_;rintro e H ⟨U,T,rfl,b,J⟩;simp only[EB]at b J;replace b:=l4 b;obtain⟨bT,bW,bX⟩:=an.out H b;obtain⟨bY,bZ,b0⟩:=an.out (H.alloc (.cells #[.int .i64 (K.At j),.slice U (d j) T] 133)) (b.alloc b.size _))))
     all_goals
      have a0:Below (w.1.size+1+1) S (f.setCell ⟨w.1.size+1+1,1,none⟩ (.slice m (j+1) o)):=
       ((aS.out.trans (b.mono uA)).trans (N.mono uA)).setCell (p:=⟨w.1.size+1+1,1,none⟩) t6 _
      have cp:R.1.size<=(f.setCell ⟨w.1.size+1+1,1,none⟩ (.slice m (j+1) o)).1.size:=by rw[World.size_setCell];have:=b.size;have:=N.size;omega
      have bb:(f.setCell ⟨w.1.size+1+1,1,none⟩ (.slice m (j+1) o)).heap[w.1.size+1+1]?=some (.cells #[.slice a K.n c,.slice m (j+1) o] 35 (0,0)):=heap_setCell_same f _ 1 _ _ _ x;have Q:=X.setOther x uB uB 1 (.slice m (j+1) o);have cn:=b4.setOther x uB uB 1 (.slice m (j+1) o);rw[ig,ig,ig]at Q;clear a7 a8 x X N bT bW bX bY bZ b0 bE bF bP b J b4;go_wp2;go_roundw
      case rel=>exact⟨j+1,m,o,_,_,uA,by go_num,a0,cp,bb,cn,Q⟩
      case measure=>simp[intOf];omega
    ·have e:j=K.m:=uA;subst e;have Z:wr.heap[w.1.size+1]?=some (.cells #[.slice none 0 0,.slice none 0 0] 35 (0,0)):=by rw[t.block _ (x3 _)];exact cb.out
     have l0:wr.cell? ⟨w.1.size+1,0,none⟩=some (.slice none 0 0):=by rw[DC wr _ 0 _ _ _ Z];rfl
     have ce:wr.cell? ⟨w.1.size+1,1,none⟩=some (.slice none 0 0):=by rw[DC wr _ 1 _ _ _ Z];rfl
     have cs:wr.frozen? ⟨w.1.size+1,0,none⟩=false:=frozen_of_row wr _ 0 _ _ Z;have f1:wr.frozen? ⟨w.1.size+1,1,none⟩=false:=frozen_of_row wr _ 1 _ _ Z;have M:Hid _:=G;have D:Hid _:=L;clear G L t hx Z V;go_wp2;have ck:=(M.out.setBelow (q:=⟨w.1.size+1,0,none⟩) (by show w.1.size+1<_;omega) (.slice a K.n c)).setBelow (q:=⟨w.1.size+1,1,none⟩) (by show w.1.size+1<_;omega) (.slice l K.m n);have cl:=(D.out.setBelow (q:=⟨w.1.size+1,0,none⟩) (by show w.1.size+1<_;omega) (.slice a K.n c)).setBelow (q:=⟨w.1.size+1,1,none⟩) (by show w.1.size+1<_;omega) (.slice l K.m n);have cm:=(ad.out.setCell (p:=⟨w.1.size+1,0,none⟩) (x0 _) (.slice a K.n c)).setCell (p:=⟨w.1.size+1,1,none⟩) (x0 _) (.slice l K.m n);refine B3 (v:= .agg #[.slice a K.n c,.slice l K.m n]) (by simp[results,results43,go_sem,l0,ce]) rfl ⟨⟨a,c,bc,u,bd,l,n,ab,d,ac⟩,rfl,cm,⟨ck.mono uA,cl.mono uA,fun i j a2 a3 k a4 bB=> ?_⟩,rfl,rfl⟩;have cA:=(fA (aX.out.data i a2) a4).2;have cB:=(fA (D.out.data j a3) bB).1;omega
theorem BP(d K w)(h:RDisk w d K)(b:Small d K):
 Calls prog 43 #[av d K] w fun e w'=> ∃a,e= .returned (av a K)/\Below w.1.size w w'/\ODisk w.1.size w' a K/\a.sN=d.sN/\a.pN=d.pN:=
 BN d.sa d.pa d.sc d.pc d.sA d.pA d.sN d.sC d.pN d.pC K w h.safe h.pend b.n b.m b.sN b.pN
def iS(z:Int):Nat:=if 1<=z/\z<=4096 then z.toNat else 0
def nH(z:Int):Bool:=decide (1<=z/\z<=4096)
theorem BQ(a w):
 Calls prog 90 #[.int .i64 a] w fun e w'=> ∃d,e= .returned (.tuple #[av d (bV (iS a)),.bool (nH a)])/\Below w.1.size w w'/\ODisk w.1.size w' d (bV (iS a)):=by
 by_cases h:1<=a/\a<=4096
 ·obtain⟨n,rfl⟩:=x2 (show 0<=a by omega);have b:iS (n:Int)=n:=by unfold iS;rw[B4 h];simp
  have c:nH (n:Int)=true:=CR h;rw[b,c];exact uM n w uA uA
 ·have b:iS a=0:=by unfold iS;rw[CH h]
  have c:nH a=false:=CP h;rw[b,c];exact BM a w uA
