import Derived.Test.YtglbanolhhjjiaaGreatDoorFo13
import Derived.Test.YtglbanolhhjjiaaGreatDoorFo15
import Derived.Test.YtglbanolhhjjiaaGreatDoorFo8
namespace Go.Proofs.YtglbanolhhjjiaaGreatDoor
open Go.Proofs.Tryz
open Go.RowKit
set_option linter.unusedVariables false
set_option maxRecDepth 100000
set_option maxHeartbeats 32000000
theorem DG(B g d K k t j on l n w)(hx:IsBox w g d K)(h:ODisk B w d K)(c:dOk K)(f:Bs w j on l n)(r:B<=g):
 Calls prog 103 #[.pointer (some ⟨g,0,none⟩),.agg #[.int .i64 k,.int .i64 t,.slice j on l]] w fun e w'=>e= .returned (.bool (doB K k t on))/\Below B w w'/\∃p,IsBox w' g p (doK K k t n)/\ODisk B w' p (doK K k t n):=by
 have m:=f.len_eq;by_cases i:wrP K k t on
 ·rw[CK i,vd (by rw[m];exact i)];obtain⟨rfl,a,G,rfl,u⟩:=i;obtain⟨T,rfl⟩:=x2 a;exact CY B g d.sa d.pa d.sc d.pc d.sA d.pA d.sN d.sC d.pN d.pC K T j l n w hx h uA c.1.2.1 u f r
 ·by_cases a:syP k t on
  ·rw[CL a,ve (by rw[m];exact a)];obtain⟨rfl,rfl,rfl⟩:=a;obtain⟨q,s,_⟩:=lW h.safe (by have:=c.1.1;omega);obtain⟨E,F,A,D,C,z,pc,v,y,x⟩:=d;have o:E=some ⟨q,0,none⟩:=s;subst o;exact CX B g q F z pc A v D C y x K j l w hx h c r
  ·rw[CM i a,qD (by rw[m];exact i) (by rw[m];exact a)];refine(CZ g d.sa d.pa d.sc d.pc K k t j on l w c.1.2.1 c.1.2.2 (wg f.le f.le') hx i a).mono ?_;rintro e w' ⟨rfl,b⟩;exact⟨rfl,b.mono (by have:=hx.lt;omega),d,hx.below b,h.below b⟩
theorem vO(w:World)(a b):((w.alloc a).alloc b).heap[w.1.size]?=some a/\((w.alloc a).alloc b).heap[w.1.size+1]?=some b:=by
 have d:=D6 w a;have c:=D6 (w.alloc a) b;simp only[World.size_alloc]at c;exact⟨by rw[Below.heap_alloc _ _ _ vo];exact d,c⟩
theorem vP(d K bC n bE k bT N bX L a w)(h:RDisk w d K)(bc:Small d K)(I:RRecs 2 w bC n bE k bT N bX L):
 Calls prog 58 #[av d K,.slice bC n bE,.int .i64 a] w fun e w'=> ∃V,e= .returned (.tuple #[av V (ppK K k N L n a),.int .i64 (ppN K k N L n a:Nat)])/\Below w.1.size w w'/\ODisk w.1.size w' V (ppK K k N L n a):=by
 have bz:n<=maxLen:=wg I.le I.le';unfold maxLen at bz;have bF:=fK w (.cells #[.slice d.sa K.n d.sc,.slice d.pa K.m d.pc] 35) (.cells #[.slice none 0 0,.slice none 0 0] 35);obtain⟨bR,bS⟩:=vO w (.cells #[.slice d.sa K.n d.sc,.slice d.pa K.m d.pc] 35) (.cells #[.slice none 0 0,.slice none 0 0] 35);have cn:((w.alloc (.cells #[.slice d.sa K.n d.sc,.slice d.pa K.m d.pc] 35)).alloc (.cells #[.slice none 0 0,.slice none 0 0] 35)).1.size=w.1.size+1+1:=by simp
 have a7:Hid _:=bF;clear bF;unfold av;go_enter func58,ntmps58;go_wp2_with fail;generalize bs:(w.alloc (.cells #[.slice d.sa K.n d.sc,.slice d.pa K.m d.pc] 35)).alloc (.cells #[.slice none 0 0,.slice none 0 0] 35)=z at*;clear bs;refine(mq d K z (h.below a7.out) bc).mono ?_;rintro e r ⟨c,rfl,m,bA,ck,cl⟩;have bk:=nz r c K;have bd:=(B2 r.1.size r).alloc t6 (.cells #[.slice c.sa K.n c.sc,.slice c.pa K.m c.pc] 35);have aB:=m.trans (bd.mono m.size);have aS:Below w.1.size w _:=a7.out.trans (aB.mono uA);have bB:=bA.below bd;have ca:=m.size;have u0:=(aB.block w.1.size uA).trans bR;have u1:=(aB.block (w.1.size+1) uA).trans bS;unfold av;clear a7 m bA bd bR bS aB;have b6:=DC _ _ 0 _ _ _ u0;have b7:=DC _ _ 1 _ _ _ u0;go_wp2_with fail;generalize bu:r.alloc (.cells #[.slice c.sa K.n c.sc,.slice c.pa K.m c.pc] 35)=b3 at*;clear bu;refine(jt d K b3 (h.below aS)).mono ?_;rintro e bf ⟨rfl,U⟩;have aT:Below w.1.size w bf:=aS.trans (U.mono aS.size);have J:=bk.below U;have a1:=bB.below U;have u1:=(U.block (w.1.size+1) (by have:=bk.lt;omega)).trans u1;clear U aS bk bB u0 b6 b7;by_cases u:dOk K/\n<=5000
 case neg=>
  have ap:Hid _:=qI u k N L a;have aA:Hid _:=Dc u k N L a;have e0:=J.c0;have aX:=J.c1;have l0:=DC _ _ 0 _ _ _ u1;have ac:=DC _ _ 1 _ _ _ u1;have br:=frozen_of_row _ _ 0 _ _ u1;have f1:=frozen_of_row _ _ 1 _ _ u1;have bY:Hid (Below w.1.size w bf):=aT;have Q:Hid _:=a1;clear aT a1 J bc I h u1;by_cases o:dOk K;have cm:(5000:Int)< (n:Int):=by have:¬n<=5000:=fun B=>u ⟨o,B⟩;omega
  rw[fj o]
  rotate_left
  rw[gk o]
  all_goals
   clear u;go_wp2;have ak:=(bY.out.setCell (p:=⟨w.1.size+1,0,none⟩) (by show w.1.size<=w.1.size+1;omega) (.slice c.sa K.n c.sc)).setCell (p:=⟨w.1.size+1,1,none⟩) (by show w.1.size<=w.1.size+1;omega) (.slice c.pa K.m c.pc);have af:=(Q.out.safe.setBelow (q:=⟨w.1.size+1,0,none⟩) (by show w.1.size+1<_;omega) (.slice c.sa K.n c.sc)).setBelow (q:=⟨w.1.size+1,1,none⟩) (by show w.1.size+1<_;omega) (.slice c.pa K.m c.pc);have ag:=(Q.out.pend.setBelow (q:=⟨w.1.size+1,0,none⟩) (by show w.1.size+1<_;omega) (.slice c.sa K.n c.sc)).setBelow (q:=⟨w.1.size+1,1,none⟩) (by show w.1.size+1<_;omega) (.slice c.pa K.m c.pc);refine B3 (v:= .tuple #[.agg #[.slice c.sa K.n c.sc,.slice c.pa K.m c.pc],.int .i64 0]) (by simp[results,results58,go_sem,l0,ac]) rfl ?_;rw[ap.out,aA.out];exact⟨c,rfl,ak,af.mono uA,ag.mono uA,Q.out.sepX⟩
 obtain⟨o,a4⟩:=u;have ap:Hid _:=vh o a4 k N L a;have aA:Hid _:=Db o a4 k N L a;have cj:Hid (∀j,j<n->(L j).length=N j):=fun j bx=>(I.data j bx).len_eq;have cg:¬(5000:Int)< (n:Int):=uA;rw[fj o];have b4:Hid _:=J;have b2:Hid _:=a1;have a6:Hid _:=aT;have bl:Hid _:=u1;have cc:=J.lt;clear J a1 aT u1 bc h;go_wp2_with fail;go_loopw [9] (fun i wr=> ∃(j:Nat)(V:DV),j<=iB n a/\i= .int .i64 (j:Nat)/\gP (plB K k N L) (iB n a) 0=gP (plB K k N L) (iB n a-j) j/\Below z.1.size bf wr/\IsBox wr r.1.size V (plK K k L j)/\ODisk z.1.size wr V (plK K k L j)) (fun i _=>iB n a-(intOf i).toNat)
 case atStart=>exact⟨0,c,wa _,rfl,rfl,t7,b4.out,b2.out⟩
 case round=>
  obtain⟨j,G,bx,rfl,E,H,hx,a0⟩:=hrel;have cb:Hid (iB n a<=n):=Nat.min_le_left _ _;have a3:Hid (∀i:Nat,i<iB n a↔i<n/\(i:Int)<a):=fun i=>by unfold iB;omega
  have ch:=hx.lt;by_cases X:j<iB n a
  ·obtain⟨B,bb⟩:=(a3.out j).1 X;obtain⟨m,l,rfl,C,D⟩:=I.at_ uA;have an:Hid (Below w.1.size w wr):=a6.out.trans (H.mono uA);have k0:wr.cell? ⟨m,l+j*3,none⟩=some (.int .i64 (k j 0)):=by rw[an.out.cell (p:=⟨m,l+j*3,none⟩) C];exact(D j B).1 0 uA
   have b8:wr.cell? ⟨m,l+j*3+1,none⟩=some (.int .i64 (k j 1)):=by rw[an.out.cell (p:=⟨m,l+j*3+1,none⟩) C];exact(D j B).1 1 uA
   have b9:wr.cell? ⟨m,l+j*3+2,none⟩=some (.slice (bT j) (N j) (bX j)):=by rw[an.out.cell (p:=⟨m,l+j*3+2,none⟩) C];exact(D j B).2
   have bP:=(I.data j B).below an.out;have ce:(0:Int)<=(j:Int):=uA;have cf:(j:Int)< (n:Int):=uA;have a2:Hid _:=E;have bZ:Hid _:=H;have b1:Hid _:=hx;have b0:Hid _:=a0;have bm:Hid _:=bP;clear E H hx a0 D bP;go_wp2_with fail;refine(DG z.1.size r.1.size G (plK K k L j) (k j 0) (k j 1) (bT j) (N j) (bX j) (L j) wr b1.out b0.out (mj k L o j) bm.out ca).mono ?_;rintro e x ⟨rfl,bn,F,M,ad⟩;have t:=bZ.out.trans bn;clear bn k0 b8 b9;cases Z:doB (plK K k L j) (k j 0) (k j 1) (N j)with
   |true=>
    have P:Hid _:=a2.out.trans (C7 X Z);have b5:Hid (IsBox x r.1.size F (plK K k L (j+1))):=M;have Q:Hid (ODisk z.1.size x F (plK K k L (j+1))):=ad;have bW:Hid _:=t;clear M ad t Z;go_wp2;go_roundw
    case rel=>exact⟨j+1,F,uA,by go_num,P.out,bW.out,b5.out,Q.out⟩
    case measure=>simp[intOf];omega
   |false=>
    have P:Hid _:=a2.out.trans (C9 X Z);rw[C6 bm.out.len_eq Z]at M ad;have S:Hid (IsBox x r.1.size F (plK K k L j)):=M;have R:Hid (ODisk z.1.size x F (plK K k L j)):=ad;have T:Hid (w.1.size+1<x.1.size):=(by have:=M.lt;show w.1.size+1<x.1.size;omega);have a9:Hid _:=(t.block (w.1.size+1) uA).trans bl.out;have O:Hid (Below w.1.size w x):=a6.out.trans (t.mono uA);obtain⟨am,ab⟩:=aa x;subst ab;obtain⟨G,bv⟩:=aa F;subst bv;clear M ad t Z;have a8:=qE R.out.reads (mj k L o j);have e0:=S.out.c0;have aX:=S.out.c1;go_wp2_with fail;refine(mq G (plK K k L j) am R.out.reads a8).mono ?_;rintro e bg ⟨b,rfl,A,ae,_,_⟩;have u7:=(A.block (w.1.size+1) (wQ T.out t6)).trans a9.out;have l0:=DC _ _ 0 _ _ _ u7;have ac:=DC _ _ 1 _ _ _ u7;have br:=frozen_of_row _ _ 0 _ _ u7;have f1:=frozen_of_row _ _ 1 _ _ u7;have a5:Hid (Below w.1.size w bg):=O.out.trans (A.mono O.out.size);have y:Hid _:=ae;have ba:Hid (w.1.size+1<am.1.size):=T.out;clear A ae u7 e0 aX;unfold av;generalize W:plK K k L j=g at*;go_wp2;have s:=ba.out;have ak:=(a5.out.setCell (p:=⟨w.1.size+1,0,none⟩) (by show w.1.size<=w.1.size+1;omega) (.slice b.sa g.n b.sc)).setCell (p:=⟨w.1.size+1,1,none⟩) (by show w.1.size<=w.1.size+1;omega) (.slice b.pa g.m b.pc);have af:=(y.out.safe.setBelow (q:=⟨w.1.size+1,0,none⟩) s (.slice b.sa g.n b.sc)).setBelow (q:=⟨w.1.size+1,1,none⟩) s (.slice b.pa g.m b.pc);have ag:=(y.out.pend.setBelow (q:=⟨w.1.size+1,0,none⟩) s (.slice b.sa g.n b.sc)).setBelow (q:=⟨w.1.size+1,1,none⟩) s (.slice b.pa g.m b.pc);refine B3 (v:= .tuple #[.agg #[.slice b.sa g.n b.sc,.slice b.pa g.m b.pc],.int .i64 (j:Nat)]) (by simp[results,results58,go_sem,l0,ac]) rfl ?_;rw[ap.out,aA.out];unfold plN;rw[P.out,W];exact⟨b,rfl,ak,af.mono uA,ag.mono uA,y.out.sepX⟩
  ·have Y:¬(j<n/\(j:Int)<a):=fun h=>X ((a3.out j).2 h);have P:Hid _:=E.trans (Da (f:=plB K k N L) (Nat.le_of_not_lt X));have S:Hid (IsBox wr r.1.size G (plK K k L j)):=hx;have R:Hid (ODisk z.1.size wr G (plK K k L j)):=a0;have T:Hid (w.1.size+1<wr.1.size):=(by show w.1.size+1<wr.1.size;omega);have a9:Hid _:=(H.block (w.1.size+1) uA).trans bl.out;have O:Hid (Below w.1.size w wr):=a6.out.trans (H.mono uA);obtain⟨am,ab⟩:=aa wr;subst ab;clear E H hx a0;by_cases B:(j:Int)< (n:Int);have bb:¬(j:Int)<a:=fun bb=>Y ⟨uA,bb⟩
   rotate_left
   all_goals
    clear Y;have a8:=qE R.out.reads (mj k L o j);have e0:=S.out.c0;have aX:=S.out.c1;go_wp2_with fail;refine(mq G (plK K k L j) am R.out.reads a8).mono ?_;rintro e bg ⟨b,rfl,A,ae,_,_⟩;have u7:=(A.block (w.1.size+1) (wQ T.out t6)).trans a9.out;have l0:=DC _ _ 0 _ _ _ u7;have ac:=DC _ _ 1 _ _ _ u7;have br:=frozen_of_row _ _ 0 _ _ u7;have f1:=frozen_of_row _ _ 1 _ _ u7;have a5:Hid (Below w.1.size w bg):=O.out.trans (A.mono O.out.size);have y:Hid _:=ae;have ba:Hid (w.1.size+1<am.1.size):=T.out;clear A ae u7 e0 aX;unfold av;generalize W:plK K k L j=g at*;go_wp2;have s:=ba.out;have ak:=(a5.out.setCell (p:=⟨w.1.size+1,0,none⟩) (by show w.1.size<=w.1.size+1;omega) (.slice b.sa g.n b.sc)).setCell (p:=⟨w.1.size+1,1,none⟩) (by show w.1.size<=w.1.size+1;omega) (.slice b.pa g.m b.pc);have af:=(y.out.safe.setBelow (q:=⟨w.1.size+1,0,none⟩) s (.slice b.sa g.n b.sc)).setBelow (q:=⟨w.1.size+1,1,none⟩) s (.slice b.pa g.m b.pc);have ag:=(y.out.pend.setBelow (q:=⟨w.1.size+1,0,none⟩) s (.slice b.sa g.n b.sc)).setBelow (q:=⟨w.1.size+1,1,none⟩) s (.slice b.pa g.m b.pc);refine B3 (v:= .tuple #[.agg #[.slice b.sa g.n b.sc,.slice b.pa g.m b.pc],.int .i64 (j:Nat)]) (by simp[results,results58,go_sem,l0,ac]) rfl ?_;rw[ap.out,aA.out];unfold plN;rw[P.out,W];exact⟨b,rfl,ak,af.mono uA,ag.mono uA,y.out.sepX⟩
noncomputable def iC(K:DK)(c:List Int):DK:=match aR K with|true=>crK K c|false=>K
theorem vQ{K}(h:dOk K)(c):iC K c=crK K c:=by unfold iC;rw[fj h]
theorem vS{K}(h:¬dOk K)(c):iC K c=K:=by unfold iC;rw[gk h]
def gy(K:DK)(j:Nat):List Int:=(List.range K.n).map fun(t:Nat)=>((bp K.At (t:Int) j).length:Int)
theorem nZ(K j):(gy K j).length=K.n:=by simp[gy]
theorem vT(K j t)(h:t<K.n):(gy K j).getD t 0=((bp K.At (t:Int) j).length:Int):=by simp[gy,List.getD,h]
theorem DH(K):gy K 0=List.replicate K.n 0:=by
 unfold gy;apply zb;intro t;by_cases h:t<K.n
 ·simp[h,bp]
 ·simp[h]
theorem DJ(K)(j T:Nat)(d:K.At j=(T:Int)):(gy K j).set T (((bp K.At (T:Int) j).length:Int)+1)=gy K (j+1):=by
 apply zb;intro t;rw[BO,nZ];by_cases a:t<K.n
 ·by_cases e:T=t
  ·subst e;rw[B4 rfl,B4 a];simp[gy,a,nN d]
  ·rw[CH e];have b:K.At j≠(t:Int):=uA;simp[gy,a,nO b]
 ·split
  ·rename_i c;subst c;rw[CH a,x8 (by rw[nZ];omega)]
  ·rw[x8 (by rw[nZ];omega),x8 (by rw[nZ];omega)]
theorem OwnI.set{B g w n c l}(h:OwnI B w (some ⟨g,0,none⟩) n c l)(i x):OwnI B (w.setCell ⟨g,i,none⟩ (.int .i64 x)) (some ⟨g,0,none⟩) n c (l.set i x):=by
 have:=(World.ownsRow.stored h i (.int .i64 x)).1;rw[Cd]at this;exact this
theorem DL(k:Nat)(f:k<=1048576)(w):
 (Instr.makeSlice 100 (.int .i64 (k:Int)) (.int .i64 (k:Int))).run prog w= .ok (.slice (some ⟨w.1.size,0,none⟩) k k) (w.alloc (.cells (madeCells #[.int .i64 0] k) 3)):=by
 obtain⟨i,d,a,b,c⟩:=DB Cb;have e:=run_make (P:=prog) w 100 3 i _ underlying100 d a .i64 .i64 k k uA (A4 _) (by rw[c];omega) uA;rw[e,b];simp[Value.cells]
theorem DM(B k)(b:k<=1048576)(w:World)(a:B<=w.1.size):OwnI B (w.alloc (.cells (madeCells #[.int .i64 0] k) 3)) (some ⟨w.1.size,0,none⟩) k k (List.replicate k 0):=
 Ce w _ _ k (by rw[toList_madeCells_one];simp[oi]) vo b B a
def dU(d:DV)(A:Nat->Option Addr)(N C:Nat->Nat):DV:=⟨d.sa,d.sc,A,N,C,d.pa,d.pc,d.pA,d.pN,d.pC⟩
def kU(K:DK)(cl:List Int)(t:Nat):DK:=⟨K.n,dK (chQ K cl) K.D K.S t,K.m,K.At,K.D⟩
theorem DN(K a):kU K a 0=K:=by
 have e:dK (chQ K a) K.D K.S 0=K.S:=by funext t;exact Df _ _ _ t
 unfold kU;rw[e]
theorem DO{K a t}(h:chQ K a t=none):kU K a (t+1)=kU K a t:=by
 have e:dK (chQ K a) K.D K.S (t+1)=dK (chQ K a) K.D K.S t:=by funext i;exact Di _ _ h i
 unfold kU;rw[e]
structure CrSt(B ob gc:Nat)(w0:World)(d:DV)(K:DK)(cl:List Int)(t:Nat)(w:World)(A:Nat->Option Addr)(N C:Nat->Nat):Prop where
 box:IsBox w ob (dU d A N C) K
 own:ODisk B w (dU d A N C) (kU K cl t)
 cnt:OwnI B w (some ⟨gc,0,none⟩) K.n K.n (gy K K.m)
 bel:Below B w0 w
 hB:B<=w0.1.size
theorem CrSt.skip{B ob b w0 d K a t w e N f}(h:CrSt B ob b w0 d K a t w e N f)(c:chQ K a t=none):CrSt B ob b w0 d K a (t+1) w e N f:=
 ⟨h.box,by rw[DO c];exact h.own,h.cnt,h.bel,h.hB⟩
theorem CrSt.size{B ob b w0 d K a t w c N e}(h:CrSt B ob b w0 d K a t w c N e):B<=w.1.size:=wg h.hB h.bel.size
theorem CrSt.below{B ob c w0 d K b t w w' e N f}(h:CrSt B ob c w0 d K b t w e N f)(a:Below w.1.size w w'):CrSt B ob c w0 d K b t w' e N f:=
 ⟨h.box.below a,h.own.below a,h.cnt.below a,h.bel.trans (a.mono h.size),h.hB⟩
theorem CrSt.put{B ob A a w0 d K n t q w w' y N z}(h:CrSt B ob A w0 d K n t w y N z)(u:d.sa=some ⟨a,0,none⟩)(H:chQ K n t=some q)(L:t<K.n)(v:Below w.1.size w w')(b c)(F:Own w.1.size w' b 64 c (K.D q))(J:IsB (K.D q)):
 CrSt B ob A w0 d K n (t+1) (w'.setCell ⟨a,t,none⟩ (.slice b 64 c)) (upd y t b) (upd N t 64) (upd z t c):=by
 have r:=h.own.safe;change ORecs 0 56 B w d.sa K.n d.sc zI y N z (dK (chQ K n) K.D K.S t)at r;rw[u]at r;have S:=r.setSlice uB v t L b 64 c (K.D q) F J h.size;rw[show t*(0+1)+0=t by omega]at S;have m:=h.below v;have l:=r.below v;obtain⟨f,fr,D⟩:∃f fr,w'.heap[a]?=some (.cells f 56 fr):=by
  rcases l.row.2 with⟨e,_⟩|⟨g,M,f,e,_,I,_⟩
  ·cases e
  ·cases e;exact⟨f,_,I⟩
 have C:B<=a:=(fA l.row rfl).1;have G:a≠ob:=fun e=>jz l.row m.box uB (by rw[e];rfl);refine⟨?_,⟨?_,?_,?_⟩,?_,?_,h.hB⟩
 ·have:=(Below.heap_setCell w' ⟨a,t,none⟩ (.slice b 64 c) ob (fun e=>G e.symm)).trans m.box;exact this
 ·show ORecs 0 56 B _ d.sa K.n d.sc zI (upd y t b) (upd N t 64) (upd z t c) (dK (chQ K n) K.D K.S (t+1));rw[u];refine S.1.congr' (fun i x q H=>rfl) (fun i x=> ?_);by_cases e:i=t
  ·subst e;rw[be,Dj _ _ H]
  ·rw[bw _ _ _ e,vp _ _ _ e]
 ·exact m.own.pend.setOther D uB uB t _
 ·intro i j x E k o s;change (Value.slice (upd y t b i) (upd N t 64 i) (upd z t c i)).ownBlock=some k at o;by_cases e:i=t
  ·subst e;rw[be,be,be]at o;have O:=(fA F o).1;have P:=(fA (h.own.pend.data j E) s).2;omega
  ·rw[bw _ _ _ e,bw _ _ _ e,bw _ _ _ e]at o;exact h.own.sepX i j x E k o s
 ·refine World.ownsRow.kept m.cnt S.2 (v6 fun e=> ?_);exact jR l.row m.cnt uB a rfl e
 ·exact m.bel.setCell (p:=⟨a,t,none⟩) C _
theorem DQ(d K cc n ce c w)(h:RDisk w d K)(bX:Small d K)(ak:Bs w cc n ce c):
 Calls prog 59 #[av d K,.slice cc n ce] w fun e w'=> ∃cf,e= .returned (.tuple #[av cf (iC K c),.bool (aR K)])/\Below w.1.size w w'/\ODisk w.1.size w' cf (iC K c):=by
 have cX:Below w.1.size w ((w.alloc (.cells #[.slice d.sa K.n d.sc,.slice d.pa K.m d.pc] 35)).alloc (.cells #[.slice none 0 0,.slice none 0 0] 35)):=((B2 w.1.size w).alloc vo _).alloc vo _;have bx:Hid _:=cX;clear cX;unfold av;go_enter func59,ntmps59;go_wp2_with fail;refine(mq d K _ (h.below bx.out) bX).mono ?_;rintro e l ⟨a,rfl,L,bZ,es,et⟩;have b5:=L.size;simp only[World.size_alloc]at b5 L bZ;obtain⟨c6,c7⟩:=vO w (.cells #[.slice d.sa K.n d.sc,.slice d.pa K.m d.pc] 35) (.cells #[.slice none 0 0,.slice none 0 0] 35);have c5:=nz l a K;have b1:=(B2 l.1.size l).alloc t6 (.cells #[.slice a.sa K.n a.sc,.slice a.pa K.m a.pc] 35);have a3:=L.trans (b1.mono b5);have a5:Below w.1.size w _:=bx.out.trans (a3.mono uA);have cV:=bZ.below b1;have eR:(l.alloc (.cells #[.slice a.sa K.n a.sc,.slice a.pa K.m a.pc] 35)).1.size=l.1.size+1:=by simp
 have u0:=(a3.block w.1.size uA).trans c6;have u2:=(a3.block (w.1.size+1) uA).trans c7;unfold av;clear bx L bZ b1 c6 c7 a3;have bC:=DC _ _ 0 _ _ _ u0;have dk:=DC _ _ 1 _ _ _ u0;go_wp2_with fail;generalize ck:l.alloc (.cells #[.slice a.sa K.n a.sc,.slice a.pa K.m a.pc] 35)=db at*;clear ck;refine(jt d K db (h.below a5)).mono ?_;rintro e m ⟨rfl,M⟩;have a6:=a5.trans (M.mono a5.size);have aS:=c5.below M;have aA:=cV.below M;have u0:=(M.block w.1.size uA).trans u0;have u2:=(M.block (w.1.size+1) uA).trans u2;have eU:=M.size;clear M a5 c5 cV bC dk;by_cases s:dOk K
 ·have br:Hid _:=vQ s c;have bn:Hid _:=fj s;rw[fj s];obtain⟨⟨d8,d9,cz⟩,_,cj⟩:=id s;have b6:Hid _:=cj;obtain⟨H,X,_⟩:=lW aA.safe uA;have bC:=DC _ _ 0 _ _ _ u0;have cA:=DL K.n uA m;have cT:=DM m.1.size K.n uA m t6;have c0:=bAl m (.cells (madeCells #[.int .i64 0] K.n) 3);have ab:=uv cT c0;have B:=uv a6 (vJ aS (vJ aA (vJ u0 u2)));have bs:=uv h ak;clear cT c0 a6 aS aA u2 s cj bX h ak;go_wp2;go_loopw [8] (fun i wr=> ∃j:Nat,j<=K.m/\i= .int .i64 j/\Below m.1.size m wr/\OwnI m.1.size wr (some ⟨m.1.size,0,none⟩) K.n K.n (gy K j)) (fun i _=>K.m-(intOf i).toNat)
  case atStart=>exact⟨0,wa _,rfl,ab.out.2,by rw[DH];exact ab.out.1⟩
  case round=>
   obtain⟨j,cv,rfl,I,Y⟩:=hrel;clear ab cA bC;have u:=(I.block w.1.size uA).trans B.out.2.2.2.1;have v1:=DC _ _ 1 _ _ _ u;by_cases A:j<K.m
   ·have F:=B.out.1.trans (I.mono B.out.1.size);obtain⟨L,aB,cL,bR,ba⟩:=bs.out.1.pend.at_ uA;have ad:=b6.out j A;obtain⟨T,bP⟩:=x2 ad.1;have a9:T<K.n:=by have:=ad.2.1;omega
    have k0:wr.cell? ⟨L,aB+j*2,none⟩=some (.int .i64 (T:Int)):=by rw[F.cell (p:=⟨L,aB+j*2,none⟩) bR,<-bP];exact(ba j A).1 0 uA
    have ap:=Y.cell T a9;rw[vT _ _ _ a9]at ap;have ev:=World.ownsRow.frozenAt Y T;have eb:=nP (At:=K.At) (t:=(T:Int)) j;have b3:=Y.set T (((bp K.At (T:Int) j).length:Int)+1);rw[DJ K j T bP]at b3;have ST:Hid _:=b3;have c8:Hid _:=I.setCell (p:=⟨m.1.size,T,none⟩) t6 (.int .i64 (((bp K.At (T:Int) j).length:Int)+1));have cq:(0:Int)<=(j:Int):=uA;have cr:(j:Int)< (K.m:Int):=uA;have d5:(0:Int)<=(T:Int):=uA;have hi4:(T:Int)< (K.n:Int):=uA;clear b3 Y I bP ad u ba F;rw[cL]at v1;generalize (bp K.At (T:Int) j).length=en at*;go_wp2;go_roundw
    case rel=>exact⟨j+1,uA,by go_num,c8.out,ST.out⟩
    case measure=>simp[intOf];omega
   ·have e:j=K.m:=uA;subst e;obtain⟨dc,cl⟩:=aa wr;subst cl;have CS:Hid (CrSt (w.1.size+1+1) l.1.size m.1.size m a K c 0 dc a.sA a.sN a.sC):=⟨B.out.2.1.below I,by rw[DN];exact B.out.2.2.1.below I,Y.mono uA,I.mono uA,uA⟩;clear I Y u;go_wp2;clear v1;go_loopw [9,10,11,12] (fun sn i _ _ wr=> ∃(t:Nat)(aT:Nat->Option Addr)(N aX:Nat->Nat),t<=K.n/\i= .int .i64 t/\sn= .int .i64 (de K t:Nat)/\CrSt (w.1.size+1+1) l.1.size m.1.size m a K c t wr aT N aX) (fun _ i _ _ _=>K.n-(intOf i).toNat)
    case atStart=>exact⟨0,a.sA,a.sN,a.sC,wa _,rfl,rfl,CS.out⟩
    case round=>
     obtain⟨t,aT,N,aX,eC,rfl,rfl,b⟩:=hrel;clear CS;have u:=(b.bel.block w.1.size uA).trans B.out.2.2.2.1;have v0:=DC _ _ 0 _ _ _ u;by_cases A:t<K.n
     ·have dF:=vi K t;have ap:=b.cnt.cell t A;rw[vT _ _ _ A]at ap;change wr.cell? ⟨m.1.size,t,none⟩=some (.int .i64 ((cnt K t:Nat):Int))at ap;have cn:cnt K t<=5000:=by have:=nP (At:=K.At) (t:=(t:Int)) K.m;unfold cnt;omega
      have cq:(0:Int)<=(t:Int):=uA;have cr:(t:Int)< (K.n:Int):=uA;by_cases D:cnt K t=0
      ·have ac:Hid (de K (t+1)=de K t):=by show de K (t+1)= _;simp[de,D]
       have ST:Hid _:=b.skip (nQ (Dd D));rw[D]at ap;clear b D cn;go_wp2;go_roundw
       case rel=>exact⟨t+1,aT,N,aX,uA,by go_num,by rw[ac.out],ST.out⟩
       case measure=>simp[intOf];omega
      have ac:Hid (de K (t+1)=de K t+1):=by show de K (t+1)= _;simp[de,D]
      have d4:(((cnt K t:Nat):Int)==0)=false:=by simp;omega
      have dE:¬(((cnt K t:Nat):Int)+1=0):=uA;have F:=B.out.1.trans (b.bel.mono uA);have G:=bs.out.2.below (B.out.1.trans (b.bel.mono uA));have cP:=Dl G.byte (de K t);have ag:(chB c (de K t)).tmod ((cnt K t:Int)+1)=((chJ K c t:Nat):Int):=by
       obtain⟨eV,ds⟩:=x2 cP.1;unfold chJ;rw[ds,A3 uA];simp
      by_cases cp:n=0
      ·subst cp;have bd:=G.len_eq;have o:chJ K c t=0:=by unfold chJ chB;rw[B4 bd];simp
       have ST:Hid _:=b.skip (nQ o);clear b D ag cP G F bd o;generalize cnt K t=a0 at*;generalize ae:de K t=bA at*;clear ae;go_wp2;go_roundw
       case rel=>exact⟨t+1,aT,N,aX,uA,by go_num,by rw[ac.out];go_num,ST.out⟩
       case measure=>simp[intOf];omega
      have bc:=G.len_eq;have cB:=wg G.le G.le';unfold maxLen at cB;obtain⟨eq,dl,cm,_,bb⟩:=G.at_ uA;have bl:chB c (de K t)=c.getD (de K t%n) 0:=by unfold chB;rw[CH uA,bc]
      have bT:de K t%n<n:=Nat.mod_lt _ uA;have dI:=bb _ bT;rw[<-bl]at dI;have d7:((de K t:Nat):Int).tmod (n:Int)=((de K t%n:Nat):Int):=by rw[A3 uA];omega
      have dD:(0:Int)< (n:Int):=uA;have d2:(0:Int)<=((de K t%n:Nat):Int):=uA;have d3:((de K t%n:Nat):Int)< (n:Int):=uA;subst cm;have a7:Hid _:=qK K c t;clear bl bb bc G;generalize U:cnt K t=a0 at*;generalize ae:de K t=bA at*;generalize chB c bA=y at*;generalize bA%n=eN at*;by_cases o:chJ K c t=0
      ·have ST:Hid _:=b.skip (nQ o);rw[o]at ag;clear b o F ae U;go_wp2;go_roundw
       case rel=>exact⟨t+1,aT,N,aX,uA,by go_num,by rw[ac.out];go_num,ST.out⟩
       case measure=>simp[intOf];omega
      have V:=vj o;obtain⟨am,bg⟩:=vl V;obtain⟨r,bW⟩:∃r,chJ K c t=r+1:=⟨chJ K c t-1,uA⟩;rw[bW,show r+1-1=r by omega]at V am bg;have ea:r<a0:=by have:=a7.out;omega
      have bE:=bDr wr;have O:=b.below bE;have ch:=F.trans (bE.mono F.size);have bu:=bs.out.1.below ch;have W:=bu.pend.data ((bp K.At (t:Int) K.m).getD r 0) am;have bf:d.pN ((bp K.At (t:Int) K.m).getD r 0)=64:=by rw[<-W.len_eq];exact(b6.out _ am).2.2
      rw[bf]at W;have bB:=Dn d.sa d.pa d.sc d.pc d.pA d.pN d.pC K t wr.drew bu.pend cz uA;rw[U]at bB;have R:Hid (∀v:World,Below wr.drew.1.size wr.drew v->v.cell? ⟨l.1.size,0,none⟩=some (.slice (some ⟨H,0,none⟩) K.n a.sc)/\v.cell? ⟨w.1.size,0,none⟩=some (.slice d.sa K.n d.sc)/\v.cell? ⟨w.1.size,1,none⟩=some (.slice d.pa K.m d.pc)):=fun v cM=>by
       have af:=(O.below cM).box.c0;change v.cell? _=some (.slice a.sa K.n a.sc)at af;rw[X]at af;have c2:=(cM.block w.1.size (by show w.1.size<wr.1.size;have:=b.size;omega)).trans (show wr.drew.heap[w.1.size]?= _ from u);exact⟨af,DC _ _ 0 _ _ _ c2,DC _ _ 1 _ _ _ c2⟩
      have cs:=R.out wr.drew t7;have E:=uv O (vJ W V);have bk:(wrV d.pA d.pN d.pC (bp K.At (t:Int) K.m))[r]?=some (.slice (d.pA ((bp K.At (t:Int) K.m).getD r 0)) 64 (d.pC ((bp K.At (t:Int) K.m).getD r 0))):=by
       unfold wrV;have an:r< (bp K.At (t:Int) K.m).length:=by have:=U;unfold cnt at this;omega
       rw[zP,yc,wS an];simp only[Option.map_some,Option.getD_some,Option.some.injEq,D5,and_true,true_and];rw[<-bf,yc,wS an]
       rfl
      have b7:Hid _:=bk;rw[bW]at ag;have d6:y.tmod ((a0:Int)+1)=(r:Int)+1:=by rw[ag];simp
      have ef:IntKind.i64.wrap (r:Int)=(r:Int):=by simp[IntKind.wrap,IntKind.bits,IntKind.signed];omega
      have eK:(0:Int)< (r:Int)+1:=uA;have eL:(0:Int)<=(r:Int):=uA;have eM:(r:Int)< (a0:Int):=uA;clear ag bW bg o b O bE ch F u bk W V U a7;generalize (bp K.At (t:Int) K.m).getD r 0=q at*;go_wp2_with fail;refine az (fun v=>v.cell? ⟨l.1.size,0,none⟩=some (.slice (some ⟨H,0,none⟩) K.n a.sc)/\v.cell? ⟨w.1.size,0,none⟩=some (.slice d.sa K.n d.sc)/\v.cell? ⟨w.1.size,1,none⟩=some (.slice d.pa K.m d.pc)) (fun k=>decide (12<=k)) vk ?_;generalize wr.drew=ek at*;refine au 0 cs ?_;refine au 1 cs ?_;refine au 2 cs ?_;refine au 3 cs ?_;refine au 4 cs ?_;refine au 6 cs ?_;refine au 7 cs ?_;refine ah 5 fun z f=> ?_;go_wp2_with fail;refine bB.mono ?_;rintro e c3 ⟨dd,em,rfl,x,b0⟩;have a2:=R.out c3 x;go_wp2_with fail;refine f.out _ _ (fun _=>a2) ?_;clear f z bB;obtain⟨cg,rfl⟩:∃cg,dd=some ⟨cg,0,none⟩:=by
       rcases b0.2 with⟨e,ex⟩|⟨g,dX,d1,e,_⟩
       ·omega
       ·cases e;exact⟨_,rfl⟩
      have cR:=b0.cellAt r uA;rw[b7.out]at cR;have b8:=jV (d.pA q) 64 (d.pC q) (K.D q) c3 (E.out.2.1.below x) uA;refine ah 8 fun z f=> ?_;go_wp2_with fail;refine f.out _ _ (fun _=>a2) ?_;clear f z;refine ah 9 fun z f=> ?_;go_wp2_with fail;refine f.out _ _ (fun _=>a2) ?_;clear f z;refine ah 10 fun z f=> ?_;go_wp2_with fail;refine b8.mono ?_;rintro e c4 ⟨b9,cb,rfl,ca,cW⟩;have S:=x.trans (ca.mono x.size);have bz:=R.out c4 S;go_wp2_with fail;refine f.out _ _ (fun _=>bz) ?_;clear f z b8;have a8:=E.out.1.below S;have J:=a8.own.safe;change ORecs 0 56 _ c4 a.sa K.n a.sc zI aT N aX (dK (chQ K c) K.D K.S t)at J;rw[X]at J;have cS:=J.cellData t A;rw[show t*(0+1)+0=t by omega]at cS;have dq:=World.ownsRow.frozenAt J.row t;have ST:Hid _:=E.out.1.put X E.out.2.2 A S b9 cb (cW.mono x.size) E.out.2.1.byte;clear a8 J E x ca S b0 cW R bu;refine ah 11 fun z f=> ?_;go_wp2_with fail;refine f.out _ _ (fun _=>bz) ?_;clear f z;refine ah 12 fun z f=> ?_;go_wp2_with fail;refine f.out _ _ (fun h=>absurd h uB) ?_;clear f z;refine bi ?_;clear cS dq a2 bz cs cR;go_wp2;go_roundw
      case rel=>exact⟨t+1,upd aT t b9,upd N t 64,upd aX t cb,uA,by go_num,by rw[ac.out];go_num,ST.out⟩
      case measure=>simp[intOf];omega
     ·have e:t=K.n:=uA;subst e;have b2:=bAl wr (.cells #[] 133);have a4:=b.below b2;have C:(wr.alloc (.cells #[] 133)).heap[l.1.size]?=some (.cells #[.slice a.sa K.n a.sc,.slice a.pa K.m a.pc] 35 (0,0)):=a4.box;have bF:=DC _ _ 1 _ _ _ C;have dr:=frozen_of_row _ _ 1 _ _ C;have bm:=(b.bel.block (w.1.size+1) uA).trans B.out.2.2.2.2;have cD:l.1.size≠w.1.size+1:=uA;have Z:=heap_setCell_same _ _ 1 _ _ (.slice (some ⟨wr.1.size,0,none⟩) 0 0) C;have u6:=(Below.heap_setCell (wr.alloc (.cells #[] 133)) ⟨l.1.size,1,none⟩ (.slice (some ⟨wr.1.size,0,none⟩) 0 0) (w.1.size+1) (fun e=>cD e.symm)).trans ((b2.block _ (by have:=b.size;omega)).trans bm);have Q:=(a4.own.safe.setOther C uB uB 1 (.slice (some ⟨wr.1.size,0,none⟩) 0 0)).congr' (I':=zI) (L':=(crK K c).S) (fun i bS q eB=>rfl) (fun i bS=>Dh _ _ _ bS);have P:=(io 1 133 (w.1.size+1+1) wr b.size (aI (crK K c)) a.pA a.pN a.pC K.D).setOther C uB uB 1 (.slice (some ⟨wr.1.size,0,none⟩) 0 0);have x:=a4.bel.setCell (p:=⟨l.1.size,1,none⟩) b5 (.slice (some ⟨wr.1.size,0,none⟩) 0 0);have E:=uv Z (vJ u6 (vJ Q (vJ P x)));clear b bm u b2 a4 C Z u6 Q P x;go_upto_region 22 with fail
      obtain⟨Z,u6,Q,P,x⟩:=E.out;clear bF dr E;generalize (wr.alloc (.cells #[] 133)).setCell ⟨l.1.size,1,none⟩ (.slice (some ⟨wr.1.size,0,none⟩) 0 0)=ej at*;have e0:=DC _ _ 0 _ _ _ Z;have bF:=DC _ _ 1 _ _ _ Z;have l0:=DC _ _ 0 _ _ _ u6;have bY:=DC _ _ 1 _ _ _ u6;have dp:=frozen_of_row _ _ 0 _ _ u6;have f1:=frozen_of_row _ _ 1 _ _ u6;have a1:=B.out.1.trans (x.mono uA);have da:=uv a1 (vJ Q P);clear Z u6 Q P x a1;go_wp2;obtain⟨a1,Q,P⟩:=da.out;have b4:=(a1.setCell (p:=⟨w.1.size+1,0,none⟩) (by show w.1.size<=w.1.size+1;omega) (.slice (some ⟨H,0,none⟩) K.n a.sc)).setCell (p:=⟨w.1.size+1,1,none⟩) (by show w.1.size<=w.1.size+1;omega) (.slice (some ⟨wr.1.size,0,none⟩) 0 0);have dW:=(Q.setBelow (q:=⟨w.1.size+1,0,none⟩) (x3 _) (.slice (some ⟨H,0,none⟩) K.n a.sc)).setBelow (q:=⟨w.1.size+1,1,none⟩) (x3 _) (.slice (some ⟨wr.1.size,0,none⟩) 0 0);have dP:=(P.setBelow (q:=⟨w.1.size+1,0,none⟩) (x3 _) (.slice (some ⟨H,0,none⟩) K.n a.sc)).setBelow (q:=⟨w.1.size+1,1,none⟩) (x3 _) (.slice (some ⟨wr.1.size,0,none⟩) 0 0);refine B3 (v:= .tuple #[.agg #[.slice (some ⟨H,0,none⟩) K.n a.sc,.slice (some ⟨wr.1.size,0,none⟩) 0 0],.bool true]) (by simp[results,results59,go_sem,l0,bY]) rfl ?_;rw[br.out,bn.out];exact⟨⟨some ⟨H,0,none⟩,a.sc,aT,N,aX,some ⟨wr.1.size,0,none⟩,0,a.pA,a.pN,a.pC⟩,rfl,b4,(by have c1:=dW.mono (B':=w.1.size) uA;rw[show(dU a aT N aX).sa=some ⟨H,0,none⟩from X]at c1;exact c1),dP.mono uA,fun i j bS cv=>absurd cv (xN _)⟩
 ·have br:Hid _:=vS s c;have bn:Hid _:=gk s;rw[gk s];have e0:=aS.c0;have bF:=aS.c1;have l0:=DC _ _ 0 _ _ _ u2;have bY:=DC _ _ 1 _ _ _ u2;have dp:=frozen_of_row _ _ 0 _ _ u2;have f1:=frozen_of_row _ _ 1 _ _ u2;have c9:Hid (Below w.1.size w m):=a6;have bv:Hid _:=aA;clear a6 aA aS bX ak h u0 u2;go_wp2;have b4:=(c9.out.setCell (p:=⟨w.1.size+1,0,none⟩) (by show w.1.size<=w.1.size+1;omega) (.slice a.sa K.n a.sc)).setCell (p:=⟨w.1.size+1,1,none⟩) (by show w.1.size<=w.1.size+1;omega) (.slice a.pa K.m a.pc);have dS:=(bv.out.safe.setBelow (q:=⟨w.1.size+1,0,none⟩) (x3 _) (.slice a.sa K.n a.sc)).setBelow (q:=⟨w.1.size+1,1,none⟩) (x3 _) (.slice a.pa K.m a.pc);have dV:=(bv.out.pend.setBelow (q:=⟨w.1.size+1,0,none⟩) (x3 _) (.slice a.sa K.n a.sc)).setBelow (q:=⟨w.1.size+1,1,none⟩) (x3 _) (.slice a.pa K.m a.pc);refine B3 (v:= .tuple #[.agg #[.slice a.sa K.n a.sc,.slice a.pa K.m a.pc],.bool false]) (by simp[results,results59,go_sem,l0,bY]) rfl ?_;rw[br.out,bn.out];exact⟨a,rfl,b4,dS.mono uA,dV.mono uA,bv.out.sepX⟩
