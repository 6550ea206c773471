import Derived.Test.YtglbanolhhjjiaaGreatDoorFo13
import Derived.Test.YtglbanolhhjjiaaGreatDoorFo15
import Derived.Test.YtglbanolhhjjiaaGreatDoorFo8
namespace Go.Proofs.YtglbanolhhjjiaaGreatDoor
open Go.Proofs.Tryz
open Go.RowKit
set_option linter.unusedVariables false
set_option maxRecDepth 100000
set_option maxHeartbeats 32000000
theorem DG(B g d K k t j on l n w)(hx:IsBox w g d K)(h:ODisk B w d K)(c:dOk K)(f:Bs w j on l n)(r:B<=g):
 Calls prog 103 #[.pointer (some ⟨g,0,none⟩),.agg #[.int .i64 k,.int .i64 t,.slice j on l]] w fun e w'=>e= .returned (.bool (doB K k t on))/\Below B w w'/\∃p,IsBox w' g p (doK K k t n)/\ODisk B w' p (doK K k t n):=by
 have m:=f.len_eq;by_cases i:wrP K k t on
 ·rw[CK i,vd (by rw[m];exact i)];obtain⟨rfl,a,G,rfl,u⟩:=i;obtain⟨T,rfl⟩:=xP a;exact CY B g d.sa d.pa d.sc d.pc d.sA d.pA d.sN d.sC d.pN d.pC K T j l n w hx h t7 c.1.2.1 u f r
 ·by_cases a:syP k t on
  ·rw[CL a,ve (by rw[m];exact a)];obtain⟨rfl,rfl,rfl⟩:=a;obtain⟨q,s,_⟩:=lW h.safe (by have:=c.1.1;omega);obtain⟨E,F,A,D,C,z,pc,v,y,x⟩:=d;have o:E=some ⟨q,0,none⟩:=s;subst o;exact CX B g q F z pc A v D C y x K j l w hx h c r
  ·rw[CM i a,qD (by rw[m];exact i) (by rw[m];exact a)];refine(CZ g d.sa d.pa d.sc d.pc K k t j on l w c.1.2.1 c.1.2.2 (wa f.le f.le') hx i a).mono ?_;rintro e w' ⟨rfl,b⟩;exact⟨rfl,b.mono (by have:=hx.lt;omega),d,hx.below b,h.below b⟩
theorem vO(w:World)(a b):((w.alloc a).alloc b).heap[w.1.size]?=some a/\((w.alloc a).alloc b).heap[w.1.size+1]?=some b:=by
 have d:=D3 w a;have c:=D3 (w.alloc a) b;simp only[World.size_alloc]at c;exact⟨by rw[Below.heap_alloc _ _ _ uB];exact d,c⟩
theorem vP(d K bC n bE k bT N bX L a w)(h:RDisk w d K)(bc:Small d K)(I:RRecs 2 w bC n bE k bT N bX L):
 Calls prog 58 #[av d K,.slice bC n bE,.int .i64 a] w fun e w'=> ∃V,e= .returned (.tuple #[av V (ppK K k N L n a),.int .i64 (cj K k N L n a:Nat)])/\Below w.1.size w w'/\ODisk w.1.size w' V (ppK K k N L n a):=by
 have bz:n<=maxLen:=wa I.le I.le';unfold maxLen at bz;have bF:=fK w (.cells #[.slice d.sa K.n d.sc,.slice d.pa K.m d.pc] 35) (.cells #[.slice none 0 0,.slice none 0 0] 35);obtain⟨bR,bS⟩:=vO w (.cells #[.slice d.sa K.n d.sc,.slice d.pa K.m d.pc] 35) (.cells #[.slice none 0 0,.slice none 0 0] 35);have cp:((w.alloc (.cells #[.slice d.sa K.n d.sc,.slice d.pa K.m d.pc] 35)).alloc (.cells #[.slice none 0 0,.slice none 0 0] 35)).1.size=w.1.size+1+1:=by simp
 have a7:Hid _:=bF;clear bF;unfold av;go_enter func58,ntmps58;go_wp2_with fail;generalize bs:(w.alloc (.cells #[.slice d.sa K.n d.sc,.slice d.pa K.m d.pc] 35)).alloc (.cells #[.slice none 0 0,.slice none 0 0] 35)=z at*;clear bs;refine(mq d K z (h.below a7.out) bc).mono ?_;rintro e r ⟨c,rfl,m,bA,cl,cm⟩;have bk:=nz r c K;have bd:=(BX r.1.size r).alloc t1 (.cells #[.slice c.sa K.n c.sc,.slice c.pa K.m c.pc] 35);have aB:=m.trans (bd.mono m.size);have aS:Below w.1.size w _:=a7.out.trans (aB.mono t7);have bB:=bA.below bd;have ca:=m.size;have u0:=(aB.block w.1.size t7).trans bR;have u1:=(aB.block (w.1.size+1) t7).trans bS;unfold av;clear a7 m bA bd bR bS aB;have b6:=C8 _ _ 0 _ _ _ u0;have b7:=C8 _ _ 1 _ _ _ u0;go_wp2_with fail;generalize bu:r.alloc (.cells #[.slice c.sa K.n c.sc,.slice c.pa K.m c.pc] 35)=b3 at*;clear bu;refine(jt d K b3 (h.below aS)).mono ?_;rintro e bf ⟨rfl,U⟩;have aT:Below w.1.size w bf:=aS.trans (U.mono aS.size);have J:=bk.below U;have a1:=bB.below U;have u1:=(U.block (w.1.size+1) (by have:=bk.lt;omega)).trans u1;clear U aS bk bB u0 b6 b7;by_cases u:dOk K/\n<=5000
 case neg=>
  have ap:Hid _:=qI u k N L a;have aA:Hid _:=Dc u k N L a;have e0:=J.c0;have aX:=J.c1;have l0:=C8 _ _ 0 _ _ _ u1;have ac:=C8 _ _ 1 _ _ _ u1;have br:=frozen_of_row _ _ 0 _ _ u1;have f1:=frozen_of_row _ _ 1 _ _ u1;have bY:Hid (Below w.1.size w bf):=aT;have Q:Hid _:=a1;clear aT a1 J bc I h u1;by_cases o:dOk K;have cn:(5000:Int)< (n:Int):=by have:¬n<=5000:=fun B=>u ⟨o,B⟩;omega
  rw[fj o]
  rotate_left
  rw[gk o]
  all_goals
   clear u;go_wp2;have ak:=(bY.out.setCell (p:=⟨w.1.size+1,0,none⟩) (by show w.1.size<=w.1.size+1;omega) (.slice c.sa K.n c.sc)).setCell (p:=⟨w.1.size+1,1,none⟩) (by show w.1.size<=w.1.size+1;omega) (.slice c.pa K.m c.pc);have af:=(Q.out.safe.setBelow (q:=⟨w.1.size+1,0,none⟩) (by show w.1.size+1<_;omega) (.slice c.sa K.n c.sc)).setBelow (q:=⟨w.1.size+1,1,none⟩) (by show w.1.size+1<_;omega) (.slice c.pa K.m c.pc);have ag:=(Q.out.pend.setBelow (q:=⟨w.1.size+1,0,none⟩) (by show w.1.size+1<_;omega) (.slice c.sa K.n c.sc)).setBelow (q:=⟨w.1.size+1,1,none⟩) (by show w.1.size+1<_;omega) (.slice c.pa K.m c.pc);refine B1 (v:= .tuple #[.agg #[.slice c.sa K.n c.sc,.slice c.pa K.m c.pc],.int .i64 0]) (by simp[results,results58,go_sem,l0,ac]) rfl ?_;rw[ap.out,aA.out];exact⟨c,rfl,ak,af.mono t7,ag.mono t7,Q.out.sepX⟩
 obtain⟨o,a4⟩:=u;have ap:Hid _:=vh o a4 k N L a;have aA:Hid _:=Db o a4 k N L a;have ck:Hid (∀j,j<n->(L j).length=N j):=fun j bx=>(I.data j bx).len_eq;have cg:¬(5000:Int)< (n:Int):=t7;rw[fj o];have b4:Hid _:=J;have b2:Hid _:=a1;have a6:Hid _:=aT;have bl:Hid _:=u1;have cc:=J.lt;clear J a1 aT u1 bc h;go_wp2_with fail;go_loopw [9] (fun i wr=> ∃(j:Nat)(V:DV),j<=iB n a/\i= .int .i64 (j:Nat)/\gP (plB K k N L) (iB n a) 0=gP (plB K k N L) (iB n a-j) j/\Below z.1.size bf wr/\IsBox wr r.1.size V (plK K k L j)/\ODisk z.1.size wr V (plK K k L j)) (fun i _=>iB n a-(intOf i).toNat)
 case atStart=>exact⟨0,c,v6 _,rfl,rfl,t2,b4.out,b2.out⟩
 case round=>
  obtain⟨j,G,bx,rfl,E,H,hx,a0⟩:=hrel;have cb:Hid (iB n a<=n):=Nat.min_le_left _ _;have a3:Hid (∀i:Nat,i<iB n a↔i<n/\(i:Int)<a):=fun i=>by unfold iB;omega
  have ch:=hx.lt;by_cases X:j<iB n a
  ·obtain⟨B,bb⟩:=(a3.out j).1 X;obtain⟨m,l,rfl,C,D⟩:=I.at_ t7;have an:Hid (Below w.1.size w wr):=a6.out.trans (H.mono t7);have k0:wr.cell? ⟨m,l+j*3,none⟩=some (.int .i64 (k j 0)):=by rw[an.out.cell (p:=⟨m,l+j*3,none⟩) C];exact(D j B).1 0 t7
   have b8:wr.cell? ⟨m,l+j*3+1,none⟩=some (.int .i64 (k j 1)):=by rw[an.out.cell (p:=⟨m,l+j*3+1,none⟩) C];exact(D j B).1 1 t7
   have b9:wr.cell? ⟨m,l+j*3+2,none⟩=some (.slice (bT j) (N j) (bX j)):=by rw[an.out.cell (p:=⟨m,l+j*3+2,none⟩) C];exact(D j B).2
   have bP:=(I.data j B).below an.out;have ce:(0:Int)<=(j:Int):=t7;have cf:(j:Int)< (n:Int):=t7;have a2:Hid _:=E;have bZ:Hid _:=H;have b1:Hid _:=hx;have b0:Hid _:=a0;have bm:Hid _:=bP;clear E H hx a0 D bP;go_wp2_with fail;refine(DG z.1.size r.1.size G (plK K k L j) (k j 0) (k j 1) (bT j) (N j) (bX j) (L j) wr b1.out b0.out (mj k L o j) bm.out ca).mono ?_;rintro e x ⟨rfl,bn,F,M,ad⟩;have t:=bZ.out.trans bn;clear bn k0 b8 b9;cases Z:doB (plK K k L j) (k j 0) (k j 1) (N j)with
   |true=>
    have P:Hid _:=a2.out.trans (C7 X Z);have b5:Hid (IsBox x r.1.size F (plK K k L (j+1))):=M;have Q:Hid (ODisk z.1.size x F (plK K k L (j+1))):=ad;have bW:Hid _:=t;clear M ad t Z;go_wp2;go_roundw
    case rel=>exact⟨j+1,F,t7,by go_num,P.out,bW.out,b5.out,Q.out⟩
    case measure=>simp[intOf];omega
   |false=>
    have P:Hid _:=a2.out.trans (C9 X Z);rw[C6 bm.out.len_eq Z]at M ad;have S:Hid (IsBox x r.1.size F (plK K k L j)):=M;have R:Hid (ODisk z.1.size x F (plK K k L j)):=ad;have T:Hid (w.1.size+1<x.1.size):=(by have:=M.lt;show w.1.size+1<x.1.size;omega);have a9:Hid _:=(t.block (w.1.size+1) t7).trans bl.out;have O:Hid (Below w.1.size w x):=a6.out.trans (t.mono t7);obtain⟨am,ab⟩:=aa x;subst ab;obtain⟨G,bv⟩:=aa F;subst bv;clear M ad t Z;have a8:=qE R.out.reads (mj k L o j);have e0:=S.out.c0;have aX:=S.out.c1;go_wp2_with fail;refine(mq G (plK K k L j) am R.out.reads a8).mono ?_;rintro e bg ⟨b,rfl,A,ae,_,_⟩;have u7:=(A.block (w.1.size+1) (wE T.out t1)).trans a9.out;have l0:=C8 _ _ 0 _ _ _ u7;have ac:=C8 _ _ 1 _ _ _ u7;have br:=frozen_of_row _ _ 0 _ _ u7;have f1:=frozen_of_row _ _ 1 _ _ u7;have a5:Hid (Below w.1.size w bg):=O.out.trans (A.mono O.out.size);have y:Hid _:=ae;have ba:Hid (w.1.size+1<am.1.size):=T.out;clear A ae u7 e0 aX;unfold av;generalize W:plK K k L j=g at*;go_wp2;have s:=ba.out;have ak:=(a5.out.setCell (p:=⟨w.1.size+1,0,none⟩) (by show w.1.size<=w.1.size+1;omega) (.slice b.sa g.n b.sc)).setCell (p:=⟨w.1.size+1,1,none⟩) (by show w.1.size<=w.1.size+1;omega) (.slice b.pa g.m b.pc);have af:=(y.out.safe.setBelow (q:=⟨w.1.size+1,0,none⟩) s (.slice b.sa g.n b.sc)).setBelow (q:=⟨w.1.size+1,1,none⟩) s (.slice b.pa g.m b.pc);have ag:=(y.out.pend.setBelow (q:=⟨w.1.size+1,0,none⟩) s (.slice b.sa g.n b.sc)).setBelow (q:=⟨w.1.size+1,1,none⟩) s (.slice b.pa g.m b.pc);refine B1 (v:= .tuple #[.agg #[.slice b.sa g.n b.sc,.slice b.pa g.m b.pc],.int .i64 (j:Nat)]) (by simp[results,results58,go_sem,l0,ac]) rfl ?_;rw[ap.out,aA.out];unfold plN;rw[P.out,W];exact⟨b,rfl,ak,af.mono t7,ag.mono t7,y.out.sepX⟩
  ·have Y:¬(j<n/\(j:Int)<a):=fun h=>X ((a3.out j).2 h);have P:Hid _:=E.trans (Da (f:=plB K k N L) (Nat.le_of_not_lt X));have S:Hid (IsBox wr r.1.size G (plK K k L j)):=hx;have R:Hid (ODisk z.1.size wr G (plK K k L j)):=a0;have T:Hid (w.1.size+1<wr.1.size):=(by show w.1.size+1<wr.1.size;omega);have a9:Hid _:=(H.block (w.1.size+1) t7).trans bl.out;have O:Hid (Below w.1.size w wr):=a6.out.trans (H.mono t7);obtain⟨am,ab⟩:=aa wr;subst ab;clear E H hx a0;by_cases B:(j:Int)< (n:Int);have bb:¬(j:Int)<a:=fun bb=>Y ⟨t7,bb⟩
   rotate_left
   all_goals
    clear Y;have a8:=qE R.out.reads (mj k L o j);have e0:=S.out.c0;have aX:=S.out.c1;go_wp2_with fail;refine(mq G (plK K k L j) am R.out.reads a8).mono ?_;rintro e bg ⟨b,rfl,A,ae,_,_⟩;have u7:=(A.block (w.1.size+1) (wE T.out t1)).trans a9.out;have l0:=C8 _ _ 0 _ _ _ u7;have ac:=C8 _ _ 1 _ _ _ u7;have br:=frozen_of_row _ _ 0 _ _ u7;have f1:=frozen_of_row _ _ 1 _ _ u7;have a5:Hid (Below w.1.size w bg):=O.out.trans (A.mono O.out.size);have y:Hid _:=ae;have ba:Hid (w.1.size+1<am.1.size):=T.out;clear A ae u7 e0 aX;unfold av;generalize W:plK K k L j=g at*;go_wp2;have s:=ba.out;have ak:=(a5.out.setCell (p:=⟨w.1.size+1,0,none⟩) (by show w.1.size<=w.1.size+1;omega) (.slice b.sa g.n b.sc)).setCell (p:=⟨w.1.size+1,1,none⟩) (by show w.1.size<=w.1.size+1;omega) (.slice b.pa g.m b.pc);have af:=(y.out.safe.setBelow (q:=⟨w.1.size+1,0,none⟩) s (.slice b.sa g.n b.sc)).setBelow (q:=⟨w.1.size+1,1,none⟩) s (.slice b.pa g.m b.pc);have ag:=(y.out.pend.setBelow (q:=⟨w.1.size+1,0,none⟩) s (.slice b.sa g.n b.sc)).setBelow (q:=⟨w.1.size+1,1,none⟩) s (.slice b.pa g.m b.pc);refine B1 (v:= .tuple #[.agg #[.slice b.sa g.n b.sc,.slice b.pa g.m b.pc],.int .i64 (j:Nat)]) (by simp[results,results58,go_sem,l0,ac]) rfl ?_;rw[ap.out,aA.out];unfold plN;rw[P.out,W];exact⟨b,rfl,ak,af.mono t7,ag.mono t7,y.out.sepX⟩
noncomputable def iC(K:DK)(c:List Int):DK:=match aR K with|true=>crK K c|false=>K
theorem vQ{K}(h:dOk K)(c):iC K c=crK K c:=by unfold iC;rw[fj h]
theorem vS{K}(h:¬dOk K)(c):iC K c=K:=by unfold iC;rw[gk h]
def gy(K:DK)(j:Nat):List Int:=(List.range K.n).map fun(t:Nat)=>((bp K.At (t:Int) j).length:Int)
theorem nZ(K j):(gy K j).length=K.n:=by simp[gy]
theorem vT(K j t)(h:t<K.n):(gy K j).getD t 0=((bp K.At (t:Int) j).length:Int):=by simp[gy,List.getD,h]
theorem DH(K):gy K 0=List.replicate K.n 0:=by
 unfold gy;apply y6;intro t;by_cases h:t<K.n
 ·simp[h,bp]
 ·simp[h]
theorem DJ(K)(j T:Nat)(d:K.At j=(T:Int)):(gy K j).set T (((bp K.At (T:Int) j).length:Int)+1)=gy K (j+1):=by
 apply y6;intro t;rw[BC,nZ];by_cases a:t<K.n
 ·by_cases e:T=t
  ·subst e;rw[B2 rfl,B2 a];simp[gy,a,nN d]
  ·rw[Ct e];have b:K.At j≠(t:Int):=t7;simp[gy,a,nO b]
 ·split
  ·rename_i c;subst c;rw[Ct a,x6 (by rw[nZ];omega)]
  ·rw[x6 (by rw[nZ];omega),x6 (by rw[nZ];omega)]
theorem OwnI.set{B g w n c l}(h:OwnI B w (some ⟨g,0,none⟩) n c l)(i x):OwnI B (w.setCell ⟨g,i,none⟩ (.int .i64 x)) (some ⟨g,0,none⟩) n c (l.set i x):=by
 have:=(World.ownsRow.stored h i (.int .i64 x)).1;rw[Cd]at this;exact this
theorem DL(k:Nat)(f:k<=1048576)(w):
 (Instr.makeSlice 100 (.int .i64 (k:Int)) (.int .i64 (k:Int))).run prog w= .ok (.slice (some ⟨w.1.size,0,none⟩) k k) (w.alloc (.cells (madeCells #[.int .i64 0] k) 3)):=by
 obtain⟨i,d,a,b,c⟩:=C5 Cb;have e:=run_make (P:=prog) w 100 3 i _ underlying100 d a .i64 .i64 k k t7 (A2 _) (by rw[c];omega) t7;rw[e,b];simp[Value.cells]
theorem DM(B k)(b:k<=1048576)(w:World)(a:B<=w.1.size):OwnI B (w.alloc (.cells (madeCells #[.int .i64 0] k) 3)) (some ⟨w.1.size,0,none⟩) k k (List.replicate k 0):=
 Ce w _ _ k (by rw[toList_madeCells_one];simp[oi]) uB b B a
def dU(d:DV)(A:Nat->Option Addr)(N C:Nat->Nat):DV:=⟨d.sa,d.sc,A,N,C,d.pa,d.pc,d.pA,d.pN,d.pC⟩
def kU(K:DK)(cl:List Int)(t:Nat):DK:=⟨K.n,dK (chQ K cl) K.D K.S t,K.m,K.At,K.D⟩
theorem DN(K a):kU K a 0=K:=by
 have e:dK (chQ K a) K.D K.S 0=K.S:=by funext t;exact Df _ _ _ t
 unfold kU;rw[e]
theorem DO{K a t}(h:chQ K a t=none):kU K a (t+1)=kU K a t:=by
 have e:dK (chQ K a) K.D K.S (t+1)=dK (chQ K a) K.D K.S t:=by funext i;exact Di _ _ h i
 unfold kU;rw[e]
structure CrSt(B ob gc:Nat)(w0:World)(d:DV)(K:DK)(cl:List Int)(t:Nat)(w:World)(A:Nat->Option Addr)(N C:Nat->Nat):Prop where
 box:IsBox w ob (dU d A N C) K
 own:ODisk B w (dU d A N C) (kU K cl t)
 cnt:OwnI B w (some ⟨gc,0,none⟩) K.n K.n (gy K K.m)
 bel:Below B w0 w
 hB:B<=w0.1.size
theorem CrSt.skip{B ob b w0 d K a t w e N f}(h:CrSt B ob b w0 d K a t w e N f)(c:chQ K a t=none):CrSt B ob b w0 d K a (t+1) w e N f:=
 ⟨h.box,by rw[DO c];exact h.own,h.cnt,h.bel,h.hB⟩
theorem CrSt.size{B ob b w0 d K a t w c N e}(h:CrSt B ob b w0 d K a t w c N e):B<=w.1.size:=wa h.hB h.bel.size
theorem CrSt.below{B ob c w0 d K b t w w' e N f}(h:CrSt B ob c w0 d K b t w e N f)(a:Below w.1.size w w'):CrSt B ob c w0 d K b t w' e N f:=
 ⟨h.box.below a,h.own.below a,h.cnt.below a,h.bel.trans (a.mono h.size),h.hB⟩
theorem CrSt.put{B ob A a w0 d K n t q w w' y N z}(h:CrSt B ob A w0 d K n t w y N z)(u:d.sa=some ⟨a,0,none⟩)(H:chQ K n t=some q)(L:t<K.n)(v:Below w.1.size w w')(b c)(F:Own w.1.size w' b 64 c (K.D q))(J:IsB (K.D q)):
 CrSt B ob A w0 d K n (t+1) (w'.setCell ⟨a,t,none⟩ (.slice b 64 c)) (upd y t b) (upd N t 64) (upd z t c):=by
 have r:=h.own.safe;change ORecs 0 56 B w d.sa K.n d.sc zI y N z (dK (chQ K n) K.D K.S t)at r;rw[u]at r;have S:=r.setSlice uv v t L b 64 c (K.D q) F J h.size;rw[show t*(0+1)+0=t by omega]at S;have m:=h.below v;have l:=r.below v;obtain⟨f,fr,D⟩:∃f fr,w'.heap[a]?=some (.cells f 56 fr):=by
  rcases l.row.2 with⟨e,_⟩|⟨g,M,f,e,_,I,_⟩
  ·cases e
  ·cases e;exact⟨f,_,I⟩
 have C:B<=a:=(fA l.row rfl).1;have G:a≠ob:=fun e=>jz l.row m.box uv (by rw[e];rfl);refine⟨?_,⟨?_,?_,?_⟩,?_,?_,h.hB⟩
 ·have:=(Below.heap_setCell w' ⟨a,t,none⟩ (.slice b 64 c) ob (fun e=>G e.symm)).trans m.box;exact this
 ·show ORecs 0 56 B _ d.sa K.n d.sc zI (upd y t b) (upd N t 64) (upd z t c) (dK (chQ K n) K.D K.S (t+1));rw[u];refine S.1.congr' (fun i x q H=>rfl) (fun i x=> ?_);by_cases e:i=t
  ·subst e;rw[be,Dj _ _ H]
  ·rw[bw _ _ _ e,vp _ _ _ e]
 ·exact m.own.pend.setOther D uv uv t _
 ·intro i j x E k o s;change (Value.slice (upd y t b i) (upd N t 64 i) (upd z t c i)).ownBlock=some k at o;by_cases e:i=t
  ·subst e;rw[be,be,be]at o;have O:=(fA F o).1;have P:=(fA (h.own.pend.data j E) s).2;omega
  ·rw[bw _ _ _ e,bw _ _ _ e,bw _ _ _ e]at o;exact h.own.sepX i j x E k o s
 ·refine World.ownsRow.kept m.cnt S.2 (vJ fun e=> ?_);exact jR l.row m.cnt uv a rfl e
 ·exact m.bel.setCell (p:=⟨a,t,none⟩) C _
theorem DQ(d K cf o cg c w)(h:RDisk w d K)(bZ:Small d K)(an:Bs w cf o cg c):
 Calls prog 59 #[av d K,.slice cf o cg] w fun e w'=> ∃ch,e= .returned (.tuple #[av ch (iC K c),.bool (aR K)])/\Below w.1.size w w'/\ODisk w.1.size w' ch (iC K c):=by
 have c1:Below w.1.size w ((w.alloc (.cells #[.slice d.sa K.n d.sc,.slice d.pa K.m d.pc] 35)).alloc (.cells #[.slice none 0 0,.slice none 0 0] 35)):=((BX w.1.size w).alloc uB _).alloc uB _;have bA:Hid _:=c1;clear c1;unfold av;go_enter func59,ntmps59;go_wp2_with fail;refine(mq d K _ (h.below bA.out) bZ).mono ?_;rintro e l ⟨a,rfl,O,b1,ev,ex⟩;have b7:=O.size;simp only[World.size_alloc]at b7 O b1;obtain⟨c8,c9⟩:=vO w (.cells #[.slice d.sa K.n d.sc,.slice d.pa K.m d.pc] 35) (.cells #[.slice none 0 0,.slice none 0 0] 35);have c7:=nz l a K;have b3:=(BX l.1.size l).alloc t1 (.cells #[.slice a.sa K.n a.sc,.slice a.pa K.m a.pc] 35);have a5:=O.trans (b3.mono b7);have a7:Below w.1.size w _:=bA.out.trans (a5.mono t7);have cX:=b1.below b3;have eV:(l.alloc (.cells #[.slice a.sa K.n a.sc,.slice a.pa K.m a.pc] 35)).1.size=l.1.size+1:=by simp
 have u0:=(a5.block w.1.size t7).trans c8;have u2:=(a5.block (w.1.size+1) t7).trans c9;unfold av;clear bA O b1 b3 c8 c9 a5;have bF:=C8 _ _ 0 _ _ _ u0;have dp:=C8 _ _ 1 _ _ _ u0;go_wp2_with fail;generalize cm:l.alloc (.cells #[.slice a.sa K.n a.sc,.slice a.pa K.m a.pc] 35)=dd at*;clear cm;refine(jt d K dd (h.below a7)).mono ?_;rintro e m ⟨rfl,P⟩;have a8:=a7.trans (P.mono a7.size);have aX:=c7.below P;have aS:=cX.below P;have u0:=(P.block w.1.size t7).trans u0;have u2:=(P.block (w.1.size+1) t7).trans u2;have eW:=P.size;clear P a7 c7 cX bF dp;by_cases u:dOk K
 ·have bu:Hid _:=vQ u c;have bs:Hid _:=fj u;rw[fj u];obtain⟨⟨ea,eb,cB⟩,_,cl⟩:=id u;have b8:Hid _:=cl;obtain⟨J,Z,_⟩:=lW aS.safe t7;have bF:=C8 _ _ 0 _ _ _ u0;have cD:=DL K.n t7 m;have cW:=DM m.1.size K.n t7 m t1;have c2:=bAl m (.cells (madeCells #[.int .i64 0] K.n) 3);have ad:=t6 cW c2;have C:=t6 a8 (vk aX (vk aS (vk u0 u2)));have bv:=t6 h an;clear cW c2 a8 aX aS u2 u cl bZ h an;go_wp2;go_loopw [8] (fun i wr=> ∃j:Nat,j<=K.m/\i= .int .i64 j/\Below m.1.size m wr/\OwnI m.1.size wr (some ⟨m.1.size,0,none⟩) K.n K.n (gy K j)) (fun i _=>K.m-(intOf i).toNat)
  case atStart=>exact⟨0,v6 _,rfl,ad.out.2,by rw[DH];exact ad.out.1⟩
  case round=>
   obtain⟨j,cA,rfl,L,ab⟩:=hrel;clear ad cD bF;have x:=(L.block w.1.size t7).trans C.out.2.2.2.1;have v1:=C8 _ _ 1 _ _ _ x;by_cases B:j<K.m
   ·have H:=C.out.1.trans (L.mono C.out.1.size);obtain⟨O,aT,cP,bT,bc⟩:=bv.out.1.pend.at_ t7;have af:=b8.out j B;obtain⟨T,bS⟩:=xP af.1;have bb:T<K.n:=by have:=af.2.1;omega
    have k0:wr.cell? ⟨O,aT+j*2,none⟩=some (.int .i64 (T:Int)):=by rw[H.cell (p:=⟨O,aT+j*2,none⟩) bT,<-bS];exact(bc j B).1 0 t7
    have aB:=ab.cell T bb;rw[vT _ _ _ bb]at aB;have eB:=World.ownsRow.frozenAt ab T;have ej:=nP (At:=K.At) (t:=(T:Int)) j;have b5:=ab.set T (((bp K.At (T:Int) j).length:Int)+1);rw[DJ K j T bS]at b5;have ST:Hid _:=b5;have da:Hid _:=L.setCell (p:=⟨m.1.size,T,none⟩) t1 (.int .i64 (((bp K.At (T:Int) j).length:Int)+1));have cv:(0:Int)<=(j:Int):=t7;have cz:(j:Int)< (K.m:Int):=t7;have d7:(0:Int)<=(T:Int):=t7;have hi4:(T:Int)< (K.n:Int):=t7;clear b5 ab L bS af x bc H;rw[cP]at v1;generalize (bp K.At (T:Int) j).length=es at*;go_wp2;go_roundw
    case rel=>exact⟨j+1,t7,by go_num,da.out,ST.out⟩
    case measure=>simp[intOf];omega
   ·have e:j=K.m:=t7;subst e;obtain⟨dk,cn⟩:=aa wr;subst cn;have CS:Hid (CrSt (w.1.size+1+1) l.1.size m.1.size m a K c 0 dk a.sA a.sN a.sC):=⟨C.out.2.1.below L,by rw[DN];exact C.out.2.2.1.below L,ab.mono t7,L.mono t7,t7⟩;clear L ab x;go_wp2;clear v1;go_loopw [9,10,11,12] (fun sn i _ _ wr=> ∃(t:Nat)(a0:Nat->Option Addr)(N a1:Nat->Nat),t<=K.n/\i= .int .i64 t/\sn= .int .i64 (de K t:Nat)/\CrSt (w.1.size+1+1) l.1.size m.1.size m a K c t wr a0 N a1) (fun _ i _ _ _=>K.n-(intOf i).toNat)
    case atStart=>exact⟨0,a.sA,a.sN,a.sC,v6 _,rfl,rfl,CS.out⟩
    case round=>
     obtain⟨t,a0,N,a1,eL,rfl,rfl,b⟩:=hrel;clear CS;have x:=(b.bel.block w.1.size t7).trans C.out.2.2.2.1;have v0:=C8 _ _ 0 _ _ _ x;by_cases B:t<K.n
     ·have dP:=vi K t;have aB:=b.cnt.cell t B;rw[vT _ _ _ B]at aB;change wr.cell? ⟨m.1.size,t,none⟩=some (.int .i64 ((n K t:Nat):Int))at aB;have cq:n K t<=5000:=by have:=nP (At:=K.At) (t:=(t:Int)) K.m;unfold n;omega
      have cv:(0:Int)<=(t:Int):=t7;have cz:(t:Int)< (K.n:Int):=t7;by_cases F:n K t=0
      ·have ae:Hid (de K (t+1)=de K t):=by show de K (t+1)= _;simp[de,F]
       have ST:Hid _:=b.skip (nQ (Dd F));rw[F]at aB;clear b F cq;go_wp2;go_roundw
       case rel=>exact⟨t+1,a0,N,a1,t7,by go_num,by rw[ae.out],ST.out⟩
       case measure=>simp[intOf];omega
      have ae:Hid (de K (t+1)=de K t+1):=by show de K (t+1)= _;simp[de,F]
      have d6:(((n K t:Nat):Int)==0)=false:=by simp;omega
      have dI:¬(((n K t:Nat):Int)+1=0):=t7;have H:=C.out.1.trans (b.bel.mono t7);have I:=bv.out.2.below (C.out.1.trans (b.bel.mono t7));have cS:=Dl I.byte (de K t);have am:(chB c (de K t)).tmod ((n K t:Int)+1)=((E K c t:Nat):Int):=by
       obtain⟨e1,dE⟩:=xP cS.1;unfold E;rw[dE,A1 t7];simp
      by_cases cr:o=0
      ·subst cr;have bg:=I.len_eq;have s:E K c t=0:=by unfold E chB;rw[B2 bg];simp
       have ST:Hid _:=b.skip (nQ s);clear b F am cS I H bg s;generalize n K t=a2 at*;generalize ag:de K t=bC at*;clear ag;go_wp2;go_roundw
       case rel=>exact⟨t+1,a0,N,a1,t7,by go_num,by rw[ae.out];go_num,ST.out⟩
       case measure=>simp[intOf];omega
      have bf:=I.len_eq;have cL:=wa I.le I.le';unfold maxLen at cL;obtain⟨et,dq,cp,_,bd⟩:=I.at_ t7;have bn:chB c (de K t)=c.getD (de K t%o) 0:=by unfold chB;rw[Ct t7,bf]
      have bX:de K t%o<o:=Nat.mod_lt _ t7;have dS:=bd _ bX;rw[<-bn]at dS;have d9:((de K t:Nat):Int).tmod (o:Int)=((de K t%o:Nat):Int):=by rw[A1 t7];omega
      have dF:(0:Int)< (o:Int):=t7;have d4:(0:Int)<=((de K t%o:Nat):Int):=t7;have d5:((de K t%o:Nat):Int)< (o:Int):=t7;subst cp;have a9:Hid _:=qK K c t;clear bn bd bf I;generalize W:n K t=a2 at*;generalize ag:de K t=bC at*;generalize chB c bC=y at*;generalize bC%o=eU at*;by_cases s:E K c t=0
      ·have ST:Hid _:=b.skip (nQ s);rw[s]at am;clear b s H ag W;go_wp2;go_roundw
       case rel=>exact⟨t+1,a0,N,a1,t7,by go_num,by rw[ae.out];go_num,ST.out⟩
       case measure=>simp[intOf];omega
      have X:=vj s;obtain⟨ap,bl⟩:=vl X;obtain⟨r,bY⟩:∃r,E K c t=r+1:=⟨E K c t-1,t7⟩;rw[bY,show r+1-1=r by omega]at X ap bl;have ef:r<a2:=by have:=a9.out;omega
      have bP:=bDr wr;have Q:=b.below bP;have ck:=H.trans (bP.mono H.size);have bx:=bv.out.1.below ck;have Y:=bx.pend.data ((bp K.At (t:Int) K.m).getD r 0) ap;have bk:d.pN ((bp K.At (t:Int) K.m).getD r 0)=64:=by rw[<-Y.len_eq];exact(b8.out _ ap).2.2
      rw[bk]at Y;have bE:=Dn d.sa d.pa d.sc d.pc d.pA d.pN d.pC K t wr.drew bx.pend cB t7;rw[W]at bE;have U:Hid (∀v:World,Below wr.drew.1.size wr.drew v->v.cell? ⟨l.1.size,0,none⟩=some (.slice (some ⟨J,0,none⟩) K.n a.sc)/\v.cell? ⟨w.1.size,0,none⟩=some (.slice d.sa K.n d.sc)/\v.cell? ⟨w.1.size,1,none⟩=some (.slice d.pa K.m d.pc)):=fun v cR=>by
       have ak:=(Q.below cR).box.c0;change v.cell? _=some (.slice a.sa K.n a.sc)at ak;rw[Z]at ak;have c4:=(cR.block w.1.size (by show w.1.size<wr.1.size;have:=b.size;omega)).trans (show wr.drew.heap[w.1.size]?= _ from x);exact⟨ak,C8 _ _ 0 _ _ _ c4,C8 _ _ 1 _ _ _ c4⟩
      have cs:=U.out wr.drew t2;have G:=t6 Q (vk Y X);have bm:(wrV d.pA d.pN d.pC (bp K.At (t:Int) K.m))[r]?=some (.slice (d.pA ((bp K.At (t:Int) K.m).getD r 0)) 64 (d.pC ((bp K.At (t:Int) K.m).getD r 0))):=by
       unfold wrV;have aA:r< (bp K.At (t:Int) K.m).length:=by have:=W;unfold n at this;omega
       rw[zs,ya,wQ aA];simp only[Option.map_some,Option.getD_some,Option.some.injEq,D2,and_true,true_and];rw[<-bk,ya,wQ aA]
       rfl
      have b9:Hid _:=bm;rw[bY]at am;have d8:y.tmod ((a2:Int)+1)=(r:Int)+1:=by rw[am];simp
      have ek:IntKind.i64.wrap (r:Int)=(r:Int):=by simp[IntKind.wrap,IntKind.bits,IntKind.signed];omega
      have eM:(0:Int)< (r:Int)+1:=t7;have eN:(0:Int)<=(r:Int):=t7;have eR:(r:Int)< (a2:Int):=t7;clear am bY bl s b Q bP ck H x bm Y X W a9;generalize (bp K.At (t:Int) K.m).getD r 0=q at*;go_wp2_with fail;refine az (fun v=>v.cell? ⟨l.1.size,0,none⟩=some (.slice (some ⟨J,0,none⟩) K.n a.sc)/\v.cell? ⟨w.1.size,0,none⟩=some (.slice d.sa K.n d.sc)/\v.cell? ⟨w.1.size,1,none⟩=some (.slice d.pa K.m d.pc)) (fun k=>decide (12<=k)) uA ?_;generalize wr.drew=en at*;refine au 0 cs ?_;refine au 1 cs ?_;refine au 2 cs ?_;refine au 3 cs ?_;refine au 4 cs ?_;refine au 6 cs ?_;refine au 7 cs ?_;refine ah 5 fun A f=> ?_;go_wp2_with fail;refine bE.mono ?_;rintro e c5 ⟨dl,eq,rfl,z,b2⟩;have a4:=U.out c5 z;go_wp2_with fail;refine f.out _ _ (fun _=>a4) ?_;clear f A bE;obtain⟨cj,rfl⟩:∃cj,dl=some ⟨cj,0,none⟩:=by
       rcases b2.2 with⟨e,eC⟩|⟨g,d2,d3,e,_⟩
       ·omega
       ·cases e;exact⟨_,rfl⟩
      have cT:=b2.cellAt r t7;rw[b9.out]at cT;have ca:=jV (d.pA q) 64 (d.pC q) (K.D q) c5 (G.out.2.1.below z) t7;refine ah 8 fun A f=> ?_;go_wp2_with fail;refine f.out _ _ (fun _=>a4) ?_;clear f A;refine ah 9 fun A f=> ?_;go_wp2_with fail;refine f.out _ _ (fun _=>a4) ?_;clear f A;refine ah 10 fun A f=> ?_;go_wp2_with fail;refine ca.mono ?_;rintro e c6 ⟨cb,ce,rfl,cc,c0⟩;have V:=z.trans (cc.mono z.size);have bB:=U.out c6 V;go_wp2_with fail;refine f.out _ _ (fun _=>bB) ?_;clear f A ca;have ba:=G.out.1.below V;have M:=ba.own.safe;change ORecs 0 56 _ c6 a.sa K.n a.sc zI a0 N a1 (dK (chQ K c) K.D K.S t)at M;rw[Z]at M;have cV:=M.cellData t B;rw[show t*(0+1)+0=t by omega]at cV;have ds:=World.ownsRow.frozenAt M.row t;have ST:Hid _:=G.out.1.put Z G.out.2.2 B V cb ce (c0.mono z.size) G.out.2.1.byte;clear ba M G z cc V b2 c0 U bx;refine ah 11 fun A f=> ?_;go_wp2_with fail;refine f.out _ _ (fun _=>bB) ?_;clear f A;refine ah 12 fun A f=> ?_;go_wp2_with fail;refine f.out _ _ (fun h=>absurd h uv) ?_;clear f A;refine bi ?_;clear cV ds a4 bB cs cT;go_wp2;go_roundw
      case rel=>exact⟨t+1,upd a0 t cb,upd N t 64,upd a1 t ce,t7,by go_num,by rw[ae.out];go_num,ST.out⟩
      case measure=>simp[intOf];omega
     ·have e:t=K.n:=t7;subst e;have b4:=bAl wr (.cells #[] 133);have a6:=b.below b4;have D:(wr.alloc (.cells #[] 133)).heap[l.1.size]?=some (.cells #[.slice a.sa K.n a.sc,.slice a.pa K.m a.pc] 35 (0,0)):=a6.box;have bR:=C8 _ _ 1 _ _ _ D;have dD:=frozen_of_row _ _ 1 _ _ D;have br:=(b.bel.block (w.1.size+1) t7).trans C.out.2.2.2.2;have cM:l.1.size≠w.1.size+1:=t7;have ac:=heap_setCell_same _ _ 1 _ _ (.slice (some ⟨wr.1.size,0,none⟩) 0 0) D;have u6:=(Below.heap_setCell (wr.alloc (.cells #[] 133)) ⟨l.1.size,1,none⟩ (.slice (some ⟨wr.1.size,0,none⟩) 0 0) (w.1.size+1) (fun e=>cM e.symm)).trans ((b4.block _ (by have:=b.size;omega)).trans br);have S:=(a6.own.safe.setOther D uv uv 1 (.slice (some ⟨wr.1.size,0,none⟩) 0 0)).congr' (I':=zI) (L':=(crK K c).S) (fun i bW q eK=>rfl) (fun i bW=>Dh _ _ _ bW);have R:=(io 1 133 (w.1.size+1+1) wr b.size (aI (crK K c)) a.pA a.pN a.pC K.D).setOther D uv uv 1 (.slice (some ⟨wr.1.size,0,none⟩) 0 0);have z:=a6.bel.setCell (p:=⟨l.1.size,1,none⟩) b7 (.slice (some ⟨wr.1.size,0,none⟩) 0 0);have G:=t6 ac (vk u6 (vk S (vk R z)));clear b br x b4 a6 D ac u6 S R z;go_upto_region 22 with fail
      obtain⟨ac,u6,S,R,z⟩:=G.out;clear bR dD G;generalize (wr.alloc (.cells #[] 133)).setCell ⟨l.1.size,1,none⟩ (.slice (some ⟨wr.1.size,0,none⟩) 0 0)=em at*;have e0:=C8 _ _ 0 _ _ _ ac;have bR:=C8 _ _ 1 _ _ _ ac;have l0:=C8 _ _ 0 _ _ _ u6;have b0:=C8 _ _ 1 _ _ _ u6;have dr:=frozen_of_row _ _ 0 _ _ u6;have f1:=frozen_of_row _ _ 1 _ _ u6;have a3:=C.out.1.trans (z.mono t7);have dc:=t6 a3 (vk S R);clear ac u6 S R z a3;go_wp2;obtain⟨a3,S,R⟩:=dc.out;have b6:=(a3.setCell (p:=⟨w.1.size+1,0,none⟩) (by show w.1.size<=w.1.size+1;omega) (.slice (some ⟨J,0,none⟩) K.n a.sc)).setCell (p:=⟨w.1.size+1,1,none⟩) (by show w.1.size<=w.1.size+1;omega) (.slice (some ⟨wr.1.size,0,none⟩) 0 0);have d1:=(S.setBelow (q:=⟨w.1.size+1,0,none⟩) (x0 _) (.slice (some ⟨J,0,none⟩) K.n a.sc)).setBelow (q:=⟨w.1.size+1,1,none⟩) (x0 _) (.slice (some ⟨wr.1.size,0,none⟩) 0 0);have dV:=(R.setBelow (q:=⟨w.1.size+1,0,none⟩) (x0 _) (.slice (some ⟨J,0,none⟩) K.n a.sc)).setBelow (q:=⟨w.1.size+1,1,none⟩) (x0 _) (.slice (some ⟨wr.1.size,0,none⟩) 0 0);refine B1 (v:= .tuple #[.agg #[.slice (some ⟨J,0,none⟩) K.n a.sc,.slice (some ⟨wr.1.size,0,none⟩) 0 0],.bool true]) (by simp[results,results59,go_sem,l0,b0]) rfl ?_;rw[bu.out,bs.out];exact⟨⟨some ⟨J,0,none⟩,a.sc,a0,N,a1,some ⟨wr.1.size,0,none⟩,0,a.pA,a.pN,a.pC⟩,rfl,b6,(by have c3:=d1.mono (B':=w.1.size) t7;rw[show(dU a a0 N a1).sa=some ⟨J,0,none⟩from Z]at c3;exact c3),dV.mono t7,fun i j bW cA=>absurd cA (xA _)⟩
 ·have bu:Hid _:=vS u c;have bs:Hid _:=gk u;rw[gk u];have e0:=aX.c0;have bR:=aX.c1;have l0:=C8 _ _ 0 _ _ _ u2;have b0:=C8 _ _ 1 _ _ _ u2;have dr:=frozen_of_row _ _ 0 _ _ u2;have f1:=frozen_of_row _ _ 1 _ _ u2;have db:Hid (Below w.1.size w m):=a8;have bz:Hid _:=aS;clear a8 aS aX bZ an h u0 u2;go_wp2;have b6:=(db.out.setCell (p:=⟨w.1.size+1,0,none⟩) (by show w.1.size<=w.1.size+1;omega) (.slice a.sa K.n a.sc)).setCell (p:=⟨w.1.size+1,1,none⟩) (by show w.1.size<=w.1.size+1;omega) (.slice a.pa K.m a.pc);have dW:=(bz.out.safe.setBelow (q:=⟨w.1.size+1,0,none⟩) (x0 _) (.slice a.sa K.n a.sc)).setBelow (q:=⟨w.1.size+1,1,none⟩) (x0 _) (.slice a.pa K.m a.pc);have dX:=(bz.out.pend.setBelow (q:=⟨w.1.size+1,0,none⟩) (x0 _) (.slice a.sa K.n a.sc)).setBelow (q:=⟨w.1.size+1,1,none⟩) (x0 _) (.slice a.pa K.m a.pc);refine B1 (v:= .tuple #[.agg #[.slice a.sa K.n a.sc,.slice a.pa K.m a.pc],.bool false]) (by simp[results,results59,go_sem,l0,b0]) rfl ?_;rw[bu.out,bs.out];exact⟨a,rfl,b6,dW.mono t7,dX.mono t7,bz.out.sepX⟩
