import Derived.Test.YtglbanolhhjjiaaGreatDoorFo13
import Derived.Test.YtglbanolhhjjiaaGreatDoorFo15
import Derived.Test.YtglbanolhhjjiaaGreatDoorFo8
namespace Go.Proofs.YtglbanolhhjjiaaGreatDoor
open Go.Proofs.Tryz
open Go.RowKit
set_option linter.unusedVariables false
set_option maxRecDepth 100000
set_option maxHeartbeats 32000000
theorem DG(B g d K k t i on j m w)(hx:IsBox w g d K)(s:ODisk B w d K)(c:dOk K)(f:Bs w i on j m)(q:B<=g):
 Calls prog 103 #[.pointer (some ⟨g,0,none⟩),.agg #[.int .i64 k,.int .i64 t,.slice i on j]] w fun e w'=>e= .returned (.bool (doB K k t on))/\Below B w w'/\∃o,IsBox w' g o (doK K k t m)/\ODisk B w' o (doK K k t m):=by
 have l:=f.len_eq;by_cases h:wrP K k t on
 ·rw[CK h,vd (by rw[l];exact h)];obtain⟨rfl,a,G,rfl,u⟩:=h;obtain⟨T,rfl⟩:=xb a;exact CY B g d.sa d.pa d.sc d.pc d.sA d.pA d.sN d.sC d.pN d.pC K T i j m w hx s t7 c.1.2.1 u f q
 ·by_cases a:syP k t on
  ·rw[CL a,ve (by rw[l];exact a)];obtain⟨rfl,rfl,rfl⟩:=a;obtain⟨p,r,_⟩:=lW s.safe (by have:=c.1.1;omega);obtain⟨E,F,A,D,C,z,pc,v,y,x⟩:=d;have n:E=some ⟨p,0,none⟩:=r;subst n;exact CX B g p F z pc A v D C y x K i j w hx s c q
  ·rw[CM h a,qD (by rw[l];exact h) (by rw[l];exact a)];refine(CZ g d.sa d.pa d.sc d.pc K k t i on j w c.1.2.1 c.1.2.2 (u9 f.le f.le') hx h a).mono ?_;rintro e w' ⟨rfl,b⟩;exact⟨rfl,b.mono (by have:=hx.lt;omega),d,hx.below b,s.below b⟩
theorem vO(w:World)(a b):((w.alloc a).alloc b).heap[w.1.size]?=some a/\((w.alloc a).alloc b).heap[w.1.size+1]?=some b:=by
 have d:=DI w a;have c:=DI (w.alloc a) b;simp only[World.size_alloc]at c;exact⟨by rw[Below.heap_alloc _ _ _ uB];exact d,c⟩
theorem vP(d K bE n bF h bW N bY L a w)(bl:RDisk w d K)(bc:Small d K)(I:RRecs 2 w bE n bF h bW N bY L):
 Calls prog 58 #[av d K,.slice bE n bF,.int .i64 a] w fun e w'=> ∃V,e= .returned (.tuple #[av V (ppK K h N L n a),.int .i64 (ck K h N L n a:Nat)])/\Below w.1.size w w'/\ODisk w.1.size w' V (ppK K h N L n a):=by
 have bA:n<=maxLen:=u9 I.le I.le';unfold maxLen at bA;have bP:=fK w (.cells #[.slice d.sa K.n d.sc,.slice d.pa K.m d.pc] 35) (.cells #[.slice none 0 0,.slice none 0 0] 35);obtain⟨bS,bT⟩:=vO w (.cells #[.slice d.sa K.n d.sc,.slice d.pa K.m d.pc] 35) (.cells #[.slice none 0 0,.slice none 0 0] 35);have cq:((w.alloc (.cells #[.slice d.sa K.n d.sc,.slice d.pa K.m d.pc] 35)).alloc (.cells #[.slice none 0 0,.slice none 0 0] 35)).1.size=w.1.size+1+1:=by simp
 have a7:Hid _:=bP;clear bP;unfold av;go_enter func58,ntmps58;go_wp2_with fail;generalize bu:(w.alloc (.cells #[.slice d.sa K.n d.sc,.slice d.pa K.m d.pc] 35)).alloc (.cells #[.slice none 0 0,.slice none 0 0] 35)=z at*;clear bu;refine(mq d K z (bl.below a7.out) bc).mono ?_;rintro e r ⟨c,rfl,l,bB,cm,cn⟩;have bk:=nz r c K;have bd:=(Bn r.1.size r).alloc t1 (.cells #[.slice c.sa K.n c.sc,.slice c.pa K.m c.pc] 35);have aB:=l.trans (bd.mono l.size);have aS:Below w.1.size w _:=a7.out.trans (aB.mono t7);have bC:=bB.below bd;have cb:=l.size;have u0:=(aB.block w.1.size t7).trans bS;have u1:=(aB.block (w.1.size+1) t7).trans bT;unfold av;clear a7 l bB bd bS bT aB;have b7:=CV _ _ 0 _ _ _ u0;have b8:=CV _ _ 1 _ _ _ u0;go_wp2_with fail;generalize bv:r.alloc (.cells #[.slice c.sa K.n c.sc,.slice c.pa K.m c.pc] 35)=b4 at*;clear bv;refine(jt d K b4 (bl.below aS)).mono ?_;rintro e bf ⟨rfl,U⟩;have aT:Below w.1.size w bf:=aS.trans (U.mono aS.size);have J:=bk.below U;have a1:=bC.below U;have u1:=(U.block (w.1.size+1) (by have:=bk.lt;omega)).trans u1;clear U aS bk bC u0 b7 b8;by_cases u:dOk K/\n<=5000
 case neg=>
  have ap:Hid _:=qI u h N L a;have aA:Hid _:=Dc u h N L a;have e0:=J.c0;have aX:=J.c1;have l0:=CV _ _ 0 _ _ _ u1;have ac:=CV _ _ 1 _ _ _ u1;have bs:=frozen_of_row _ _ 0 _ _ u1;have f1:=frozen_of_row _ _ 1 _ _ u1;have bZ:Hid (Below w.1.size w bf):=aT;have Q:Hid _:=a1;clear aT a1 J bc I bl u1;by_cases o:dOk K;have cp:(5000:Int)< (n:Int):=by have:¬n<=5000:=fun B=>u ⟨o,B⟩;omega
  rw[fj o]
  rotate_left
  rw[gk o]
  all_goals
   clear u;go_wp2;have ak:=(bZ.out.setCell (p:=⟨w.1.size+1,0,none⟩) (by show w.1.size<=w.1.size+1;omega) (.slice c.sa K.n c.sc)).setCell (p:=⟨w.1.size+1,1,none⟩) (by show w.1.size<=w.1.size+1;omega) (.slice c.pa K.m c.pc);have af:=(Q.out.safe.setBelow (q:=⟨w.1.size+1,0,none⟩) (by show w.1.size+1<_;omega) (.slice c.sa K.n c.sc)).setBelow (q:=⟨w.1.size+1,1,none⟩) (by show w.1.size+1<_;omega) (.slice c.pa K.m c.pc);have ag:=(Q.out.pend.setBelow (q:=⟨w.1.size+1,0,none⟩) (by show w.1.size+1<_;omega) (.slice c.sa K.n c.sc)).setBelow (q:=⟨w.1.size+1,1,none⟩) (by show w.1.size+1<_;omega) (.slice c.pa K.m c.pc);refine BB (v:= .tuple #[.agg #[.slice c.sa K.n c.sc,.slice c.pa K.m c.pc],.int .i64 0]) (by simp[results,results58,go_sem,l0,ac]) rfl ?_;rw[ap.out,aA.out];exact⟨c,rfl,ak,af.mono t7,ag.mono t7,Q.out.sepX⟩
 obtain⟨o,a4⟩:=u;have ap:Hid _:=vh o a4 h N L a;have aA:Hid _:=Db o a4 h N L a;have cl:Hid (∀j,j<n->(L j).length=N j):=fun j bz=>(I.data j bz).len_eq;have ch:¬(5000:Int)< (n:Int):=t7;rw[fj o];have b5:Hid _:=J;have b3:Hid _:=a1;have a6:Hid _:=aT;have bm:Hid _:=u1;have ce:=J.lt;clear J a1 aT u1 bc bl;go_wp2_with fail;go_loopw [9] (fun i wr=> ∃(j:Nat)(V:DV),j<=iB n a/\i= .int .i64 (j:Nat)/\gP (plB K h N L) (iB n a) 0=gP (plB K h N L) (iB n a-j) j/\Below z.1.size bf wr/\IsBox wr r.1.size V (plK K h L j)/\ODisk z.1.size wr V (plK K h L j)) (fun i _=>iB n a-(intOf i).toNat)
 case atStart=>exact⟨0,c,u6 _,rfl,rfl,t2,b5.out,b3.out⟩
 case round=>
  obtain⟨j,G,bz,rfl,E,H,hx,a0⟩:=hrel;have cc:Hid (iB n a<=n):=Nat.min_le_left _ _;have a3:Hid (∀i:Nat,i<iB n a↔i<n/\(i:Int)<a):=fun i=>by unfold iB;omega
  have cj:=hx.lt;by_cases X:j<iB n a
  ·obtain⟨B,bb⟩:=(a3.out j).1 X;obtain⟨l,k,rfl,C,D⟩:=I.at_ t7;have an:Hid (Below w.1.size w wr):=a6.out.trans (H.mono t7);have k0:wr.cell? ⟨l,k+j*3,none⟩=some (.int .i64 (h j 0)):=by rw[an.out.cell (p:=⟨l,k+j*3,none⟩) C];exact(D j B).1 0 t7
   have b9:wr.cell? ⟨l,k+j*3+1,none⟩=some (.int .i64 (h j 1)):=by rw[an.out.cell (p:=⟨l,k+j*3+1,none⟩) C];exact(D j B).1 1 t7
   have ca:wr.cell? ⟨l,k+j*3+2,none⟩=some (.slice (bW j) (N j) (bY j)):=by rw[an.out.cell (p:=⟨l,k+j*3+2,none⟩) C];exact(D j B).2
   have bR:=(I.data j B).below an.out;have cf:(0:Int)<=(j:Int):=t7;have cg:(j:Int)< (n:Int):=t7;have a2:Hid _:=E;have b0:Hid _:=H;have b2:Hid _:=hx;have b1:Hid _:=a0;have bn:Hid _:=bR;clear E H hx a0 D bR;go_wp2_with fail;refine(DG z.1.size r.1.size G (plK K h L j) (h j 0) (h j 1) (bW j) (N j) (bY j) (L j) wr b2.out b1.out (mj h L o j) bn.out cb).mono ?_;rintro e x ⟨rfl,br,F,M,ad⟩;have t:=b0.out.trans br;clear br k0 b9 ca;cases Z:doB (plK K h L j) (h j 0) (h j 1) (N j)with
   |true=>
    have P:Hid _:=a2.out.trans (C7 X Z);have b6:Hid (IsBox x r.1.size F (plK K h L (j+1))):=M;have Q:Hid (ODisk z.1.size x F (plK K h L (j+1))):=ad;have bX:Hid _:=t;clear M ad t Z;go_wp2;go_roundw
    case rel=>exact⟨j+1,F,t7,by go_num,P.out,bX.out,b6.out,Q.out⟩
    case measure=>simp[intOf];omega
   |false=>
    have P:Hid _:=a2.out.trans (C9 X Z);rw[C6 bn.out.len_eq Z]at M ad;have S:Hid (IsBox x r.1.size F (plK K h L j)):=M;have R:Hid (ODisk z.1.size x F (plK K h L j)):=ad;have T:Hid (w.1.size+1<x.1.size):=(by have:=M.lt;show w.1.size+1<x.1.size;omega);have a9:Hid _:=(t.block (w.1.size+1) t7).trans bm.out;have O:Hid (Below w.1.size w x):=a6.out.trans (t.mono t7);obtain⟨am,ab⟩:=aa x;subst ab;obtain⟨G,bx⟩:=aa F;subst bx;clear M ad t Z;have a8:=qE R.out.reads (mj h L o j);have e0:=S.out.c0;have aX:=S.out.c1;go_wp2_with fail;refine(mq G (plK K h L j) am R.out.reads a8).mono ?_;rintro e bg ⟨b,rfl,A,ae,_,_⟩;have m:=(A.block (w.1.size+1) (ws T.out t1)).trans a9.out;have l0:=CV _ _ 0 _ _ _ m;have ac:=CV _ _ 1 _ _ _ m;have bs:=frozen_of_row _ _ 0 _ _ m;have f1:=frozen_of_row _ _ 1 _ _ m;have a5:Hid (Below w.1.size w bg):=O.out.trans (A.mono O.out.size);have y:Hid _:=ae;have ba:Hid (w.1.size+1<am.1.size):=T.out;clear A ae m e0 aX;unfold av;generalize W:plK K h L j=g at*;go_wp2;have s:=ba.out;have ak:=(a5.out.setCell (p:=⟨w.1.size+1,0,none⟩) (by show w.1.size<=w.1.size+1;omega) (.slice b.sa g.n b.sc)).setCell (p:=⟨w.1.size+1,1,none⟩) (by show w.1.size<=w.1.size+1;omega) (.slice b.pa g.m b.pc);have af:=(y.out.safe.setBelow (q:=⟨w.1.size+1,0,none⟩) s (.slice b.sa g.n b.sc)).setBelow (q:=⟨w.1.size+1,1,none⟩) s (.slice b.pa g.m b.pc);have ag:=(y.out.pend.setBelow (q:=⟨w.1.size+1,0,none⟩) s (.slice b.sa g.n b.sc)).setBelow (q:=⟨w.1.size+1,1,none⟩) s (.slice b.pa g.m b.pc);refine BB (v:= .tuple #[.agg #[.slice b.sa g.n b.sc,.slice b.pa g.m b.pc],.int .i64 (j:Nat)]) (by simp[results,results58,go_sem,l0,ac]) rfl ?_;rw[ap.out,aA.out];unfold plN;rw[P.out,W];exact⟨b,rfl,ak,af.mono t7,ag.mono t7,y.out.sepX⟩
  ·have Y:¬(j<n/\(j:Int)<a):=fun bl=>X ((a3.out j).2 bl);have P:Hid _:=E.trans (Da (f:=plB K h N L) (Nat.le_of_not_lt X));have S:Hid (IsBox wr r.1.size G (plK K h L j)):=hx;have R:Hid (ODisk z.1.size wr G (plK K h L j)):=a0;have T:Hid (w.1.size+1<wr.1.size):=(by show w.1.size+1<wr.1.size;omega);have a9:Hid _:=(H.block (w.1.size+1) t7).trans bm.out;have O:Hid (Below w.1.size w wr):=a6.out.trans (H.mono t7);obtain⟨am,ab⟩:=aa wr;subst ab;clear E H hx a0;by_cases B:(j:Int)< (n:Int);have bb:¬(j:Int)<a:=fun bb=>Y ⟨t7,bb⟩
   rotate_left
   all_goals
    clear Y;have a8:=qE R.out.reads (mj h L o j);have e0:=S.out.c0;have aX:=S.out.c1;go_wp2_with fail;refine(mq G (plK K h L j) am R.out.reads a8).mono ?_;rintro e bg ⟨b,rfl,A,ae,_,_⟩;have m:=(A.block (w.1.size+1) (ws T.out t1)).trans a9.out;have l0:=CV _ _ 0 _ _ _ m;have ac:=CV _ _ 1 _ _ _ m;have bs:=frozen_of_row _ _ 0 _ _ m;have f1:=frozen_of_row _ _ 1 _ _ m;have a5:Hid (Below w.1.size w bg):=O.out.trans (A.mono O.out.size);have y:Hid _:=ae;have ba:Hid (w.1.size+1<am.1.size):=T.out;clear A ae m e0 aX;unfold av;generalize W:plK K h L j=g at*;go_wp2;have s:=ba.out;have ak:=(a5.out.setCell (p:=⟨w.1.size+1,0,none⟩) (by show w.1.size<=w.1.size+1;omega) (.slice b.sa g.n b.sc)).setCell (p:=⟨w.1.size+1,1,none⟩) (by show w.1.size<=w.1.size+1;omega) (.slice b.pa g.m b.pc);have af:=(y.out.safe.setBelow (q:=⟨w.1.size+1,0,none⟩) s (.slice b.sa g.n b.sc)).setBelow (q:=⟨w.1.size+1,1,none⟩) s (.slice b.pa g.m b.pc);have ag:=(y.out.pend.setBelow (q:=⟨w.1.size+1,0,none⟩) s (.slice b.sa g.n b.sc)).setBelow (q:=⟨w.1.size+1,1,none⟩) s (.slice b.pa g.m b.pc);refine BB (v:= .tuple #[.agg #[.slice b.sa g.n b.sc,.slice b.pa g.m b.pc],.int .i64 (j:Nat)]) (by simp[results,results58,go_sem,l0,ac]) rfl ?_;rw[ap.out,aA.out];unfold plN;rw[P.out,W];exact⟨b,rfl,ak,af.mono t7,ag.mono t7,y.out.sepX⟩
noncomputable def iC(K:DK)(c:List Int):DK:=match aR K with|true=>crK K c|false=>K
theorem vQ{K}(a:dOk K)(c):iC K c=crK K c:=by unfold iC;rw[fj a]
theorem vS{K}(a:¬dOk K)(c):iC K c=K:=by unfold iC;rw[gk a]
def gy(K:DK)(j:Nat):List Int:=(List.range K.n).map fun(t:Nat)=>((bp K.At (t:Int) j).length:Int)
theorem nZ(K j):(gy K j).length=K.n:=by simp[gy]
theorem vT(K j t)(a:t<K.n):(gy K j).getD t 0=((bp K.At (t:Int) j).length:Int):=by simp[gy,List.getD,a]
theorem DH(K):gy K 0=List.replicate K.n 0:=by
 unfold gy;apply yc;intro t;by_cases a:t<K.n
 ·simp[a,bp]
 ·simp[a]
theorem DJ(K)(j T:Nat)(d:K.At j=(T:Int)):(gy K j).set T (((bp K.At (T:Int) j).length:Int)+1)=gy K (j+1):=by
 apply yc;intro t;rw[A2,nZ];by_cases a:t<K.n
 ·by_cases e:T=t
  ·subst e;rw[BC rfl,BC a];simp[gy,a,nN d]
  ·rw[BX e];have b:K.At j≠(t:Int):=t7;simp[gy,a,nO b]
 ·split
  ·rename_i c;subst c;rw[BX a,xN (by rw[nZ];omega)]
  ·rw[xN (by rw[nZ];omega),xN (by rw[nZ];omega)]
theorem OwnI.set{B g w n c l}(a:OwnI B w (some ⟨g,0,none⟩) n c l)(i x):OwnI B (w.setCell ⟨g,i,none⟩ (.int .i64 x)) (some ⟨g,0,none⟩) n c (l.set i x):=by
 have:=(World.ownsRow.stored a i (.int .i64 x)).1;rw[Cd]at this;exact this
theorem DL(k:Nat)(f:k<=1048576)(w):
 (Instr.makeSlice 100 (.int .i64 (k:Int)) (.int .i64 (k:Int))).run prog w= .ok (.slice (some ⟨w.1.size,0,none⟩) k k) (w.alloc (.cells (madeCells #[.int .i64 0] k) 3)):=by
 obtain⟨i,d,a,b,c⟩:=CT Cb;have e:=run_make (P:=prog) w 100 3 i _ underlying100 d a .i64 .i64 k k t7 (z7 _) (by rw[c];omega) t7;rw[e,b];simp[Value.cells]
theorem DM(B k)(b:k<=1048576)(w:World)(a:B<=w.1.size):OwnI B (w.alloc (.cells (madeCells #[.int .i64 0] k) 3)) (some ⟨w.1.size,0,none⟩) k k (List.replicate k 0):=
 Ce w _ _ k (by rw[toList_madeCells_one];simp[oi]) uB b B a
def dU(d:DV)(A:Nat->Option Addr)(N C:Nat->Nat):DV:=⟨d.sa,d.sc,A,N,C,d.pa,d.pc,d.pA,d.pN,d.pC⟩
def kU(K:DK)(cl:List Int)(t:Nat):DK:=⟨K.n,dK (chQ K cl) K.D K.S t,K.m,K.At,K.D⟩
theorem DN(K a):kU K a 0=K:=by
 have e:dK (chQ K a) K.D K.S 0=K.S:=by funext t;exact Df _ _ _ t
 unfold kU;rw[e]
theorem DO{K a t}(b:chQ K a t=none):kU K a (t+1)=kU K a t:=by
 have e:dK (chQ K a) K.D K.S (t+1)=dK (chQ K a) K.D K.S t:=by funext i;exact Di _ _ b i
 unfold kU;rw[e]
structure CrSt(B ob gc:Nat)(w0:World)(d:DV)(K:DK)(cl:List Int)(t:Nat)(w:World)(A:Nat->Option Addr)(N C:Nat->Nat):Prop where
 box:IsBox w ob (dU d A N C) K
 own:ODisk B w (dU d A N C) (kU K cl t)
 cnt:OwnI B w (some ⟨gc,0,none⟩) K.n K.n (gy K K.m)
 bel:Below B w0 w
 hB:B<=w0.1.size
theorem CrSt.skip{B ob b w0 d K a t w f N g}(c:CrSt B ob b w0 d K a t w f N g)(e:chQ K a t=none):CrSt B ob b w0 d K a (t+1) w f N g:=
 ⟨c.box,by rw[DO e];exact c.own,c.cnt,c.bel,c.hB⟩
theorem CrSt.size{B ob b w0 d K a t w e N f}(c:CrSt B ob b w0 d K a t w e N f):B<=w.1.size:=u9 c.hB c.bel.size
theorem CrSt.below{B ob e w0 d K c t w w' f N g}(b:CrSt B ob e w0 d K c t w f N g)(a:Below w.1.size w w'):CrSt B ob e w0 d K c t w' f N g:=
 ⟨b.box.below a,b.own.below a,b.cnt.below a,b.bel.trans (a.mono b.size),b.hB⟩
theorem CrSt.put{B ob A a w0 d K m t q w w' y N z}(x:CrSt B ob A w0 d K m t w y N z)(s:d.sa=some ⟨a,0,none⟩)(H:chQ K m t=some q)(L:t<K.n)(u:Below w.1.size w w')(b c)(F:Own w.1.size w' b 64 c (K.D q))(J:IsB (K.D q)):
 CrSt B ob A w0 d K m (t+1) (w'.setCell ⟨a,t,none⟩ (.slice b 64 c)) (upd y t b) (upd N t 64) (upd z t c):=by
 have o:=x.own.safe;change ORecs 0 56 B w d.sa K.n d.sc zI y N z (dK (chQ K m) K.D K.S t)at o;rw[s]at o;have S:=o.setSlice uv u t L b 64 c (K.D q) F J x.size;rw[show t*(0+1)+0=t by omega]at S;have l:=x.below u;have h:=o.below u;obtain⟨f,fr,D⟩:∃f fr,w'.heap[a]?=some (.cells f 56 fr):=by
  rcases h.row.2 with⟨e,_⟩|⟨g,M,f,e,_,I,_⟩
  ·cases e
  ·cases e;exact⟨f,_,I⟩
 have C:B<=a:=(fA h.row rfl).1;have G:a≠ob:=fun e=>jz h.row l.box uv (by rw[e];rfl);refine⟨?_,⟨?_,?_,?_⟩,?_,?_,x.hB⟩
 ·have:=(Below.heap_setCell w' ⟨a,t,none⟩ (.slice b 64 c) ob (fun e=>G e.symm)).trans l.box;exact this
 ·show ORecs 0 56 B _ d.sa K.n d.sc zI (upd y t b) (upd N t 64) (upd z t c) (dK (chQ K m) K.D K.S (t+1));rw[s];refine S.1.congr' (fun i v q H=>rfl) (fun i v=> ?_);by_cases e:i=t
  ·subst e;rw[be,Dj _ _ H]
  ·rw[bw _ _ _ e,vp _ _ _ e]
 ·exact l.own.pend.setOther D uv uv t _
 ·intro i j v E k n r;change (Value.slice (upd y t b i) (upd N t 64 i) (upd z t c i)).ownBlock=some k at n;by_cases e:i=t
  ·subst e;rw[be,be,be]at n;have O:=(fA F n).1;have P:=(fA (x.own.pend.data j E) r).2;omega
  ·rw[bw _ _ _ e,bw _ _ _ e,bw _ _ _ e]at n;exact x.own.sepX i j v E k n r
 ·refine World.ownsRow.kept l.cnt S.2 (u4 fun e=> ?_);exact jR h.row l.cnt uv a rfl e
 ·exact l.bel.setCell (p:=⟨a,t,none⟩) C _
theorem DQ(d K ch n cj c w)(bT:RDisk w d K)(b1:Small d K)(ap:Bs w ch n cj c):
 Calls prog 59 #[av d K,.slice ch n cj] w fun e w'=> ∃ck,e= .returned (.tuple #[av ck (iC K c),.bool (aR K)])/\Below w.1.size w w'/\ODisk w.1.size w' ck (iC K c):=by
 have c3:Below w.1.size w ((w.alloc (.cells #[.slice d.sa K.n d.sc,.slice d.pa K.m d.pc] 35)).alloc (.cells #[.slice none 0 0,.slice none 0 0] 35)):=((Bn w.1.size w).alloc uB _).alloc uB _;have bB:Hid _:=c3;clear c3;unfold av;go_enter func59,ntmps59;go_wp2_with fail;refine(mq d K _ (bT.below bB.out) b1).mono ?_;rintro e h ⟨a,rfl,P,b3,eB,eC⟩;have b9:=P.size;simp only[World.size_alloc]at b9 P b3;obtain⟨da,db⟩:=vO w (.cells #[.slice d.sa K.n d.sc,.slice d.pa K.m d.pc] 35) (.cells #[.slice none 0 0,.slice none 0 0] 35);have c9:=nz h a K;have b5:=(Bn h.1.size h).alloc t1 (.cells #[.slice a.sa K.n a.sc,.slice a.pa K.m a.pc] 35);have a6:=P.trans (b5.mono b9);have a8:Below w.1.size w _:=bB.out.trans (a6.mono t7);have c1:=b3.below b5;have e1:(h.alloc (.cells #[.slice a.sa K.n a.sc,.slice a.pa K.m a.pc] 35)).1.size=h.1.size+1:=by simp
 have u0:=(a6.block w.1.size t7).trans da;have G:=(a6.block (w.1.size+1) t7).trans db;unfold av;clear bB P b3 b5 da db a6;have bP:=CV _ _ 0 _ _ _ u0;have dr:=CV _ _ 1 _ _ _ u0;go_wp2_with fail;generalize cp:h.alloc (.cells #[.slice a.sa K.n a.sc,.slice a.pa K.m a.pc] 35)=dl at*;clear cp;refine(jt d K dl (bT.below a8)).mono ?_;rintro e l ⟨rfl,Q⟩;have a9:=a8.trans (Q.mono a8.size);have a0:=c9.below Q;have aT:=c1.below Q;have u0:=(Q.block w.1.size t7).trans u0;have G:=(Q.block (w.1.size+1) t7).trans G;have e2:=Q.size;clear Q a8 c9 c1 bP dr;by_cases s:dOk K
 ·have bv:Hid _:=vQ s c;have bu:Hid _:=fj s;rw[fj s];obtain⟨⟨ef,ej,cL⟩,_,cn⟩:=id s;have ca:Hid _:=cn;obtain⟨J,ab,_⟩:=lW aT.safe t7;have bP:=CV _ _ 0 _ _ _ u0;have cM:=DL K.n t7 l;have c0:=DM l.1.size K.n t7 l t1;have c4:=bAl l (.cells (madeCells #[.int .i64 0] K.n) 3);have ae:=t6 c0 c4;have B:=t6 a9 (u2 a0 (u2 aT (u2 u0 G)));have bx:=t6 bT ap;clear c0 c4 a9 a0 aT G s cn b1 bT ap;go_wp2;go_loopw [8] (fun i wr=> ∃j:Nat,j<=K.m/\i= .int .i64 j/\Below l.1.size l wr/\OwnI l.1.size wr (some ⟨l.1.size,0,none⟩) K.n K.n (gy K j)) (fun i _=>K.m-(intOf i).toNat)
  case atStart=>exact⟨0,u6 _,rfl,ae.out.2,by rw[DH];exact ae.out.1⟩
  case round=>
   obtain⟨j,cD,rfl,L,ac⟩:=hrel;clear ae cM bP;have u:=(L.block w.1.size t7).trans B.out.2.2.2.1;have v1:=CV _ _ 1 _ _ _ u;by_cases A:j<K.m
   ·have H:=B.out.1.trans (L.mono B.out.1.size);obtain⟨P,aX,cS,bX,bd⟩:=bx.out.1.pend.at_ t7;have ag:=ca.out j A;obtain⟨T,bW⟩:=xb ag.1;have bc:T<K.n:=by have:=ag.2.1;omega
    have k0:wr.cell? ⟨P,aX+j*2,none⟩=some (.int .i64 (T:Int)):=by rw[H.cell (p:=⟨P,aX+j*2,none⟩) bX,<-bW];exact(bd j A).1 0 t7
    have aS:=ac.cell T bc;rw[vT _ _ _ bc]at aS;have eK:=World.ownsRow.frozenAt ac T;have em:=nP (At:=K.At) (t:=(T:Int)) j;have b7:=ac.set T (((bp K.At (T:Int) j).length:Int)+1);rw[DJ K j T bW]at b7;have ST:Hid _:=b7;have dc:Hid _:=L.setCell (p:=⟨l.1.size,T,none⟩) t1 (.int .i64 (((bp K.At (T:Int) j).length:Int)+1));have cA:(0:Int)<=(j:Int):=t7;have cB:(j:Int)< (K.m:Int):=t7;have d9:(0:Int)<=(T:Int):=t7;have hi4:(T:Int)< (K.n:Int):=t7;clear b7 ac L bW ag u bd H;rw[cS]at v1;generalize (bp K.At (T:Int) j).length=ev at*;go_wp2;go_roundw
    case rel=>exact⟨j+1,t7,by go_num,dc.out,ST.out⟩
    case measure=>simp[intOf];omega
   ·have e:j=K.m:=t7;subst e;obtain⟨dp,cq⟩:=aa wr;subst cq;have CS:Hid (CrSt (w.1.size+1+1) h.1.size l.1.size l a K c 0 dp a.sA a.sN a.sC):=⟨B.out.2.1.below L,by rw[DN];exact B.out.2.2.1.below L,ac.mono t7,L.mono t7,t7⟩;clear L ac u;go_wp2;clear v1;go_loopw [9,10,11,12] (fun sn i _ _ wr=> ∃(t:Nat)(a1:Nat->Option Addr)(N a2:Nat->Nat),t<=K.n/\i= .int .i64 t/\sn= .int .i64 (de K t:Nat)/\CrSt (w.1.size+1+1) h.1.size l.1.size l a K c t wr a1 N a2) (fun _ i _ _ _=>K.n-(intOf i).toNat)
    case atStart=>exact⟨0,a.sA,a.sN,a.sC,u6 _,rfl,rfl,CS.out⟩
    case round=>
     obtain⟨t,a1,N,a2,eN,rfl,rfl,b⟩:=hrel;clear CS;have u:=(b.bel.block w.1.size t7).trans B.out.2.2.2.1;have v0:=CV _ _ 0 _ _ _ u;by_cases A:t<K.n
     ·have dV:=vi K t;have aS:=b.cnt.cell t A;rw[vT _ _ _ A]at aS;change wr.cell? ⟨l.1.size,t,none⟩=some (.int .i64 ((m K t:Nat):Int))at aS;have cv:m K t<=5000:=by have:=nP (At:=K.At) (t:=(t:Int)) K.m;unfold m;omega
      have cA:(0:Int)<=(t:Int):=t7;have cB:(t:Int)< (K.n:Int):=t7;by_cases E:m K t=0
      ·have af:Hid (de K (t+1)=de K t):=by show de K (t+1)= _;simp[de,E]
       have ST:Hid _:=b.skip (nQ (Dd E));rw[E]at aS;clear b E cv;go_wp2;go_roundw
       case rel=>exact⟨t+1,a1,N,a2,t7,by go_num,by rw[af.out],ST.out⟩
       case measure=>simp[intOf];omega
      have af:Hid (de K (t+1)=de K t+1):=by show de K (t+1)= _;simp[de,E]
      have d8:(((m K t:Nat):Int)==0)=false:=by simp;omega
      have dS:¬(((m K t:Nat):Int)+1=0):=t7;have H:=B.out.1.trans (b.bel.mono t7);have I:=bx.out.2.below (B.out.1.trans (b.bel.mono t7));have cV:=Dl I.byte (de K t);have an:(chB c (de K t)).tmod ((m K t:Int)+1)=((D K c t:Nat):Int):=by
       obtain⟨e3,dI⟩:=xb cV.1;unfold D;rw[dI,z6 t7];simp
      by_cases cz:n=0
      ·subst cz;have bk:=I.len_eq;have o:D K c t=0:=by unfold D chB;rw[BC bk];simp
       have ST:Hid _:=b.skip (nQ o);clear b E an cV I H bk o;generalize m K t=a3 at*;generalize ak:de K t=bE at*;clear ak;go_wp2;go_roundw
       case rel=>exact⟨t+1,a1,N,a2,t7,by go_num,by rw[af.out];go_num,ST.out⟩
       case measure=>simp[intOf];omega
      have bg:=I.len_eq;have cP:=u9 I.le I.le';unfold maxLen at cP;obtain⟨ex,ds,cr,_,bf⟩:=I.at_ t7;have br:chB c (de K t)=c.getD (de K t%n) 0:=by unfold chB;rw[BX t7,bg]
      have bZ:de K t%n<n:=Nat.mod_lt _ t7;have dW:=bf _ bZ;rw[<-br]at dW;have eb:((de K t:Nat):Int).tmod (n:Int)=((de K t%n:Nat):Int):=by rw[z6 t7];omega
      have dP:(0:Int)< (n:Int):=t7;have d6:(0:Int)<=((de K t%n:Nat):Int):=t7;have d7:((de K t%n:Nat):Int)< (n:Int):=t7;subst cr;have ba:Hid _:=qK K c t;clear br bf bg I;generalize X:m K t=a3 at*;generalize ak:de K t=bE at*;generalize chB c bE=y at*;generalize bE%n=eW at*;by_cases o:D K c t=0
      ·have ST:Hid _:=b.skip (nQ o);rw[o]at an;clear b o H ak X;go_wp2;go_roundw
       case rel=>exact⟨t+1,a1,N,a2,t7,by go_num,by rw[af.out];go_num,ST.out⟩
       case measure=>simp[intOf];omega
      have Y:=vj o;obtain⟨aA,bm⟩:=vl Y;obtain⟨r,b0⟩:∃r,D K c t=r+1:=⟨D K c t-1,t7⟩;rw[b0,show r+1-1=r by omega]at Y aA bm;have ek:r<a3:=by have:=ba.out;omega
      have bR:=bDr wr;have R:=b.below bR;have cm:=H.trans (bR.mono H.size);have bz:=bx.out.1.below cm;have Z:=bz.pend.data ((bp K.At (t:Int) K.m).getD r 0) aA;have bl:d.pN ((bp K.At (t:Int) K.m).getD r 0)=64:=by rw[<-Z.len_eq];exact(ca.out _ aA).2.2
      rw[bl]at Z;have bF:=Dn d.sa d.pa d.sc d.pc d.pA d.pN d.pC K t wr.drew bz.pend cL t7;rw[X]at bF;have V:Hid (∀v:World,Below wr.drew.1.size wr.drew v->v.cell? ⟨h.1.size,0,none⟩=some (.slice (some ⟨J,0,none⟩) K.n a.sc)/\v.cell? ⟨w.1.size,0,none⟩=some (.slice d.sa K.n d.sc)/\v.cell? ⟨w.1.size,1,none⟩=some (.slice d.pa K.m d.pc)):=fun v cT=>by
       have am:=(R.below cT).box.c0;change v.cell? _=some (.slice a.sa K.n a.sc)at am;rw[ab]at am;have c6:=(cT.block w.1.size (by show w.1.size<wr.1.size;have:=b.size;omega)).trans (show wr.drew.heap[w.1.size]?= _ from u);exact⟨am,CV _ _ 0 _ _ _ c6,CV _ _ 1 _ _ _ c6⟩
      have cs:=V.out wr.drew t2;have F:=t6 R (u2 Z Y);have bn:(wrV d.pA d.pN d.pC (bp K.At (t:Int) K.m))[r]?=some (.slice (d.pA ((bp K.At (t:Int) K.m).getD r 0)) 64 (d.pC ((bp K.At (t:Int) K.m).getD r 0))):=by
       unfold wrV;have aB:r< (bp K.At (t:Int) K.m).length:=by have:=X;unfold m at this;omega
       rw[y2,x3,wy aB];simp only[Option.map_some,Option.getD_some,Option.some.injEq,DC,and_true,true_and];rw[<-bl,x3,wy aB]
       rfl
      have cb:Hid _:=bn;rw[b0]at an;have ea:y.tmod ((a3:Int)+1)=(r:Int)+1:=by rw[an];simp
      have en:IntKind.i64.wrap (r:Int)=(r:Int):=by simp[IntKind.wrap,IntKind.bits,IntKind.signed];omega
      have eR:(0:Int)< (r:Int)+1:=t7;have eU:(0:Int)<=(r:Int):=t7;have eV:(r:Int)< (a3:Int):=t7;clear an b0 bm o b R bR cm H u bn Z Y X ba;generalize (bp K.At (t:Int) K.m).getD r 0=q at*;go_wp2_with fail;refine az (fun v=>v.cell? ⟨h.1.size,0,none⟩=some (.slice (some ⟨J,0,none⟩) K.n a.sc)/\v.cell? ⟨w.1.size,0,none⟩=some (.slice d.sa K.n d.sc)/\v.cell? ⟨w.1.size,1,none⟩=some (.slice d.pa K.m d.pc)) (fun k=>decide (12<=k)) uA ?_;generalize wr.drew=es at*;refine au 0 cs ?_;refine au 1 cs ?_;refine au 2 cs ?_;refine au 3 cs ?_;refine au 4 cs ?_;refine au 6 cs ?_;refine au 7 cs ?_;refine ah 5 fun z f=> ?_;go_wp2_with fail;refine bF.mono ?_;rintro e c7 ⟨dq,et,rfl,x,b4⟩;have a5:=V.out c7 x;go_wp2_with fail;refine f.out _ _ (fun _=>a5) ?_;clear f z bF;obtain⟨cl,rfl⟩:∃cl,dq=some ⟨cl,0,none⟩:=by
       rcases b4.2 with⟨e,eL⟩|⟨g,d4,d5,e,_⟩
       ·omega
       ·cases e;exact⟨_,rfl⟩
      have cW:=b4.cellAt r t7;rw[cb.out]at cW;have cc:=jV (d.pA q) 64 (d.pC q) (K.D q) c7 (F.out.2.1.below x) t7;refine ah 8 fun z f=> ?_;go_wp2_with fail;refine f.out _ _ (fun _=>a5) ?_;clear f z;refine ah 9 fun z f=> ?_;go_wp2_with fail;refine f.out _ _ (fun _=>a5) ?_;clear f z;refine ah 10 fun z f=> ?_;go_wp2_with fail;refine cc.mono ?_;rintro e c8 ⟨ce,cg,rfl,cf,c2⟩;have W:=x.trans (cf.mono x.size);have bC:=V.out c8 W;go_wp2_with fail;refine f.out _ _ (fun _=>bC) ?_;clear f z cc;have bb:=F.out.1.below W;have M:=bb.own.safe;change ORecs 0 56 _ c8 a.sa K.n a.sc zI a1 N a2 (dK (chQ K c) K.D K.S t)at M;rw[ab]at M;have cX:=M.cellData t A;rw[show t*(0+1)+0=t by omega]at cX;have dE:=World.ownsRow.frozenAt M.row t;have ST:Hid _:=F.out.1.put ab F.out.2.2 A W ce cg (c2.mono x.size) F.out.2.1.byte;clear bb M F x cf W b4 c2 V bz;refine ah 11 fun z f=> ?_;go_wp2_with fail;refine f.out _ _ (fun _=>bC) ?_;clear f z;refine ah 12 fun z f=> ?_;go_wp2_with fail;refine f.out _ _ (fun bT=>absurd bT uv) ?_;clear f z;refine bi ?_;clear cX dE a5 bC cs cW;go_wp2;go_roundw
      case rel=>exact⟨t+1,upd a1 t ce,upd N t 64,upd a2 t cg,t7,by go_num,by rw[af.out];go_num,ST.out⟩
      case measure=>simp[intOf];omega
     ·have e:t=K.n:=t7;subst e;have b6:=bAl wr (.cells #[] 133);have a7:=b.below b6;have C:(wr.alloc (.cells #[] 133)).heap[h.1.size]?=some (.cells #[.slice a.sa K.n a.sc,.slice a.pa K.m a.pc] 35 (0,0)):=a7.box;have bS:=CV _ _ 1 _ _ _ C;have dF:=frozen_of_row _ _ 1 _ _ C;have bs:=(b.bel.block (w.1.size+1) t7).trans B.out.2.2.2.2;have cR:h.1.size≠w.1.size+1:=t7;have ad:=heap_setCell_same _ _ 1 _ _ (.slice (some ⟨wr.1.size,0,none⟩) 0 0) C;have O:=(Below.heap_setCell (wr.alloc (.cells #[] 133)) ⟨h.1.size,1,none⟩ (.slice (some ⟨wr.1.size,0,none⟩) 0 0) (w.1.size+1) (fun e=>cR e.symm)).trans ((b6.block _ (by have:=b.size;omega)).trans bs);have U:=(a7.own.safe.setOther C uv uv 1 (.slice (some ⟨wr.1.size,0,none⟩) 0 0)).congr' (I':=zI) (L':=(crK K c).S) (fun i bY q eM=>rfl) (fun i bY=>Dh _ _ _ bY);have S:=(io 1 133 (w.1.size+1+1) wr b.size (aI (crK K c)) a.pA a.pN a.pC K.D).setOther C uv uv 1 (.slice (some ⟨wr.1.size,0,none⟩) 0 0);have x:=a7.bel.setCell (p:=⟨h.1.size,1,none⟩) b9 (.slice (some ⟨wr.1.size,0,none⟩) 0 0);have F:=t6 ad (u2 O (u2 U (u2 S x)));clear b bs u b6 a7 C ad O U S x;go_upto_region 22 with fail
      obtain⟨ad,O,U,S,x⟩:=F.out;clear bS dF F;generalize (wr.alloc (.cells #[] 133)).setCell ⟨h.1.size,1,none⟩ (.slice (some ⟨wr.1.size,0,none⟩) 0 0)=eq at*;have e0:=CV _ _ 0 _ _ _ ad;have bS:=CV _ _ 1 _ _ _ ad;have l0:=CV _ _ 0 _ _ _ O;have b2:=CV _ _ 1 _ _ _ O;have dD:=frozen_of_row _ _ 0 _ _ O;have f1:=frozen_of_row _ _ 1 _ _ O;have a4:=B.out.1.trans (x.mono t7);have dk:=t6 a4 (u2 U S);clear ad O U S x a4;go_wp2;obtain⟨a4,U,S⟩:=dk.out;have b8:=(a4.setCell (p:=⟨w.1.size+1,0,none⟩) (by show w.1.size<=w.1.size+1;omega) (.slice (some ⟨J,0,none⟩) K.n a.sc)).setCell (p:=⟨w.1.size+1,1,none⟩) (by show w.1.size<=w.1.size+1;omega) (.slice (some ⟨wr.1.size,0,none⟩) 0 0);have d3:=(U.setBelow (q:=⟨w.1.size+1,0,none⟩) (xc _) (.slice (some ⟨J,0,none⟩) K.n a.sc)).setBelow (q:=⟨w.1.size+1,1,none⟩) (xc _) (.slice (some ⟨wr.1.size,0,none⟩) 0 0);have dX:=(S.setBelow (q:=⟨w.1.size+1,0,none⟩) (xc _) (.slice (some ⟨J,0,none⟩) K.n a.sc)).setBelow (q:=⟨w.1.size+1,1,none⟩) (xc _) (.slice (some ⟨wr.1.size,0,none⟩) 0 0);refine BB (v:= .tuple #[.agg #[.slice (some ⟨J,0,none⟩) K.n a.sc,.slice (some ⟨wr.1.size,0,none⟩) 0 0],.bool true]) (by simp[results,results59,go_sem,l0,b2]) rfl ?_;rw[bv.out,bu.out];exact⟨⟨some ⟨J,0,none⟩,a.sc,a1,N,a2,some ⟨wr.1.size,0,none⟩,0,a.pA,a.pN,a.pC⟩,rfl,b8,(by have c5:=d3.mono (B':=w.1.size) t7;rw[show(dU a a1 N a2).sa=some ⟨J,0,none⟩from ab]at c5;exact c5),dX.mono t7,fun i j bY cD=>absurd cD (w8 _)⟩
 ·have bv:Hid _:=vS s c;have bu:Hid _:=gk s;rw[gk s];have e0:=a0.c0;have bS:=a0.c1;have l0:=CV _ _ 0 _ _ _ G;have b2:=CV _ _ 1 _ _ _ G;have dD:=frozen_of_row _ _ 0 _ _ G;have f1:=frozen_of_row _ _ 1 _ _ G;have dd:Hid (Below w.1.size w l):=a9;have bA:Hid _:=aT;clear a9 aT a0 b1 ap bT u0 G;go_wp2;have b8:=(dd.out.setCell (p:=⟨w.1.size+1,0,none⟩) (by show w.1.size<=w.1.size+1;omega) (.slice a.sa K.n a.sc)).setCell (p:=⟨w.1.size+1,1,none⟩) (by show w.1.size<=w.1.size+1;omega) (.slice a.pa K.m a.pc);have d1:=(bA.out.safe.setBelow (q:=⟨w.1.size+1,0,none⟩) (xc _) (.slice a.sa K.n a.sc)).setBelow (q:=⟨w.1.size+1,1,none⟩) (xc _) (.slice a.pa K.m a.pc);have d2:=(bA.out.pend.setBelow (q:=⟨w.1.size+1,0,none⟩) (xc _) (.slice a.sa K.n a.sc)).setBelow (q:=⟨w.1.size+1,1,none⟩) (xc _) (.slice a.pa K.m a.pc);refine BB (v:= .tuple #[.agg #[.slice a.sa K.n a.sc,.slice a.pa K.m a.pc],.bool false]) (by simp[results,results59,go_sem,l0,b2]) rfl ?_;rw[bv.out,bu.out];exact⟨a,rfl,b8,d1.mono t7,d2.mono t7,bA.out.sepX⟩
