import Derived.Test.YtnohmedccbogkaaGreatDoorCo7
namespace Go.Proofs.YtnohmedccbogkaaGreatDoor
open Go.Proofs.Tryz
open Go.RowKit
set_option linter.unusedVariables false
set_option maxRecDepth 100000
set_option maxHeartbeats 32000000
def eu(K:BlK):List Int:=K.prev++K.root++num K.h 4
theorem xU{K}(a:BlOk K):(eu K).length=68:=by simp[eu,a.pl,a.rl,gS]
theorem xV{K}(a:BlOk K):IsB (eu K):=cY (cY a.pB a.rB) (fL _ _)
theorem xW{w d g off cs x}(h:Blk w d g cs)(b:∀(j:Nat)(a:Value),(ob x)[j]?=some a->cs[off+j]?=some a)(hx:x.length=32):(Instr.loadAt 32 (.pointer (some ⟨g,off,none⟩))).run prog w= .ok (.agg (ob x).toArray) w:=by
 have s:(prog.info? 32).map (·.size)=some (ob x).length:=by rw[au,hx];exact aJ
 simp only[Instr.loadAt,Instr.sureAddr,q9,r2,Result.andThen];exact iM w g off 32 (ob x) _ (fun j a c=>by rw[h.cell];exact b j a c) qa rfl s
theorem xX(v K w)(l:BlOk K)(W:0<=K.h)(ac:K.h<=1000000):
 Calls prog 120 #[cK v K] w fun e w'=> ∃a c,e= .returned (.slice a 68 c)/\Below w.1.size w w'/\Own w.1.size w' a 68 c (eu K):=by
 have o:=ao w 113 (blc v K).toArray;have J:=bAl w (.cells (blc v K).toArray 113);have q:=l.pl;have r:=l.rl;unfold cK;go_enter func120,ntmps120;go_upto_region 1 with fail
 generalize w.alloc (.cells (blc v K).toArray 113)=m at*;have g:Hid (∀k:World,Below m.1.size m k->(Instr.loadAt 32 (.pointer (some ⟨w.1.size,0,none⟩))).run prog k= .ok (.agg (ob K.prev).toArray) k/\(Instr.loadAt 32 (.pointer (some ⟨w.1.size,32,none⟩))).run prog k= .ok (.agg (ob K.root).toArray) k/\k.cell? ⟨w.1.size,64,none⟩=some (.int .i64 K.h)):=fun k D=>
  ⟨xW (o.below D) (fun j k h=>by rw[ld];exact lQ v K j k h) q,xW (o.below D) (fun j k h=>pr v l j k h) r,by rw[(o.below D).cell];exact iX v l⟩
 have x:Hid (Below w.1.size w m):=J;clear o J;refine ay (fun k=>(Instr.loadAt 32 (.pointer (some ⟨w.1.size,0,none⟩))).run prog k= .ok (.agg (ob K.prev).toArray) k/\(Instr.loadAt 32 (.pointer (some ⟨w.1.size,32,none⟩))).run prog k= .ok (.agg (ob K.root).toArray) k/\k.cell? ⟨w.1.size,64,none⟩=some (.int .i64 K.h)) (fun j=>decide (10<=j)) kO ?_;have f:=g.out m.drew kF.drew;refine aa 0 f ?_;refine aC 1 (.agg (ob K.prev).toArray) f ?hya1 ?_
 case hya1=>exact fun k i=>bO (p:= .pointer (some ⟨w.1.size,0,none⟩)) rfl rfl i.1
 refine aa 3 f ?_;refine aC 4 (.agg (ob K.root).toArray) f ?hya4 ?_
 case hya4=>exact fun k i=>bO (p:= .pointer (some ⟨w.1.size,32,none⟩)) rfl rfl i.2.1
 refine aa 7 f ?_;refine aC 8 (.int .i64 K.h) f ?hya8 ?_
 case hya8=>(intro k i;have s3:=i.2.2;clear i;go_simp)
 clear f;refine aj 2 fun d b=> ?_;go_wp2_with fail;refine(gj K.prev _ q l.pB).mono ?_;rintro e w1 ⟨G,L,rfl,H,M⟩;have f1:Below m.1.size m w1:=Ce H;have s:Own m.1.size w1 G 32 L K.prev:=M;clear H M;go_wp2_with fail;refine b.out _ _ (fun _=>g.out _ f1) ?_;clear b d;refine aj 5 fun d b=> ?_;go_wp2_with fail;refine(gj K.root _ r l.rB).mono ?_;rintro e ad ⟨Z,Q,rfl,y,E⟩;have B:=f1.trans (y.mono f1.size);have t:=s.below y;obtain⟨g2,rfl,_,_⟩:=pp E kH;have ag:=f1.size;clear y s f1;go_wp2_with fail;refine b.out _ _ (fun _=>g.out _ B) ?_;clear b d;refine aT 6 kO rfl (fun d b=> ?_);refine fO rfl _ _ rfl m.1.size G 32 L K.prev rfl t g2 32 Q K.root rfl (E.bs l.rB) kH kH ?_;intro O R Y N z _;have n:=B.trans z;have ah:=z.size;clear t E z B;refine b.out _ _ (fun _=>g.out _ n) ?_;clear b d;refine aj 9 fun d b=> ?_;go_wp2_with fail;refine(i8 K.h 4 Y W kH kH).mono ?_;rintro e ae ⟨ab,S,rfl,A,F⟩;have C:=n.trans (A.mono n.size);have u:=N.below A;obtain⟨V,rfl,_,_⟩:=pp F kH;clear A N n;go_wp2_with fail;refine b.out _ _ (fun _=>g.out _ C) ?_;clear b d;refine aT 10 kO rfl (fun d b=> ?_);refine fO rfl _ _ rfl m.1.size O (32+32) R (K.prev++K.root) rfl u V 4 S (num K.h 4) rfl (F.bs (fL _ _)) kH kH ?_;intro P T af X I _;have U:=C.trans I;clear u F I C;refine al b ?_;clear b d;refine aT 11 kO rfl (fun d b=> ?_);go_simp;refine al b ?_;clear b d;refine ax ?_;clear g;go_wp2;go_ret;exact⟨P,T,rfl,x.out.trans (U.mono x.out.size),Own.mono X x.out.size⟩
theorem xY{w k g off cs x}(h:Blk w k g cs)(b:∀(j:Nat)(c:Value),(ob x)[j]?=some c->cs[off+j]?=some c)(hx:x.length=32)(a:IsB x):Bs w (some ⟨g,off,none⟩) 32 32 x:=
 ⟨hx,kE,by unfold maxLen;omega,fun e=>(by cases e),fun f=>⟨g,off,rfl,h.lt,fun i d=>by rw[h.cell];exact b i _ (de? x i kH)⟩,a⟩
theorem Is(v K w)(l:BlOk K)(O:0<=K.h)(U:K.h<=1000000):
 Calls prog 176 #[cK v K] w fun e w'=> ∃a c,e= .returned (.slice a 68 c)/\Below w.1.size w w'/\Own w.1.size w' a 68 c (eu K):=by
 have y:=ao w 113 (blc v K).toArray;have E:=bAl w (.cells (blc v K).toArray 113);have p:=l.pl;have q:=l.rl;unfold cK;go_enter func176,ntmps176;go_upto_region 1 with fail
 generalize w.alloc (.cells (blc v K).toArray 113)=k at*;have g:Hid (∀m:World,Below k.1.size k m->m.cell? ⟨w.1.size,64,none⟩=some (.int .i64 K.h)):=fun m Q=>by rw[(y.below Q).cell];exact iX v l
 have r:Hid (Blk k 113 w.1.size (blc v K)/\Below w.1.size w k):=⟨y,E⟩;clear y E;refine ay (fun m=>m.cell? ⟨w.1.size,64,none⟩=some (.int .i64 K.h)) (fun j=>decide (8<=j)) kO ?_;have d:=g.out k.drew kF.drew;refine aa 0 d ?_;refine aC 1 (.slice (some ⟨w.1.size,0,none⟩) 32 32) d ?hyb1 ?_
 case hyb1=>(intro m o;unfold execOp;go_simp)
 refine aa 2 d ?_;refine aC 3 (.slice (some ⟨w.1.size,32,none⟩) 32 32) d ?hyb3 ?_
 case hyb3=>(intro m o;unfold execOp;go_simp)
 refine aa 6 d ?_;refine aC 7 (.int .i64 K.h) d ?hyb7 ?_
 case hyb7=>(intro m o;(try dsimp only at o);go_simp)
 clear d;refine aj 4 fun f b=> ?_;go_wp2_with fail;have n:Below k.1.size k (k.drew.alloc (.cells #[Value.slice (some ⟨w.1.size,0,none⟩) 32 32,Value.slice (some ⟨w.1.size,32,none⟩) 32 32] 70)):=(kF.drew).alloc kP _;have A:Blk (k.drew.alloc (.cells #[Value.slice (some ⟨w.1.size,0,none⟩) 32 32,Value.slice (some ⟨w.1.size,32,none⟩) 32 32] 70)) 70 k.1.size [Value.slice (some ⟨w.1.size,0,none⟩) 32 32,Value.slice (some ⟨w.1.size,32,none⟩) 32 32]:=ao k.drew 70 _;have z:=r.out.1.below n;have x:dT (fun i=>if i=0 then K.prev else K.root) 2=K.prev++K.root:=by simp[dT]
 have u:=FX k.1.size 0 2 2 (fun i=>if i=0 then some ⟨w.1.size,0,none⟩else some ⟨w.1.size,32,none⟩) (fun _=>32) (fun _=>32) (fun i=>if i=0 then K.prev else K.root) _ A.lt kH
  (fun i P=>by rw[ld,A.cell];rcases(show i=0\/i=1 by omega)with rfl|rfl<;>rfl)
  (fun i P=>by
 rcases(show i=0\/i=1 by omega)with rfl|rfl
 ·exact xY z (fun j m h=>by rw[ld];exact lQ v K j m h) p l.pB
 ·exact xY z (fun j m h=>pr v l j m h) q l.rB)
  (by rw[x];simp[p,q])
 have F:(K.prev++K.root).length=64:=by simp[p,q]
 rw[x,F]at u;refine b.out _ _ (fun _=>g.out _ n) ?_;clear b f A z x F;have H:=n.size;refine aj 5 fun f b=> ?_;go_wp2_with fail;refine u.mono ?_;rintro e S ⟨I,L,rfl,C,G⟩;have s:=n.trans (C.mono H);have t:=Own.mono G H;clear C G n u;go_wp2_with fail;refine b.out _ _ (fun _=>g.out _ s) ?_;clear b f;have T:=s.size;have B:=rD k.1.size I 64 L (K.prev++K.root) K.h 4 S t T kH O kH kH;refine aj 8 fun f b=> ?_;go_wp2_with fail;refine B.mono ?_;rintro e V ⟨J,M,rfl,D,_,R⟩;have N:=s.trans D;clear D t s B;go_wp2_with fail;refine al b ?_;clear b f;refine aT 9 kO rfl (fun f b=> ?_);go_simp;refine al b ?_;clear b f;refine ax ?_;clear g;go_wp2;go_ret;exact⟨J,M,rfl,r.out.2.trans (N.mono r.out.2.size),Own.mono R r.out.2.size⟩
def jp(K:BlK):Bool:=decide (K.nt<=12)&&bG K.h
def cQ(K:BlK):Bool:=jp K&&el (fun i=>aF (K.tx i)) K.nt
def fv(K:BlK)(j:Nat):List Int:=(eu K++[(K.nt:Int)])++fD (fun i=>fF (K.tx i)) j
theorem td(K):fv K 0=eu K++[(K.nt:Int)]:=by simp[fv,fD]
theorem te(K j):fv K (j+1)=fv K j++fF (K.tx j):=by simp[fv,fD]
def gM(K:BlK):List Int:=if cQ K=true then fv K K.nt else []
theorem xZ{K}(h:cQ K=true):gM K=fv K K.nt:=by unfold gM;rw[qb h]
theorem yd{K}(h:cQ K=false):gM K=[]:=by unfold gM;rw[q4 (by simp[h])]
theorem ye{f s}:∀{n},(∀i,i<n->(f i).length<=s)->(fD f n).length<=s*n
 |0,_=>by simp[fD]
 |n+1,h=>by
  have:=ye (f:=f) (s:=s) (n:=n) (fun i a=>h i kH);have:=h n kH;rw[fD,kY,Nat.mul_add,oG];omega
theorem It{K}(b:IsPts K.P K.ni)(a:TxOkP K):(fF K).length<=252:=by
 rw[pm b];have:=a.ni;have:=a.no;omega
theorem Iu{K}(b:BlOk K)(j)(h:∀i,i<j->IsPts (K.tx i).P (K.tx i).ni/\TxOkP (K.tx i)):(fv K j).length<=69+252*j:=by
 have:=ye (f:=fun i=>fF (K.tx i)) (s:=252) (n:=j) (fun i a=>It (h i a).1 (h i a).2);simp only[fv,kY,xU b,m1,List.length_nil];omega
theorem yg{K}(h:cQ K=true):K.nt<=12/\(0<=K.h/\K.h<=1000000)/\∀i,i<K.nt->aF (K.tx i)=true:=by
 unfold cQ jp bG at h;simp only[ly,sZ]at h;exact⟨h.1.1,h.1.2,fun i a=>pj h.2 i a⟩
theorem Iv{w g v K}(h:Blk w 113 g (blc v K))(a:BlOk K):(Instr.loadAt 113 (.pointer (some ⟨g,0,none⟩))).run prog w= .ok (.agg (blc v K).toArray) w:=by
 have s:(prog.info? 113).map (·.size)=some (blc v K).toArray.size:=by rw[ii v a];exact fG
 simp only[Instr.loadAt,Instr.sureAddr,q9,r2,Result.andThen];exact sL w g 113 113 (blc v K).toArray (0,0) _ h q7 rfl s
theorem tf(v K w)(H:RBl w v K)(cf:K.nt<=1048576)(bh:∀i,i<K.nt->(K.tx i).ni<=1048576/\(K.tx i).no<=1048576):
 Calls prog 110 #[cK v K] w fun e w'=> ∃a c,e= .returned (.tuple #[.slice a (gM K).length c,.bool (cQ K)])/\Below w.1.size w w'/\Own w.1.size w' a (gM K).length c (gM K):=by
 have L:=H.ok;have bl:=ao w 113 (blc v K).toArray;have aX:=bAl w (.cells (blc v K).toArray 113);unfold cK;go_enter func110,ntmps110;go_upto_region 1 with fail
 generalize w.alloc (.cells (blc v K).toArray 113)=d at*;have F:Blk d 113 w.1.size (blc v K):=bl;have bE:d.cell? ⟨w.1.size,65,none⟩=some (.slice v.ta K.nt v.tc):=by rw[F.cell];exact jm v L
 have G:d.cell? ⟨w.1.size,64,none⟩=some (.int .i64 K.h):=by rw[F.cell];exact iX v L
 have t:Hid (∀A:World,Below d.1.size d A->(Instr.loadAt 113 (.pointer (some ⟨w.1.size,0,none⟩))).run prog A= .ok (.agg (blc v K).toArray) A/\A.cell? ⟨w.1.size,65,none⟩=some (.slice v.ta K.nt v.tc)):=fun A bk=>
  ⟨Iv (F.below bk) L,by rw[(F.below bk).cell];exact jm v L⟩
 have g:Hid (RTxs d v.ta K.nt v.tc v.tv K.tx/\Below w.1.size w d):=⟨H.txs.below aX,aX⟩;clear bl F aX;by_cases Q:jp K=true
 case neg=>
  have l:cQ K=false:=by unfold cQ;simp[Q]
  have z:Hid (gM K=[]):=yd l;have U:Hid (cQ K=false):=l;have a1:12<K.nt\/K.h<0\/1000000<K.h:=by
   have:¬(K.nt<=12/\0<=K.h/\K.h<=1000000):=by simpa [jp,bG]using Q
   omega
  clear Q l;by_cases bP:(12:Int)< (K.nt:Int)
  ·go_wp2
   go_ret2
   exact⟨_,0,by rw[z.out,U.out];rfl,g.out.2.alloc g.out.2.size _,by rw[z.out];exact dZ d [] 0 rfl kH _ g.out.2.size⟩
  by_cases bR:K.h<0
  ·go_wp2
   go_ret2
   exact⟨_,0,by rw[z.out,U.out];rfl,g.out.2.alloc g.out.2.size _,by rw[z.out];exact dZ d [] 0 rfl kH _ g.out.2.size⟩
  have bS:(1000000:Int)<K.h:=kH;clear a1;go_wp2
  go_ret2
  exact⟨_,0,by rw[z.out,U.out];rfl,g.out.2.alloc g.out.2.size _,by rw[z.out];exact dZ d [] 0 rfl kH _ g.out.2.size⟩
 case pos=>
 have a7:Hid (jp K=true):=Q;have a1:K.nt<=12/\0<=K.h/\K.h<=1000000:=by simpa [jp,bG]using Q
 obtain⟨cc,bH,bN⟩:=a1;have bP:¬(12:Int)< (K.nt:Int):=kH;have bR:¬K.h<0:=kH;have bS:¬(1000000:Int)<K.h:=kH;have ca:IntKind.u8.wrap (K.nt:Int)=(K.nt:Int):=kL _ kH;have an:Hid (∀A,Calls prog 120 #[.agg (blc v K).toArray] A fun e w'=> ∃a c,e= .returned (.slice a 68 c)/\Below A.1.size A w'/\Own A.1.size w' a 68 c (eu K)):=fun A=>xX v K A L bH bN;clear Q;go_upto_region 3 with fail
 clear bE G;go_cut [4] (fun b1 bw=> ∃O P,b1= .slice O 69 P/\Below d.1.size d bw/\Own d.1.size bw O 69 P (eu K++[(K.nt:Int)]))
 case first=>
  refine ay (fun A=>(Instr.loadAt 113 (.pointer (some ⟨w.1.size,0,none⟩))).run prog A= .ok (.agg (blc v K).toArray) A/\A.cell? ⟨w.1.size,65,none⟩=some (.slice v.ta K.nt v.tc)) (fun j=>decide (7<=j)) kO ?_;have u:=t.out d.drew kF.drew;refine aC 0 (.agg (blc v K).toArray) u ?hyh0 ?_
  case hyh0=>exact fun A x=>bO (p:= .pointer (some ⟨w.1.size,0,none⟩)) rfl rfl x.1
  refine aa 2 u ?_;refine aC 3 (.slice v.ta K.nt v.tc) u ?hyh3 ?_
  case hyh3=>(intro A x;have cg:=x.2;clear x;go_simp)
  refine aa 4 u ?_;refine aC 5 (.int .u8 (K.nt:Int)) u ?hyh5 ?_
  case hyh5=>(intro A x;clear x;go_simp)
  clear u;have ah:Below d.1.size d d.drew:=kF.drew;have ch:d.drew.1.size<=d.1.size/\d.1.size<=d.drew.1.size:=⟨kE,kE⟩;generalize d.drew=s at*;refine cI 1 6 kO rfl rfl (fun k f=> ?hf) (fun k f=> ?hs)
  case hf=>
   rw[qb (show Region.wanted _ _=true from rfl)];go_wp2_with fail;refine(an.out s).mono ?_;rintro e q ⟨W,Y,rfl,D,ad⟩;have bx:=D.size;have ae:Own d.1.size q W 68 Y (eu K):=Own.mono ad kH;have r:=ah.trans (D.mono kH);clear D ad;go_wp2_with fail;refine f.out _ _ (fun _=>t.out _ r) ?_;clear f k;refine aT 6 kO rfl (fun k f=> ?_);go_simp;have a3:=bAl q (.cells #[Value.int IntKind.u8 (K.nt:Int)] 5);have aw:Own d.1.size (q.alloc (.cells #[Value.int IntKind.u8 (K.nt:Int)] 5)) (some ⟨q.1.size,0,none⟩) 1 1 [(K.nt:Int)]:=dZ q [(K.nt:Int)] 1 rfl kH _ kH;have bz:(q.alloc (.cells #[Value.int IntKind.u8 (K.nt:Int)] 5)).1.size<=q.1.size+1/\q.1.size+1<=(q.alloc (.cells #[Value.int IntKind.u8 (K.nt:Int)] 5)).1.size:=by simp
   have a6:=ae.below a3;have C:=r.trans (a3.mono kH);clear a3 ae r;generalize (q.alloc (.cells #[Value.int IntKind.u8 (K.nt:Int)] 5))=bu at*;refine f.out _ _ (fun _=>t.out _ C) ?_;clear f k;refine aT 7 kO rfl (fun k f=> ?_);refine fO rfl _ _ rfl d.1.size W 68 Y (eu K) rfl a6 (q.1.size) 1 1 [(K.nt:Int)] rfl (Own.bs aw (fw kH kH)) kH kH ?_;intro O P b3 ar aO b0;have R:=C.trans aO;refine al f ?_;clear f k;refine aT 8 kO rfl (fun k f=> ?_);go_simp;refine al f ?_;clear f k;refine ax ?_;go_wp2
   go_meet
   exact⟨O,P,rfl,R,ar⟩
  case hs=>
   go_simp;have bs:=bAl s (.cells #[Value.int IntKind.u8 (K.nt:Int)] 5);have a9:Own d.1.size (s.alloc (.cells #[Value.int IntKind.u8 (K.nt:Int)] 5)) (some ⟨s.1.size,0,none⟩) 1 1 [(K.nt:Int)]:=dZ s [(K.nt:Int)] 1 rfl kH _ kH;have bx:(s.alloc (.cells #[Value.int IntKind.u8 (K.nt:Int)] 5)).1.size<=s.1.size+1/\s.1.size+1<=(s.alloc (.cells #[Value.int IntKind.u8 (K.nt:Int)] 5)).1.size:=by simp
   have r:=ah.trans (bs.mono kH);clear bs;generalize (s.alloc (.cells #[Value.int IntKind.u8 (K.nt:Int)] 5))=q at*;refine f.out _ _ (fun _=>t.out _ r) ?_;clear f k;refine aj 1 fun k f=> ?_;go_wp2_with fail;refine(an.out q).mono ?_;rintro e bu ⟨W,Y,rfl,D,ad⟩;have bz:=D.size;have ae:Own d.1.size bu W 68 Y (eu K):=Own.mono ad kH;have aw:=Own.below a9 D;have C:=r.trans (D.mono kH);clear D ad a9 r;go_wp2_with fail;refine f.out _ _ (fun _=>t.out _ C) ?_;clear f k;refine aT 7 kO rfl (fun k f=> ?_);refine fO rfl _ _ rfl d.1.size W 68 Y (eu K) rfl ae (s.1.size) 1 1 [(K.nt:Int)] rfl (Own.bs aw (fw kH kH)) kH kH ?_;intro O P b3 ar aO b0;have R:=C.trans aO;refine al f ?_;clear f k;refine aT 8 kO rfl (fun k f=> ?_);go_simp;refine al f ?_;clear f k;refine ax ?_;go_wp2
   go_meet
   exact⟨O,P,rfl,R,ar⟩
 case rest=>
 obtain⟨ba,be,rfl,bc,bn⟩:=hcut;have a5:Hid (Own d.1.size wc ba 69 be (fv K 0)/\Below d.1.size d wc):=by rw[td];exact⟨bn,bc⟩
 clear bc bn an;go_wp2;go_loopw [4,5] (fun o i wr=> ∃j V m G,j<=K.nt/\i= .int .i64 (j:Nat)/\m=(fv K j).length/\o= .slice V m G/\(∀i,i<j->aF (K.tx i)=true)/\Below d.1.size d wr/\Own d.1.size wr V m G (fv K j)) (fun _ i _=>K.nt-(intOf i).toNat)
 case atStart=>exact⟨0,ba,69,be,kX _,rfl,by rw[td];simp[xU L],rfl,fun i ag=>absurd ag kH,a5.out.2,a5.out.1⟩
 case round=>
  obtain⟨j,V,m,G,ce,rfl,ai,rfl,I,J,a2⟩:=hrel;have ap:Hid (m=(fv K j).length):=ai;have S:Hid _:=I;have bj:=Iu L j (fun i ag=>⟨(g.out.1.each i kH).pts,jJ (I i ag)⟩);have b9:m<=69+252*j:=kH;clear ai I bj;have b5:=J.size;have bg:=(t.out wr J).2;by_cases y:j<K.nt
  ·obtain⟨b,off,a0,b6,bi⟩:=g.out.1.row.at_ kH;rw[a0]at bg;have aS:=g.out.1.row.below J;rw[a0]at aS;have E:=aS.cells j y;have b2:(prog.info? 121).map (·.size)=some (bU v.tv K.tx j).length:=kO;have b8:(j:Int)< (K.nt:Int):=kH;have b7:(0:Int)<=(j:Int):=kH;have am:=xJ (v.tv j) (K.tx j) wr ((g.out.1.each j y).below J) (bh j y).1 (bh j y).2;unfold dM at am;have ac:=(g.out.1.each j y).pts;clear a0 bi aS;go_upto_region 7 with fail
   go_wp2_with (refine dm rfl 121 _ rfl b (off+j*3) rfl (bU v.tv K.tx j) _ E underlying121 rfl b2 ?_);refine am.mono ?_;rintro e b4 ⟨cb,bF,rfl,aH,bp⟩;have bq:=Own.below a2 aH;have af:=J.trans (aH.mono b5);have ci:=af.size;clear am E a2 J aH bg;by_cases N:aF (K.tx j)=true
   ·have a8:Hid (aF (K.tx j)=true):=N;have cd:=sU ac;have bt:=bp.bs (sR ac);have a4:Hid (bT (K.tx j)=fF (K.tx j)):=kM N;rw[N];go_wp2_with (at_builtin;refine db rfl _ _ rfl d.1.size V m G (fv K j) rfl bq _ (bT (K.tx j)).length bF (bT (K.tx j)) rfl bt ?len ?B ?_)
    case len=>omega
    case B=>omega
    intro bb bf bv ak bd bY;have M:Hid (Own d.1.size bv bb (m+(bT (K.tx j)).length) bf (fv K (j+1))/\Below d.1.size d bv/\m+(bT (K.tx j)).length=(fv K (j+1)).length/\∀i,i<j+1->aF (K.tx i)=true):=by
     refine⟨?_,af.trans bd,?_,fun i ag=> ?_⟩
     ·rw[te,<-a4.out];exact ak
     ·rw[te,kY,<-ap.out,a4.out]
     ·by_cases e:i=j
      ·subst e;exact a8.out
      ·exact S.out i kH
    clear ak bd bY af bq bt bp;go_wp2;go_roundw
    case rel=>exact⟨j+1,bb,m+(bT (K.tx j)).length,bf,kH,by go_num,M.out.2.2.1,rfl,M.out.2.2.2,M.out.2.1,M.out.1⟩
    case measure=>simp[intOf];omega
   ·have l:aF (K.tx j)=false:=by simpa using N
    have Z:cQ K=false:=by unfold cQ;rw[iV (i:=j) y l];simp
    have z:Hid (gM K=[]):=yd Z;have U:Hid (cQ K=false):=Z;have X:=g.out.2.trans (af.mono g.out.2.size);clear Z;rw[l];go_wp2
    go_ret2
    exact⟨_,0,by rw[z.out,U.out];rfl,X.alloc X.size _,by rw[z.out];exact dZ b4 [] 0 rfl kH _ X.size⟩
  ·have e:j=K.nt:=kH;subst e;have ab:cQ K=true:=by
    unfold cQ;rw[a7.out,o5];have:∀n,n<=K.nt->el (fun i=>aF (K.tx i)) n=true:=by
     intro n;induction n with
     |zero=>intro _;rfl
     |succ n ih=>intro h;exact lO (ih kH) (S.out n kH)
    exact this _ kE
   have T:Hid (gM K=fv K K.nt/\cQ K=true):=⟨xZ ab,ab⟩;have X:=g.out.2.trans (J.mono g.out.2.size);clear ab;go_wp2
   go_ret2
   exact⟨V,G,by rw[T.out.1,T.out.2,<-ap.out];rfl,X,by rw[T.out.1,<-ap.out];exact Own.mono a2 g.out.2.size⟩
theorem Iw(v K w)(H:RBl w v K)(ad:K.nt<=1048576)(D:∀i,i<K.nt->(K.tx i).ni<=1048576/\(K.tx i).no<=1048576):
 Calls prog 125 #[cK v K] w fun e w'=>e= .returned (.bool (cQ K))/\Below w.1.size w w':=by
 have L:=H.ok;have I:=ao w 113 (blc v K).toArray;have s:=bAl w (.cells (blc v K).toArray 113);unfold cK;go_enter func125,ntmps125;go_upto_region 1 with fail
 generalize w.alloc (.cells (blc v K).toArray 113)=d at*;have n:Blk d 113 w.1.size (blc v K):=I;have Y:d.cell? ⟨w.1.size,65,none⟩=some (.slice v.ta K.nt v.tc):=by rw[n.cell];exact jm v L
 have Z:d.cell? ⟨w.1.size,64,none⟩=some (.int .i64 K.h):=by rw[n.cell];exact iX v L
 have c:Hid (RTxs d v.ta K.nt v.tc v.tv K.tx/\Below w.1.size w d):=⟨H.txs.below s,s⟩;clear I n s;by_cases h:jp K=true
 case neg=>
  have a:Hid (cQ K=false):=by show _= _;unfold cQ;simp[h]
  by_cases P:(12:Int)< (K.nt:Int)
  ·clear h;go_wp2;go_ret;exact⟨by rw[a.out];rfl,c.out.2⟩
  have Q:bG K.h=false:=by
   have C:¬(decide (K.nt<=12)&&bG K.h)=true:=h;have R:decide (K.nt<=12)=true:=by rw[sZ];omega
   rw[R]at C;simpa using C
  clear h;go_wp2_with (go_at_call 99;refine(lP _ _).mono ?_;rintro e U ⟨rfl,x⟩;obtain rfl:=x.symm);go_ret;exact⟨by rw[a.out];rfl,c.out.2⟩
 case pos=>
 have z:Hid (jp K=true):=h;have S:K.nt<=12/\0<=K.h/\K.h<=1000000:=by simpa [jp,bG]using h
 obtain⟨ab,N,O⟩:=S;have P:¬(12:Int)< (K.nt:Int):=kH;have Q:bG K.h=true:=by simp[bG,N,O]
 clear h;go_wp2_with (go_at_call 99;refine(lP _ _).mono ?_;rintro e U ⟨rfl,x⟩;obtain rfl:=x.symm);go_loopw [18] (fun i wr=> ∃j,j<=K.nt/\i= .int .i64 (j:Nat)/\Below d.1.size d wr/\el (fun i=>aF (K.tx i)) j=true) (fun i _=>K.nt-(intOf i).toNat)
 case atStart=>exact⟨0,kX _,rfl,kF,rfl⟩
 case round=>
  obtain⟨j,ac,rfl,l,k⟩:=hrel;have y:Hid _:=k;clear k;by_cases g:j<K.nt
  ·obtain⟨b,off,t,V,G⟩:=c.out.1.row.at_ kH;have aS:=c.out.1.row.below l;rw[t]at aS;have f:=aS.cells j g;rw[t];have T:(prog.info? 121).map (·.size)=some (bU v.tv K.tx j).length:=kO;have q:(prog.info? 121).map (·.size)=some (txc (v.tv j) (K.tx j)).toArray.size:=kO;have X:(j:Int)< (K.nt:Int):=kH;have W:(0:Int)<=(j:Int):=kH;have J:=ao wr 121 (txc (v.tv j) (K.tx j)).toArray;have o:Below d.1.size d (wr.alloc (.cells (txc (v.tv j) (K.tx j)).toArray 121)):=l.alloc l.size _;clear t G aS;go_upto_region 5 with fail
   go_upto_region 6 with(first|(refine dm rfl 121 _ rfl b (off+j*3) rfl (bU v.tv K.tx j) _ f underlying121 rfl T ?_)|(refine aL rfl 121 _ _ rfl wr txz.toArray (txc (v.tv j) (K.tx j)).toArray 121 rfl rfl q rfl (rz _ _) ?_))
   generalize wr.alloc (.cells (txc (v.tv j) (K.tx j)).toArray 121)=M at*;have p:Blk M 121 wr.1.size (txc (v.tv j) (K.tx j)):=J;have r:=xI (v.tv j) (K.tx j) M ((c.out.1.each j g).below o) (D j g).1 (D j g).2;unfold dM at r;clear J f l;go_wp2_with (refine qi rfl 121 _ rfl wr.1.size rfl 121 (txc (v.tv j) (K.tx j)).toArray (0,0) _ p underlying121 rfl q ?_);refine r.mono ?_;rintro e ae ⟨rfl,A⟩;have B:=o.trans (A.mono o.size);clear r p o A;by_cases m:aF (K.tx j)=true
   ·have u:Hid (el (fun i=>aF (K.tx i)) (j+1)=true):=lO y.out m;rw[m];go_wp2;go_roundw
    case rel=>exact⟨j+1,kH,by go_num,B,u.out⟩
    case measure=>simp[intOf];omega
   ·have a:aF (K.tx j)=false:=by simpa using m
    have E:Hid (cQ K=false):=by show _= _;unfold cQ;rw[iV (i:=j) g a];simp
    rw[a];go_wp2;go_ret;exact⟨by rw[E.out];rfl,c.out.2.trans (B.mono c.out.2.size)⟩
  ·have e:j=K.nt:=kH;subst e;have F:Hid (cQ K=true):=by show _= _;unfold cQ;rw[z.out,y.out];rfl
   go_wp2;go_ret;exact⟨by rw[F.out];rfl,c.out.2.trans (l.mono c.out.2.size)⟩
