import Derived.Test.YtnohmedccbogkaaGreatDoorCo30
namespace Go.Proofs.YtnohmedccbogkaaGreatDoor
open Go.Proofs.Tryz
open Go.RowKit
set_option linter.unusedVariables false
set_option maxRecDepth 100000
set_option maxHeartbeats 32000000
noncomputable def jU(K:DK)(root fr:Int)(M:Nat):Bool:=match flT K fr with|some p=>tpB K root&&mrk M (tpL K root) p.1 p.2|none=>false
noncomputable def whS(K:DK)(gen root used fr:Int):Bool:=bK K&&gY gen root used fr&&decide (used<=((nPg K:Nat):Int))&&jU K root fr used.toNat
theorem Lr(d K o root g fr w)(h:RDisk w d K):
 Calls prog 78 #[bC d K,.agg (eG o root g fr).toArray] w fun e w'=>e= .returned (.bool (whS K o root g fr))/\Below w.1.size w w':=by
 obtain⟨P,J⟩:∃cp,cp=w.alloc (.cells #[.slice d.sa K.n d.sc,.slice d.pa K.m d.pc] 37):=⟨_,rfl⟩;obtain⟨u,W⟩:∃cp,cp=P.alloc (.cells (eG o root g fr).toArray 38):=⟨_,rfl⟩;have bR:Below w.1.size w P:=by rw[J];exact bAl _ _
 have bS:Below P.1.size P u:=by rw[W];exact bAl _ _
 have cn:P.1.size=w.1.size+1:=by rw[J];simp
 have a1:=(by rw[J];exact ao w _ _:Blk P 37 w.1.size [.slice d.sa K.n d.sc,.slice d.pa K.m d.pc]).below bS;have ac:Blk u 38 (w.1.size+1) (eG o root g fr):=by rw[W,<-cn];exact ao P _ _
 have O:=bR.trans (bS.mono bR.size);have cf:(prog.info? 37).map (·.size)=some (#[Value.slice d.sa K.n d.sc,Value.slice d.pa K.m d.pc]:Array Value).size:=nu;have cy:(prog.info? 38).map (·.size)=some (eG o root g fr).toArray.size:=Ac;have bu:Hid (∀r,Below u.1.size u r->RDisk r d K):=fun r t=>h.below (O.trans (t.mono O.size));have A:Hid (∀r,Below u.1.size u r->Below w.1.size w r):=fun r t=>O.trans (t.mono O.size);have S:Hid (∀r,Below u.1.size u r->r.cell? ⟨w.1.size,0,none⟩=some (.slice d.sa K.n d.sc)/\r.cell? ⟨w.1.size,1,none⟩=some (.slice d.pa K.m d.pc)/\r.cell? ⟨w.1.size+1,0,none⟩=some (.int .i64 o)/\r.cell? ⟨w.1.size+1,1,none⟩=some (.int .i64 root)/\r.cell? ⟨w.1.size+1,2,none⟩=some (.int .i64 g)/\r.cell? ⟨w.1.size+1,3,none⟩=some (.int .i64 fr)):=fun r t=>⟨Blk.cell (a1.below t) 0,Blk.cell (a1.below t) 1,Blk.cell (ac.below t) 0,Blk.cell (ac.below t) 1,Blk.cell (ac.below t) 2,Blk.cell (ac.below t) 3⟩;have D:=kG a1 ac;have ak:=bDr u;have cs:=S.out u.drew ak;have bn:=rT d K u.drew (bu.out _ ak);unfold bC at bn ⊢;clear bR bS cn O a1 ac;generalize ap:whS K o root g fr=i at*;have E:Hid _:=ap;clear ap;go_enter func78,ntmps78;go_upto_region 1 with fail
 change Code.wp _ _ _ _ ((w.alloc (.cells #[.slice d.sa K.n d.sc,.slice d.pa K.m d.pc] 37)).alloc (.cells (eG o root g fr).toArray 38));rw[<-J,<-W];clear J W;refine ay (fun r=>r.cell? ⟨w.1.size,0,none⟩=some (.slice d.sa K.n d.sc)/\r.cell? ⟨w.1.size,1,none⟩=some (.slice d.pa K.m d.pc)/\r.cell? ⟨w.1.size+1,0,none⟩=some (.int .i64 o)/\r.cell? ⟨w.1.size+1,1,none⟩=some (.int .i64 root)/\r.cell? ⟨w.1.size+1,2,none⟩=some (.int .i64 g)/\r.cell? ⟨w.1.size+1,3,none⟩=some (.int .i64 fr)) (fun _=>false) kO ?_;refine aa 0 cs ?_;refine aj 1 fun n k=> ?_;go_wp2_with fail;refine bn.mono ?_;rintro e ci ⟨rfl,b3⟩;have ag:=ak.trans (b3.mono ak.size);have b:=S.out ci ag;clear bn;go_wp2_with fail;refine al k ?_;clear k n;have bp:=Dz o root g fr ci;cases B:bK K with
 |false=>
  have p:Hid (i=false):=by show i=false;rw[<-E.out];unfold whS;rw[B];rfl
  clear bp;refine aa 2 b ?_;refine aa 3 b ?_;refine aq 4 b ?_;refine aq 5 b ?_;refine aq 6 b ?_;refine aa 7 b ?_;refine aa 8 b ?_;refine aq 9 b ?_;refine aq 10 b ?_;refine aq 11 b ?_;refine aq 12 b ?_;refine aq 13 b ?_;refine aa 14 b ?_;refine ax ?_;go_wp2_with fail;go_ret;exact⟨by rw[p.out];rfl,A.out _ ag⟩
 |true=>
 have ca:=jj B;refine aa 2 b ?_;refine aa 3 b ?_;refine aa 4 b ?_;refine aj 5 fun n k=> ?_;go_wp2_with fail;refine bp.mono ?_;rintro e ck ⟨rfl,b4⟩;have ah:=ag.trans (b4.mono ag.size);have f:=S.out ck ah;clear bp;go_wp2_with fail;refine al k ?_;clear k n;cases y:gY o root g fr with
 |false=>
  have p:Hid (i=false):=by show i=false;rw[<-E.out];unfold whS;rw[B,y];rfl
  refine aa 6 f ?_;refine aa 7 f ?_;refine aa 8 f ?_;refine aq 9 f ?_;refine aq 10 f ?_;refine aq 11 f ?_;refine aq 12 f ?_;refine aq 13 f ?_;refine aa 14 f ?_;refine ax ?_;go_wp2_with fail;go_ret;exact⟨by rw[p.out];rfl,A.out _ ah⟩
 |true=>
 have b9:=ca.1.2.1;have bq:=nw d K ck b9;unfold bC at bq;refine aa 6 f ?_;refine aa 7 f ?_;refine aa 8 f ?_;refine aa 9 f ?_;refine aa 10 f ?_;refine aa 11 f ?_;refine aj 12 fun n k=> ?_;go_wp2_with fail;refine bq.mono ?_;rintro e bY ⟨rfl,b5⟩;have Z:=ah.trans (b5.mono ah.size);have q:=S.out bY Z;clear bq;go_wp2_with fail;refine al k ?_;clear k n;by_cases Y:g<=((nPg K:Nat):Int)
 rotate_left
 ·have ar:((nPg K:Nat):Int)<g:=kH;have p:Hid (i=false):=by show i=false;rw[<-E.out];unfold whS;rw[B,y,q5 Y];rfl
  clear Y;refine aa 13 q ?_;refine aa 14 q ?_;refine ax ?_;go_wp2_with fail;go_ret;exact⟨by rw[p.out];rfl,A.out _ Z⟩
 have ar:¬((nPg K:Nat):Int)<g:=kH;refine aa 13 q ?_;refine aa 14 q ?_;refine ax ?_;go_upto_region 3 with fail
 have a9:j9 o g=true/\nmB g root=true/\nmB g fr=true:=by
  unfold gY at y;rw[ly,ly]at y;exact y
 obtain⟨g1,g2,cG,cH⟩:=r6 a9.1;have V:Hid (i=jU K root fr g.toNat):=by
  show i= _;rw[<-E.out];unfold whS;rw[B,y,q6 Y];rfl
 obtain⟨M,rfl⟩:∃M:Nat,g=(M:Int):=⟨g.toNat,kH⟩;rw[Int.toNat_natCast]at V;have bc:=D.out.1.below Z;obtain⟨_,_,_,ct,_,_⟩:=q;have bz:=JW d K root bY (bu.out bY Z);have bs:Hid _:=Z;clear cs b f ag ah ak b3 b4 b5 a9 y B Y ar Z;unfold bC at bz;go_wp2_with (refine qi rfl 37 _ rfl w.1.size rfl 37 #[.slice d.sa K.n d.sc,.slice d.pa K.m d.pc] (0,0) _ bc sB rfl cf ?_);refine bz.mono ?_;rintro e cl ⟨b1,b8,rfl,b6,bi⟩;have ai:=bs.out.trans (b6.mono bs.out.size);have bd:=D.out.1.below ai;have be:=D.out.2.below ai;have bt:=Lj d K o root (M:Nat) fr cl (bu.out cl ai);unfold bC at bt;have aH:=kG ai bi;have cB:(tpL K root).length<=1024:=by
  unfold tpL;cases ldT K root with
  |none=>simp
  |some x=>exact k2 (zk _ _) (by unfold nPg;omega)
 generalize bb:tpL K root=z at*;generalize ba:tpB K root=cg at*;have ad:Hid (tpL K root=z/\tpB K root=cg):=⟨bb,ba⟩;clear bz b6 bi ai bc ct bb ba;go_wp2_with (first|(refine qi rfl 37 _ rfl w.1.size rfl 37 #[.slice d.sa K.n d.sc,.slice d.pa K.m d.pc] (0,0) _ bd sB rfl cf ?_)|(refine qi rfl 38 _ rfl (w.1.size+1) rfl 38 (eG o root (M:Nat) fr).toArray (0,0) _ be underlying38 rfl cy ?_));refine bt.mono ?_;rintro e G ⟨bE,I,C,cD,a,c,cq,cr,rfl,bg,bh,cz,cA,a8⟩;have bF:=aH.out.1.trans (bE.mono aH.out.1.size);have bj:=aH.out.2.below bE;have b7:G.cell? ⟨w.1.size+1,2,none⟩=some (.int .i64 (M:Nat)):=(D.out.2.below bF).cell 2;have F:=kG bF (kR bj (kR bg bh));clear bt bE bg bh bF bj bd be aH bs;cases cg with
 |false=>
  have p:Hid (i=false):=by
   show i=false;rw[V.out];unfold jU;rw[ad.out.2];cases flT K fr<;>rfl
  clear a8;go_wp2_with fail;go_ret;exact⟨by rw[p.out];rfl,A.out _ F.out.1⟩
 |true=>
 rcases a8 with⟨L,rfl⟩|⟨L,rfl⟩
 rotate_left
 ·have p:Hid (i=false):=by show i=false;rw[V.out];unfold jU;rw[L]
  clear L;go_wp2_with fail;go_ret;exact⟨by rw[p.out];rfl,A.out _ F.out.1⟩
 have aX:Hid (i=mrk M z I C):=by show i= _;rw[V.out];unfold jU;rw[L,ad.out.1,ad.out.2];rfl
 have co:=nj M kH G;have aw:=bAl G (.cells (madeCells #[.bool false] M) 4);have cd:=nk G.1.size M kH G kE;have ab:=F.out.1.trans (aw.mono F.out.1.size);have a4:(G.alloc (.cells (madeCells #[.bool false] M) 4)).cell? ⟨w.1.size+1,2,none⟩=some (.int .i64 (M:Nat)):=(D.out.2.below ab).cell 2;have cC:=F.out.1.size;have H:=kG ab (kR (F.out.2.1.below aw) (kR (F.out.2.2.1.below aw) (kR (F.out.2.2.2.below aw) cd)));clear aw cd ab L F;go_upto_region 8 with fail
 change Code.wp _ _ _ _ (G.alloc (.cells (madeCells #[.bool false] M) 4));generalize G.alloc (.cells (madeCells #[.bool false] M) 4)=ae at*;generalize cb:G.1.size=mb at*;clear b7 co cb;have v:=bDr ae;have ab:=H.out.1.trans (v.mono H.out.1.size);have a5:ae.drew.cell? ⟨w.1.size+1,2,none⟩=some (.int .i64 (M:Nat)):=a4;obtain⟨_,cu,a7⟩:=(H.out.2.2.2.2.below v).blk;have a2:Hid (∀r,OnlyB mb ae.drew r->KeepT 3 ae.drew r):=fun r t=>iN t a7 kN;have bv:=tE _ _ mb M [] z b1 b8 ae.drew kH kH (H.out.2.2.2.2.below v) (H.out.2.1.below v);generalize N:mOk M z []=cv at bv;have a3:=kG (H.out.2.2.1.below v) (H.out.2.2.2.1.below v);clear v a7 a4 H;refine ay (fun r=>r.cell? ⟨w.1.size+1,2,none⟩=some (.int .i64 (M:Nat))) (fun _=>false) kO ?_;refine aa 0 a5 ?_;refine aa 1 a5 ?_;refine aj 2 fun n k=> ?_;go_wp2_with fail;refine bv.mono ?_;rintro e cm ⟨rfl,bN,an⟩;have aO:=ab.trans (bN.below kH ab.size);have l:cm.cell? ⟨w.1.size+1,2,none⟩=some (.int .i64 (M:Nat)):=(D.out.2.below aO).cell 2;clear bv;go_wp2_with fail;refine al k ?_;clear k n;cases cv with
 |false=>
  have p:Hid (i=false):=by show i=false;rw[aX.out];unfold mrk;rw[N];rfl
  clear an;refine aa 3 l ?_;refine aq 4 l ?_;refine aq 5 l ?_;refine aq 6 l ?_;refine aa 7 l ?_;refine aa 8 l ?_;refine aq 9 l ?_;refine aq 10 l ?_;refine aq 11 l ?_;refine aa 12 l ?_;refine aa 13 l ?_;refine aq 14 l ?_;refine aq 15 l ?_;refine aq 16 l ?_;refine aq 17 l ?_;refine aq 18 l ?_;refine aq 19 l ?_;refine aq 20 l ?_;refine aa 21 l ?_;refine aj 22 fun n k=> ?_;go_wp2_with fail;refine al k ?_;clear k n;refine ax ?_;go_wp2_with fail;go_ret;exact⟨by rw[p.out];rfl,A.out _ aO⟩
 |true=>
 have bw:=tE _ _ mb M (z.reverse++[]) I a c cm kH kH (an rfl) (a3.out.1.keep (a2.out _ bN));generalize X:mOk M I (z.reverse++[])=cw at bw;clear an;refine aa 3 l ?_;refine aa 4 l ?_;refine aa 5 l ?_;refine aj 6 fun n k=> ?_;go_wp2_with fail;refine bw.mono ?_;rintro e bk ⟨rfl,bf,Q⟩;have T:=aO.trans (bf.below kH aO.size);have j:bk.cell? ⟨w.1.size+1,2,none⟩=some (.int .i64 (M:Nat)):=(D.out.2.below T).cell 2;clear bw;go_wp2_with fail;refine al k ?_;clear k n;have bH:=bN.trans bf;cases cw with
 |false=>
  have p:Hid (i=false):=by show i=false;rw[aX.out];unfold mrk;rw[N,X];rfl
  clear Q;refine aa 7 j ?_;refine aa 8 j ?_;refine aq 9 j ?_;refine aq 10 j ?_;refine aq 11 j ?_;refine aa 12 j ?_;refine aa 13 j ?_;refine aq 14 j ?_;refine aq 15 j ?_;refine aq 16 j ?_;refine aq 17 j ?_;refine aq 18 j ?_;refine aq 19 j ?_;refine aq 20 j ?_;refine aa 21 j ?_;refine aj 22 fun n k=> ?_;go_wp2_with fail;refine al k ?_;clear k n;refine ax ?_;go_wp2_with fail;go_ret;exact⟨by rw[p.out];rfl,A.out _ T⟩
 |true=>
 have bx:=tE _ _ mb M (I.reverse++(z.reverse++[])) C cq cr bk kH kH (Q rfl) (a3.out.2.keep (a2.out _ bH));generalize am:mOk M C (I.reverse++(z.reverse++[]))=cx at bx;clear Q;refine aa 7 j ?_;refine aa 8 j ?_;refine aa 9 j ?_;refine aa 10 j ?_;refine aj 11 fun n k=> ?_;go_wp2_with fail;refine bx.mono ?_;rintro e bl ⟨rfl,ce,R⟩;have U:=T.trans (ce.below kH T.size);have m:bl.cell? ⟨w.1.size+1,2,none⟩=some (.int .i64 (M:Nat)):=(D.out.2.below U).cell 2;clear bx;go_wp2_with fail;refine al k ?_;clear k n;cases cx with
 |false=>
  have p:Hid (i=false):=by show i=false;rw[aX.out];unfold mrk;rw[N,X,am];rfl
  clear R;refine aa 12 m ?_;refine aa 13 m ?_;refine aq 14 m ?_;refine aq 15 m ?_;refine aq 16 m ?_;refine aq 17 m ?_;refine aq 18 m ?_;refine aq 19 m ?_;refine aq 20 m ?_;refine aa 21 m ?_;refine aj 22 fun n k=> ?_;go_wp2_with fail;refine al k ?_;clear k n;refine ax ?_;go_wp2_with fail;go_ret;exact⟨by rw[p.out];rfl,A.out _ U⟩
 |true=>
 have b0:=tD _ mb M (C.reverse++(I.reverse++(z.reverse++[]))) bl kH (R rfl);have a6:Hid (i=((mkd (C.reverse++(I.reverse++(z.reverse++[]))) M).length+2==M)):=by show i= _;rw[aX.out];unfold mrk;rw[N,X,am];rfl
 generalize mkd (C.reverse++(I.reverse++(z.reverse++[]))) M=mk at*;clear R N X am;refine aa 12 m ?_;refine aa 13 m ?_;refine aa 14 m ?_;refine aa 17 m ?_;refine aa 18 m ?_;refine aa 19 m ?_;refine aj 15 fun n k=> ?_;go_wp2_with fail;refine b0.mono ?_;rintro e ch ⟨cE,cF,rfl,b2,bP⟩;have af:=U.trans (b2.mono U.size);have s:ch.cell? ⟨w.1.size+1,2,none⟩=some (.int .i64 (M:Nat)):=(D.out.2.below af).cell 2;clear b0 bP;go_wp2_with fail;refine al k ?_;clear k n;by_cases a0:mk.length+2=M
 ·have cc:(((mk.length:Nat):Int)==(M:Int)-2)=true:=by simp;omega
  have p:Hid (i=true):=by show i=true;rw[a6.out];simp[a0]
  clear a0;refine aa 16 s ?_;refine aa 20 s ?_;refine aa 21 s ?_;refine aj 22 fun n k=> ?_;go_wp2_with fail;refine al k ?_;clear k n;refine ax ?_;go_wp2_with fail;go_ret;exact⟨by rw[p.out];rfl,A.out _ af⟩
 ·have cc:(((mk.length:Nat):Int)==(M:Int)-2)=false:=by simp;omega
  have p:Hid (i=false):=by show i=false;rw[a6.out];simp[a0]
  clear a0;refine aa 16 s ?_;refine aa 20 s ?_;refine aa 21 s ?_;refine aj 22 fun n k=> ?_;go_wp2_with fail;refine al k ?_;clear k n;refine ax ?_;go_wp2_with fail;go_ret;exact⟨by rw[p.out];rfl,A.out _ af⟩
