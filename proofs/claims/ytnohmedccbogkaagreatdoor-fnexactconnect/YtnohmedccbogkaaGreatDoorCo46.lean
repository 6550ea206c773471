import Derived.Test.YtnohmedccbogkaaGreatDoorCo45
namespace Go.Proofs.YtnohmedccbogkaaGreatDoor
open Go.Proofs.Tryz
open Go.RowKit
set_option linter.unusedVariables false
set_option maxRecDepth 100000
set_option maxHeartbeats 32000000
theorem nE{P w}{g:Operand->Value}{o b a f x y p q v}(c:P.eqGuardType P.depth a=false)(d:o.op= .binOp b a x y f)(hx:g x= .agg p)(e:g y= .agg q)(h:(binOp b a (.agg p) (.agg q)).run P w= .ok v w):(execOp g o).run P w= .ok (.value v) w:=by
 unfold execOp;simp only[d,hx,e,q9,run_eqGuard_agg w b a x y p q c,h,sr,r2]
theorem qv{P o a w K c v}(h:(execOp a.eval o).run P w= .ok (.value v) w)(b:K (a.put o.dst v) w):o.wp P a w K c:=by
 unfold Oper.wp;rw[h];exact b
theorem By:∀f(h:Nat->List Int) n,1<=n->IsHs h n->(gC f h n).length=32
 |0,h,n,a,H=>H.len 0 kH
 |f+1,h,n,a,H=>by
  unfold gC;split
  ·exact H.len 0 kH
  ·exact By f (nxt h n) ((n+1)/2) kH (tr h n _)
theorem Bz(h n)(H:IsHs h n):(dO h n).length=32:=by
 unfold dO;split
 ·simp[aD]
 ·exact By n h n kH H
theorem ug{K}(h:shB K=true):shP K:=by
 by_cases a:shP K
 ·exact a
 ·rw[jt a]at h;cases h
theorem BA(z):dt z<=5000:=by unfold dt;split;omega;exact wP _
theorem qw:prog.eqGuardType prog.depth 32=false:=kO
theorem JnW.start{f root B B0 gw g v K a b e c w j}(h:JnW f root B B0 gw g v K a b none 0 0 e w j):JnW f root B B0 gw g v K a b none 0 0 c w j:=⟨h.blk,h.ids,h.bl,h.sp.congr (fun i d=>absurd d (np _)),h.wot,h.bel,h.hg,h.lo⟩
theorem Mt{a ch root bE bv B B0 gw g v K q r bx c0 w c7 d}(a5:RDisk c0 d a)(Z:whB a ch root bE bv=true)(h:JnW a root B B0 gw g v K q r none 0 0 bx w c7)(a3:BlF K)(T:Tabs w):
 Calls prog 74 #[.pointer (some ⟨g,0,none⟩)] c7 fun e u'=>e= .returned (.int .i64 (ruC (enL a root) K))/\Below w.1.size w u'/\(ruC (enL a root) K=0->∃cw cy,JnW a root B B0 gw g v K q r cw (spN K.tx K.nt) cy (coR (enL a root) K.tx K.nt) w u'):=by
 have bp:=LT a5 Z h.wot;have cL:=h.c0;have b0:Hid _:=h;have a8:Hid _:=fun{E sn F}{f:Nat->List Value} x(hx:JnW a root B B0 gw g v K q r E sn F f w x)(i:Nat)(D:i<K.nt)=>Bj a5 Z hx i D (by have:=(a3.tx i D).no;omega);have be:Hid _:=fun{E sn F}{f:Nat->List Value} x(hx:JnW a root B B0 gw g v K q r E sn F f w x)(i:Nat)(D:i<K.nt)(R:sn<=1000)=>Ml a5 Z hx i D (a3.tx i D).ni (a3.tx i D).no (fun j u=>⟨by have:=((a3.tx i D).out j u).1;omega,((a3.tx i D).out j u).2⟩) a3.h R;have bd:Hid _:=fun x(hx:JnW a root B B0 gw g v K q r none 0 0 bx w x)=>Ms hx a3;have cF:Hid _:=T;have p:Hid _:=a3;have Y:=AB (gtE (enL a root) ⟨#[116]⟩);have c6:=AJ (gtE (enL a root) ⟨#[116]⟩);have co:=h.bl.ok.pl;have cp:=h.bl.ok.rl;have c5:=a3.nt;have ad:Hid _:= @Bl (enL a root) K;have bN:Hid _:= @Bm (enL a root) K;have bP:Hid _:= @Bn (enL a root) K;have bR:Hid _:= @Bo (enL a root) K;have bS:Hid _:= @Bp (enL a root) K;have bH:Hid _:= @Bq (enL a root) K;clear a5 Z h T a3;generalize tpI (gtE (enL a root) ⟨#[116]⟩)=l at*;generalize tpH (gtE (enL a root) ⟨#[116]⟩)=bz at*;have cu:(prog.info? 32).map (·.size)=some (ob l).toArray.size:=by rw[aE,Y];exact aJ
 have cv:zH.toArray.size=(ob l).toArray.size:=by rw[aE,Y];rfl
 unfold hA at bp;go_enter func74,ntmps74;go_wp2_with fail;refine bp.mono ?_;rintro e P ⟨rfl,cr,cC⟩;have ct:=bAl P (.cells (ob l).toArray 32);have cq:Blk (P.alloc (.cells (ob l).toArray 32)) 32 P.1.size (ob l):=ao P _ _;have ae:=kG ((b0.out.recd cr cC).below ct) cq;clear bp cr cC ct cq b0 cL;go_upto_region 2 with(refine aL rfl 32 _ _ rfl P zH.toArray (ob l).toArray 32 rfl rfl cu cv (bQ _) ?_)
 change Code.wp _ _ _ _ (P.alloc (.cells (ob l).toArray 32));generalize P.alloc (.cells (ob l).toArray 32)=bq at*;generalize P.1.size=cD at*;obtain⟨J,ar⟩:∃cG,cG=bq.drew:=⟨_,rfl⟩;have ac:Below bq.1.size bq J:=by rw[ar];exact⟨rfl,rfl,rfl,kE,fun _ _=>rfl⟩
 have ab:Hid _:=ae.out.1.below ac;have cs:(Instr.loadAt 32 (.pointer (some ⟨g,1,none⟩))).run prog J= .ok (.agg (ob K.prev).toArray) J/\(Instr.loadAt 32 (.pointer (some ⟨cD,0,none⟩))).run prog J= .ok (.agg (ob l).toArray) J/\J.cell? ⟨g,65,none⟩=some (.int .i64 K.h):=⟨ab.out.lprev,tX Y (Blk.below ae.out.2 ac),ab.out.ch⟩;refine ay (fun x=>(Instr.loadAt 32 (.pointer (some ⟨g,1,none⟩))).run prog x= .ok (.agg (ob K.prev).toArray) x/\(Instr.loadAt 32 (.pointer (some ⟨cD,0,none⟩))).run prog x= .ok (.agg (ob l).toArray) x/\x.cell? ⟨g,65,none⟩=some (.int .i64 K.h)) (fun k=>decide (16<=k)) kO ?_;rw[<-ar];clear ar ac ae cu cv;refine aa 0 cs ?_;refine aa 1 cs ?_;refine aa 2 cs ?_;refine aa 3 cs ?_;refine aC 4 (.agg (ob K.prev).toArray) cs ?hl4 ?_
 case hl4=>exact fun x hx=>bO rfl rfl hx.1
 refine aC 5 (.agg (ob l).toArray) cs ?hl5 ?_
 case hl5=>exact fun x hx=>bO rfl rfl hx.2.1
 refine aC 6 (.bool (K.prev !=l)) cs ?hl6 ?_
 case hl6=>exact fun x _=>nE qw rfl rfl rfl (rN co Y x)
 by_cases C:K.prev=l
 ·have G:(K.prev !=l)=false:=by simp[C]
  rw[G];by_cases H:K.h=bz+1
  ·have cf:(K.h !=bz+1)=false:=by simp[H]
   have b:=kG C H;clear C H G ad;refine aa 7 cs ?_;refine aa 8 cs ?_;refine aa 9 cs ?_;refine aa 10 cs ?_;refine aa 11 cs ?_;refine aa 12 cs ?_;refine aa 13 cs ?_;refine aa 14 cs ?_;refine aa 15 cs ?_;refine aj 16 fun I m=> ?_;go_wp2_with fail;refine cU m ?_;clear m I cs;go_upto_region 4 with fail
   have a0:=Bz _ _ (ll K.tx K.nt);obtain⟨bs,aw⟩:∃cG,cG=J.drew:=⟨_,rfl⟩;have ac:Below J.1.size J bs:=by rw[aw];exact⟨rfl,rfl,rfl,kE,fun _ _=>rfl⟩
   have an:=ab.out.below ac;have a9:Hid _:=an;have a7:Hid (∀x,JnW a root B B0 gw g v K q r none 0 0 bx w x->(Instr.loadAt 32 (.pointer (some ⟨g,33,none⟩))).run prog x= .ok (.agg (ob K.root).toArray) x/\x.cell? ⟨g,67,none⟩=some (.slice q K.nt r)):=fun x hx=>⟨hx.lroot,hx.ci_⟩;have cs:=a7.out bs an;have b7:=IK q K.nt r (av K.tx) bs (cF.out.below an.bel) (an.ids.reads (ll K.tx K.nt)) kH;have V:Hid (∀y,y=dO (av K.tx) K.nt->(y≠K.root->ruC (enL a root) K=3)/\(y=K.root->shB K=false->ruC (enL a root) K=4)/\(y=K.root->shB K=true->(fcC (enL a root) K K.nt≠0->ruC (enL a root) K=fcC (enL a root) K K.nt)/\(fcC (enL a root) K K.nt=0->((dt K.h:Int)+fcO (enL a root) K K.nt<bV (K.tx 0).V (K.tx 0).no\/tkB (enL a root) (av K.tx 0) (K.tx 0).no=true->ruC (enL a root) K=8)/\(¬(dt K.h:Int)+fcO (enL a root) K K.nt<bV (K.tx 0).V (K.tx 0).no->tkB (enL a root) (av K.tx 0) (K.tx 0).no=false->ruC (enL a root) K=0)))):=fun y e=>by
    subst e;exact⟨fun Q=>bN.out b.out.1 b.out.2 Q,fun Q R=>bP.out b.out.1 b.out.2 Q R,fun Q R=>⟨fun a6=>bR.out b.out.1 b.out.2 Q R a6,fun a6=>⟨fun hx=>bS.out b.out.1 b.out.2 Q R a6 hx,fun hx cR=>bH.out b.out.1 b.out.2 Q R a6 kH cR⟩⟩⟩
   have V:=V.out _ rfl;have M:Hid _:=V;clear V ab ac an bN bP bR bS bH b;generalize dO (av K.tx) K.nt=mk at*;refine ay (fun x=>(Instr.loadAt 32 (.pointer (some ⟨g,33,none⟩))).run prog x= .ok (.agg (ob K.root).toArray) x/\x.cell? ⟨g,67,none⟩=some (.slice q K.nt r)) (fun k=>decide (10<=k)) kO ?_;rw[<-aw];clear aw;refine aa 0 cs ?_;refine aa 1 cs ?_;refine aa 2 cs ?_;refine aa 3 cs ?_;refine aC 4 (.agg (ob K.root).toArray) cs ?hl4 ?_
   case hl4=>exact fun x hx=>bO rfl rfl hx.1
   refine aa 5 cs ?_;refine aa 6 cs ?_;refine aa 7 cs ?_;refine aa 8 cs ?_;refine aj 9 fun I m=> ?_;go_wp2_with fail;refine b7.mono ?_;rintro e bF ⟨rfl,cb⟩;have bl:=a9.out.below cb;have cd:=a7.out bF bl;have U:Hid _:=bl;clear b7 cb bl a9 cs;go_wp2_with fail;refine al m ?_;clear m I;refine aj 10 fun I m=> ?_;refine qv (v:= .bool (K.root !=mk)) ?hy10 ?_
   case hy10=>exact nE qw rfl rfl rfl (rN cp a0 bF)
   refine cU m ?_;simp only[Act.put,iQ];clear m I cd;by_cases z:mk=K.root
   ·have ap:(K.root !=mk)=false:=by simp[z]
    rw[ap];have N:=kG (M.out.2.1 z) (M.out.2.2 z);have bn:=bd.out bF U.out;clear z ap M a0;generalize bh:shB K=sb at bn N;have b3:Hid _:=bh;clear bh;go_wp2_with fail;refine bn.mono ?_;rintro e cE ⟨rfl,cc⟩;have ah:Hid _:=U.out.below cc;clear bn cc U bd;cases sb with
    |false=>
     have c:Hid _:=N.out.1 rfl;clear N;go_wp2_with fail;go_ret;rw[c.out];exact⟨rfl,ah.out.bel,fun h=>by cases h⟩
    |true=>
     have ak:Hid _:=N.out.2 rfl;clear N;have bj:Hid _:=ug b3.out;have cM:=ah.out.ch;have b9:=Gb K.h cE (by have:=p.out.h.2;omega);go_wp2_with fail;refine b9.mono ?_;rintro e w' ⟨rfl,a1⟩;obtain rfl:=a1.symm;clear a1 b9 cM;have cP:dt K.h<=5000:=BA _;have bc:Hid (∃E F,(dt K.h:Int)=(dt K.h:Int)+fcO (enL a root) K 1/\JnW a root B B0 gw g v K q r E (spN K.tx 1) F (coR (enL a root) K.tx 1) w cE):=by
      refine⟨none,0,by rw[(qp _ _).2];omega,?_⟩;have e:spN K.tx 1=0:=by show 0+(K.tx 0).ni=0;rw[((bj.out.2.1 0 bj.out.1).1.1 rfl)]
      rw[e];exact ah.out.start
     have A:=bj.out.1;have bb:Hid _:=fun k(L:k<=K.nt)=>ml (K:=K.tx) k (fun i D=>⟨(p.out.tx i kH).ni,(p.out.tx i kH).no⟩);have am:Hid _:=fun k(L:k<=K.nt)=>uf (es:=enL a root) (K:=K) k (fun i D=>⟨(p.out.tx i kH).ni,fun j u=>⟨by have:=((p.out.tx i kH).out j u).1;omega,((p.out.tx i kH).out j u).2⟩⟩);have ba:Hid _:=fun k(L:k<K.nt)=>ue (enL a root) (K:=K.tx k) (av K.tx k) K.h (p.out.tx k L).ni (fun j u=>⟨by have:=((p.out.tx k L).out j u).1;omega,((p.out.tx k L).out j u).2⟩);go_wp2_with fail;go_loopw [5,6] (fun s i wr=> ∃(k:Nat)(E:Option Addr)(F:Nat),s= .int .i64 ((dt K.h:Nat)+fcO (enL a root) K k)/\i= .int .i64 (k:Nat)/\1<=k/\k<=K.nt/\fcC (enL a root) K k=0/\JnW a root B B0 gw g v K q r E (spN K.tx k) F (coR (enL a root) K.tx k) w wr) (fun _ i _=>K.nt-(intOf i).toNat)
     case atStart=>obtain⟨E,F,e,t⟩:=bc.out;exact⟨1,E,F,by rw[<-e],rfl,kE,A,(qp _ _).1,t⟩
     case round=>
      obtain⟨k,E,F,rfl,rfl,bf,L,X,t⟩:=hrel;obtain⟨a2,rfl⟩:∃x,x=wr:=⟨_,rfl⟩;clear bc;have ck:=t.ci_;by_cases aX:k<K.nt
      ·have cO:(k:Int)< (K.nt:Int):=kH;have b8:=be.out a2 t k aX (by have:=bb.out k L;omega);have W:Hid _:=uc bf X;have cn:=am.out k L;have c2:=ba.out k aX;have b2:Hid (spN K.tx (k+1)=spN K.tx k+(K.tx k).ni/\coR (enL a root) K.tx (k+1)=fR (coR (enL a root) K.tx k) (spN K.tx k) (fun j=>cnC (enL a root) ((K.tx k).P j))):=⟨rfl,rfl⟩;have b4:Hid _:=fun cm=>ud (es:=enL a root) (K:=K) (n:=k+1) kH cm K.nt kH;clear t X;generalize fY (enL a root) (K.tx k) (av K.tx k) K.h=c8 at*;generalize fe (enL a root) (K.tx k) (av K.tx k) K.h=a4 at*;generalize fcO (enL a root) K k=cg at*;go_wp2_with fail;refine b8.mono ?_;rintro e c9 ⟨rfl,bt,aO⟩;clear b8;by_cases o:a4=0
       ·have ce:(a4 !=0)=false:=by simp[o]
        obtain⟨cx,cz,b5⟩:=aO o;have b1:Hid _:=b5;have bY:Hid (fcC (enL a root) K (k+1)=0):=W.out.1.trans o;clear b5 aO o bt;go_wp2_with fail;go_roundw
        case rel=>exact⟨k+1,cx,cz,by rw[W.out.2];go_num,by go_num,kH,kH,bY.out,by rw[b2.out.1,b2.out.2];exact b1.out⟩
        case measure=>simp[intOf];omega
       ·have ce:(a4 !=0)=true:=by simp[o]
        have c:Hid (ruC (enL a root) K=a4):=by
         have bu:=b4.out (by rw[W.out.1];exact o);rw[W.out.1]at bu;exact(ak.out.1 (by rw[bu];exact o)).trans bu
        have S:=kG bt o;clear aO o bt;go_wp2_with fail;go_ret;rw[c.out];exact⟨rfl,S.out.1,fun h=>absurd h S.out.2⟩
      ·have cl:k=K.nt:=kH;subst cl;have c3:¬(K.nt:Int)< (K.nt:Int):=kH;have bg:=t.ct;obtain⟨cH,cS,bi,_,cA,_⟩:=t.tx A;rw[bi]at bg;have cB:a2.cell? ⟨cH,cS+1,none⟩=some (.slice (v.tv 0).oa (K.tx 0).no (v.tv 0).oc):=by simpa using cA
       have ci:∀j,j< (K.tx 0).no->0<=(K.tx 0).V j/\(K.tx 0).V j<=1000000000000:=fun j u=>⟨by have:=((p.out.tx 0 A).out j u).1;omega,((p.out.tx 0 A).out j u).2⟩;have c4:=(p.out.tx 0 A).no;have ca:=A0 (v.tv 0).oa (K.tx 0).no (v.tv 0).oc (K.tx 0).V a2 (t.ins A).outs ci kH;have bk:Calls prog 132 #[.pointer (some ⟨g,0,none⟩),.int .i64 0] a2 _:=a8.out a2 t 0 A;have cn:=am.out K.nt kE;have O:Hid _:=ak.out.2 X;have S:Hid _:=t.bel;clear t X ak cA bi ci aX L bf a8 be am ba bb;generalize bV (K.tx 0).V (K.tx 0).no=cT at*;generalize fcO (enL a root) K K.nt=cg at*;generalize tkB (enL a root) (av K.tx 0) (K.tx 0).no=cV at*;go_wp2_with fail;refine ca.mono ?_;rintro e w' ⟨rfl,a1⟩;obtain rfl:=a1.symm;clear a1 ca cB bg ck;by_cases aH:(dt K.h:Int)+cg<cT
       ·have c:Hid _:=O.out.1 (kV aH);clear O bk;go_wp2_with fail;go_ret;rw[c.out];exact⟨rfl,S.out,fun h=>by cases h⟩
       ·have c1:=q5 aH;have ag:Hid _:=fun bw=>O.out.1 (kT bw);have af:Hid _:=fun bw=>O.out.2 kH bw;clear O aH;go_wp2_with fail;refine bk.mono ?_;rintro e da ⟨rfl,b6,_⟩;have ai:Hid _:=b6;clear bk b6;cases cV with
        |true=>
         have c:Hid _:=ag.out rfl;clear ag af;go_wp2_with fail;go_ret;rw[c.out];exact⟨rfl,ai.out.bel,fun h=>by cases h⟩
        |false=>
         have c:Hid _:=af.out rfl;clear ag af;go_wp2_with fail;go_ret;rw[c.out];exact⟨rfl,ai.out.bel,fun _=>⟨_,_,ai.out⟩⟩
   ·have ap:(K.root !=mk)=true:=by simp[Ne.symm z]
    rw[ap];have c:Hid _:=M.out.1 z;clear z ap M a0;go_wp2_with fail;go_ret;rw[c.out];exact⟨rfl,U.out.bel,fun h=>by cases h⟩
  ·have cf:(K.h !=bz+1)=true:=by simp[H]
   have c:Hid _:=ad.out (kT H);clear C H G ad;refine aa 7 cs ?_;refine aa 8 cs ?_;refine aa 9 cs ?_;refine aa 10 cs ?_;refine aa 11 cs ?_;refine aa 12 cs ?_;refine aa 13 cs ?_;refine aa 14 cs ?_;refine aa 15 cs ?_;refine aj 16 fun I m=> ?_;go_wp2_with fail;refine cU m ?_;clear m I cs;go_wp2_with fail;go_ret;rw[c.out];exact⟨rfl,ab.out.bel,fun h=>by cases h⟩
 ·have G:(K.prev !=l)=true:=by simp[C]
  rw[G];have c:Hid _:=ad.out (kV C);clear C G ad;refine aa 7 cs ?_;refine aq 8 cs ?_;refine aq 9 cs ?_;refine aq 10 cs ?_;refine aq 11 cs ?_;refine aq 12 cs ?_;refine aq 13 cs ?_;refine aq 14 cs ?_;refine aq 15 cs ?_;refine aj 16 fun I m=> ?_;go_wp2_with fail;refine cU m ?_;clear m I cs;go_wp2_with fail;go_ret;rw[c.out];exact⟨rfl,ab.out.bel,fun h=>by cases h⟩
theorem Mu:prog.eqGuardType prog.depth 52=false:=kO
theorem Mv{x y:List Value}{d f}(hx:keyOf prog 52 (.agg x.toArray)=some d)(a:keyOf prog 52 (.agg y.toArray)=some f)(w):∃r:Bool,(binOp .eql 52 (.agg x.toArray) (.agg y.toArray)).run prog w= .ok (.bool r) w/\(r=true↔x=y):=by
 obtain⟨r,b,c⟩:=run_equal_deep w (m:=3) kH (k:=52) kO kO hx a;refine⟨r,?_,?_⟩
 ·rw[run_eql_struct];have e:Op.equal 52 (.agg x.toArray) (.agg y.toArray)=Op.equalIn 10000 52 (.agg x.toArray) (.agg y.toArray):=rfl;rw[<-e,b]
  rfl
 ·rw[c];constructor
  ·intro e;rw[<-e]at a;exact wH (Bu.inj hx a)
  ·intro e;rw[e,a]at hx;exact(sv hx).symm
theorem RRow.loadPt{w n c b off f}(H:RRow w 33 (some ⟨b,off,none⟩) n c f)(i)(a:i<n):(Instr.loadAt 52 (.pointer (some ⟨b,off+i*33,none⟩))).run prog w= .ok (.agg (f i).toArray) w:=by
 obtain⟨j,h,e,_,d⟩:=H.at_ kH;cases e;have s:(prog.info? 52).map (·.size)=some (f i).length:=by rw[H.ok.len i a];exact gl
 simp only[Instr.loadAt,Instr.sureAddr,q9,r2,Result.andThen];exact iM w b (off+i*33) 52 (f i) _ (fun q x hx=>by
  have g:q<33:=by have:=(lb.1 hx).1;rw[H.ok.len i a]at this;exact this
  rw[d i q a g];exact hx) r9 rfl s
theorem Mw{x y}(h:ob x=ob y):x=y:=by
 have e:∀l:List Int,(ob l).map (fun v=>match v with| .int _ n=>n|_=>0)=l:=fun l=>by simp[ob,List.map_map,Function.comp_def]
 rw[<-e x,<-e y,h]
theorem BB{f n}(h:gu f n)(c:∀q,q<n->f q≠f n):gu f (n+1):=fun i j a b=>by
 rcases og (oH b)with h1|rfl
 ·exact h i j a h1
 ·exact c i a
theorem Mx{K}(h:∀i,i<K.nt->shT K i)(b:gu (fun i=>ob (av K.tx i)) K.nt)(c:gu (spR K.tx K.nt) (spN K.tx K.nt)):shB K=decide (0<K.nt):=by
 by_cases a:0<K.nt
 ·rw[Bk ⟨a,h,b,c⟩,q6 a]
 ·rw[jt (fun d=>a d.1),q5 a]
theorem My(v K bj bl w)(hr:RBl w v K)(L:RHs w bj K.nt bl (av K.tx))(bx:BlF K):
 Calls prog 113 #[cK v K,.slice bj K.nt bl] w fun e w'=>e= .returned (.bool (shB K))/\Below w.1.size w w':=by
 unfold cK;have b8:=hr.ok;obtain⟨J,V⟩:∃cn,cn=w.alloc (.cells (blc v K).toArray 113):=⟨_,rfl⟩;have a3:Below w.1.size w J:=by rw[V];exact bAl _ _
 have bu:Blk J 113 w.1.size (blc v K):=by rw[V];exact ao w _ _
 have t:Hid (∀x,Below J.1.size J x->x.cell? ⟨w.1.size,65,none⟩=some (.slice v.ta K.nt v.tc)/\x.cell? ⟨w.1.size,64,none⟩=some (.int .i64 K.h)/\RBl x v K/\RHs x bj K.nt bl (av K.tx)/\Below w.1.size w x):=fun x hx=>⟨((bu.below hx).cell 65).trans (jm v b8),((bu.below hx).cell 64).trans (iX v b8),(hr.below a3).below hx,(L.below a3).below hx,a3.trans (hx.mono a3.size)⟩;have ag:Hid (∀i,i<K.nt->TxOkP (K.tx i)/\IsPts (K.tx i).P (K.tx i).ni):=fun i L=>⟨bx.tx i L,(hr.txs.each i L).pts⟩;have cm:=bx.nt;have ac:Hid _:=ml (K:=K.tx) K.nt (fun i L=>⟨(bx.tx i L).ni,(bx.tx i L).no⟩);clear a3 bu hr L bx;go_enter func113,ntmps113;go_upto_region 1 with fail
 change Code.wp _ _ _ _ (w.alloc (.cells (blc v K).toArray 113));rw[<-V];clear V;go_wp2_with fail;go_loopw [5] (fun s wr=> ∃j:Nat,s= .int .i64 (j:Nat)/\j<=K.nt/\(∀q,q<j->shT K q)/\gu (fun i=>ob (av K.tx i)) j/\Below J.1.size J wr) (fun s _=>K.nt-(intOf s).toNat)
 case atStart=>exact⟨0,rfl,kX _,fun q z=>by omega,fun i j _ aH=>by omega,kF⟩
 case round=>
  obtain⟨j,rfl,aH,H,y,a⟩:=hrel;obtain⟨d,rfl⟩:∃x,x=wr:=⟨_,rfl⟩;obtain⟨U,bb,W,o,ap⟩:=t.out d a;by_cases b:j<K.nt
  ·have bs:(j:Int)< (K.nt:Int):=kH;obtain⟨bk,bv,b5,_,a6⟩:=W.txs.row.at_ kH;have bR:d.cell? ⟨bk,bv+j*3,none⟩=some (.slice (v.tv j).ia (K.tx j).ni (v.tv j).ic):=by have:=a6 j 0 b kH;simpa [bU,txc]using this
   have bS:d.cell? ⟨bk,bv+j*3+1,none⟩=some (.slice (v.tv j).oa (K.tx j).no (v.tv j).oc):=by have:=a6 j 1 b kH;simpa [bU,txc]using this
   have bY:d.cell? ⟨bk,bv+j*3+2,none⟩=some (.int .i64 (K.tx j).h):=by have:=a6 j 2 b kH;simpa [bU,txc]using this
   have b9:=bAl d (.cells (txc (v.tv j) (K.tx j)).toArray 121);have bt:Blk (d.alloc (.cells (txc (v.tv j) (K.tx j)).toArray 121)) 121 d.1.size (txc (v.tv j) (K.tx j)):=ao d _ _;have d0:(d.alloc (.cells (txc (v.tv j) (K.tx j)).toArray 121)).cell? ⟨d.1.size,0,none⟩=some (.slice (v.tv j).ia (K.tx j).ni (v.tv j).ic):=bt.cell 0;have co:(d.alloc (.cells (txc (v.tv j) (K.tx j)).toArray 121)).cell? ⟨d.1.size,2,none⟩=some (.int .i64 (K.tx j).h):=bt.cell 2;have S:Hid _:=a.trans (b9.mono a.size);have cg:=(t.out _ S.out).2.1;have C:Hid _:=(t.out _ S.out).2.2.2.2;have T:Hid (¬shT K j->shB K=false):=fun A=>jt (fun a1=>A (a1.2.1 j b));have a7:Hid (shT K j->∀q,q<j+1->shT K q):=fun A q z=>by rcases og (oH z)with h|rfl;exact H q h;exact A
   have D:Hid (shT K j↔((j=0↔(K.tx j).ni=0)/\(K.tx j).h=if j=0 then K.h else 0)):=Iff.rfl;have n:=kG y b;rw[b5]at U;clear a6 W o ap a b9 bt H y;go_upto_region 5 with(refine aL rfl 121 _ _ rfl d txz.toArray (txc (v.tv j) (K.tx j)).toArray 121 rfl rfl lR rfl (by simp[txc,Value.oneCell']) ?_)
   change Code.wp _ _ _ _ (d.alloc (.cells (txc (v.tv j) (K.tx j)).toArray 121));generalize d.alloc (.cells (txc (v.tv j) (K.tx j)).toArray 121)=ca at*;generalize d.1.size=ct at*;clear bR bS bY U bb;generalize v.tv j=cu at*;generalize (K.tx j).ni=b6 at*;generalize (K.tx j).no=cr at*;generalize (K.tx j).h=X at*;cases j with
   |zero=>
    have I:Hid ((if(0:Nat)=0 then K.h else 0)=K.h):=qb rfl;cases b6 with
    |zero=>
     by_cases l:X=K.h
     ·have bn:(X !=K.h)=false:=by simp[l]
      have bg:Hid _:=a7.out (D.out.2 ⟨⟨fun _=>rfl,fun _=>rfl⟩,by rw[I.out];exact l⟩);clear l;go_wp2_with fail;go_loopw [7] (fun s a5=>s= .int .i64 0/\a5=ca) (fun s _=>0)
      case atStart=>exact⟨rfl,rfl⟩
      case round=>
       obtain⟨rfl,rfl⟩:=hrel;go_wp2_with fail;go_roundw
       case rel=>exact⟨1,by go_num,kH,bg.out,fun i j aw aH=>by omega,S.out⟩
       case measure=>simp[intOf];omega
     ·have bn:(X !=K.h)=true:=by simp[l]
      have g:Hid _:=T.out (fun A=>l ((D.out.1 A).2.trans I.out));clear l;go_wp2_with fail;go_ret;rw[g.out];exact⟨rfl,C.out⟩
    |succ m=>
     have g:Hid _:=T.out (fun A=>by have:=(D.out.1 A).1.1 rfl;omega);have b3:((m:Int)+1==0)=false:=by simp;omega
     go_wp2_with fail;go_ret;rw[g.out];exact⟨rfl,C.out⟩
   |succ E=>
    have ch:((E:Int)+1==0)=false:=by simp;omega
    have I:Hid ((if E+1=0 then K.h else 0)=0):=q4 kH;cases b6 with
    |zero=>
     have g:Hid _:=T.out (fun A=>by have:=(D.out.1 A).1.2 rfl;omega);go_wp2_with fail;go_ret;rw[g.out];exact⟨rfl,C.out⟩
    |succ m=>
     have b3:((m:Int)+1==0)=false:=by simp;omega
     by_cases l:X=0
     ·have bn:(X !=0)=false:=by simp[l]
      have bg:Hid _:=a7.out (D.out.2 ⟨⟨fun h=>by omega,fun h=>by omega⟩,by rw[I.out];exact l⟩);clear l;go_wp2_with fail;go_loopw [7] (fun s a5=> ∃k:Nat,s= .int .i64 (k:Nat)/\k<=E+1/\(∀q,q<k->ob (av K.tx q)≠ob (av K.tx (E+1)))/\Below J.1.size J a5) (fun s _=>E+1-(intOf s).toNat)
      case atStart=>exact⟨0,rfl,kX _,fun q z=>by omega,S.out⟩
      case round=>
       obtain⟨k,rfl,bp,f,a⟩:=hrel;obtain⟨a4,rfl⟩:∃x,x=wr:=⟨_,rfl⟩;by_cases M:k<E+1
       ·have bq:(k:Int)< (E:Int)+1:=kH;have b0:(k:Int)< (K.nt:Int):=kH;have ci:(E:Int)+1< (K.nt:Int):=kH;have ck:0<=(E:Int)+1:=kH;have cl:((E:Int)+1).toNat=E+1:=kH;obtain⟨G,u⟩:∃cb,cb=a4.drew:=⟨_,rfl⟩;have ah:Below a4.1.size a4 G:=by rw[u];exact⟨rfl,rfl,rfl,kE,fun _ _=>rfl⟩
        have c:Hid _:=a.trans (ah.mono a.size);have o:=(t.out G c.out).2.2.2.1;obtain⟨ai,oi,an,_⟩:=o.at_ kH;rw[an]at o ⊢;have cs:=kR (o.load k kH) (o.load (E+1) b);have b1:(av K.tx k).length=32:=fW _;have b2:(av K.tx (E+1)).length=32:=fW _;have ad:Hid _:=f;have af:Hid (av K.tx k=av K.tx (E+1)->shB K=false):=fun e=>jt (fun a1=>a1.2.2.1 k (E+1) M b (rx ob e));clear o a ah f;generalize bc:av K.tx k=Q at*;generalize aw:av K.tx (E+1)=P at*;have bz:=kG bc aw;clear bc aw;go_upto_region 10 with fail
        refine ay (fun x=>(Instr.loadAt 32 (.pointer (some ⟨ai,oi+k*32,none⟩))).run prog x= .ok (.agg (ob Q).toArray) x/\(Instr.loadAt 32 (.pointer (some ⟨ai,oi+(E+1)*32,none⟩))).run prog x= .ok (.agg (ob P).toArray) x) (fun k=>decide (8<=k)) kO ?_;rw[<-u];clear u;refine aa 0 cs ?_;refine aa 1 cs ?_;refine aa 2 cs ?_;refine aC 3 (.agg (ob Q).toArray) cs ?hl3 ?_
        case hl3=>exact fun x hx=>bO rfl rfl hx.1
        refine aa 4 cs ?_;refine aa 5 cs ?_;refine aa 6 cs ?_;refine aC 7 (.agg (ob P).toArray) cs ?hl7 ?_
        case hl7=>exact fun x hx=>bO rfl rfl hx.2
        refine aj 8 fun bi am=> ?_;refine qv (v:= .bool (Q==P)) ?hy8 ?_
        case hy8=>exact nE qw rfl rfl rfl (FN b1 b2 G)
        refine cU am ?_;simp only[Act.put,iQ];clear am bi cs;by_cases F:Q=P
        ·have ak:(Q==P)=true:=by simp[F]
         rw[ak];have g:Hid _:=af.out F;have O:Hid _:=(t.out G c.out).2.2.2.2;clear ak F;go_wp2_with fail;go_ret;rw[g.out];exact⟨rfl,O.out⟩
        ·have ak:(Q==P)=false:=by simp[F]
         rw[ak];have ae:Hid (ob Q≠ob P):=fun e=>F (Mw e);clear ak F;go_wp2_with fail;go_roundw
         case rel=>exact⟨k+1,by go_num,kH,fun q z=>by rcases og (oH z)with h|rfl;exact ad.out q h;rw[bz.out.1];exact ae.out,c.out⟩
         case measure=>simp[intOf];omega
       ·have aX:k=E+1:=kH;have a0:¬(k:Int)< (E:Int)+1:=kH;have ab:Hid _:=BB n.out.1 (fun q z=>f q kH);have c:Hid _:=a;clear a f aX M bp;go_wp2_with fail;go_roundw
        case rel=>exact⟨E+1+1,by go_num,kH,bg.out,ab.out,c.out⟩
        case measure=>simp[intOf];omega
     ·have bn:(X !=0)=true:=by simp[l]
      have g:Hid _:=T.out (fun A=>l ((D.out.1 A).2.trans I.out));clear l;go_wp2_with fail;go_ret;rw[g.out];exact⟨rfl,C.out⟩
  ·have aO:j=K.nt:=kH;subst aO;have a0:¬(K.nt:Int)< (K.nt:Int):=kH;have bN:=Kf v.ta K.nt v.tc v.tv K.tx d W.txs kH (by have:=ac.out;omega);have a8:Hid _:=Bw ag.out;have bF:Hid _:=Bv ag.out;have bH:Hid (∀p q,p<q->q<spN K.tx K.nt->spR K.tx K.nt p=spR K.tx K.nt q->shB K=false):=fun p q b4 z e=>jt (fun a1=>a1.2.2.2 p q b4 z e);have bh:Hid (gu (spR K.tx K.nt) (spN K.tx K.nt)->shB K=decide (0<K.nt)):=fun ce=>Mx H y ce;have cf:spN K.tx K.nt<=72:=by have:=ac.out;omega
   have Z:Hid _:=a;clear W o ap a H y b aH bb ag ac;generalize spN K.tx K.nt=sn at*;generalize spR K.tx K.nt=B at*;go_wp2_with fail;refine bN.mono ?_;rintro e Y ⟨cc,cd,rfl,b7,bP⟩;have R:Hid _:=Z.out.trans (bP.mono Z.out.size);have ba:Hid (∀x,Below Y.1.size Y x->RRow x 33 cc sn cd B):=fun x hx=>(ORow.reads b7 bF.out).below hx;clear bN bP b7 U Z;go_wp2_with fail;go_loopw [9] (fun s wr=> ∃j:Nat,s= .int .i64 (j:Nat)/\j<=sn/\gu B j/\Below Y.1.size Y wr) (fun s _=>sn-(intOf s).toNat)
   case atStart=>exact⟨0,rfl,kX _,fun i j _ aH=>by omega,kF⟩
   case round=>
    obtain⟨j,rfl,aH,y,a⟩:=hrel;obtain⟨a4,rfl⟩:∃x,x=wr:=⟨_,rfl⟩;have n:=kG y a;clear y a;by_cases b:j<sn
    ·have bs:(j:Int)< (sn:Int):=kH;go_wp2_with fail;go_loopw [10] (fun s a5=> ∃k:Nat,s= .int .i64 (k:Nat)/\k<=j/\(∀q,q<k->B q≠B j)/\Below Y.1.size Y a5) (fun s _=>j-(intOf s).toNat)
     case atStart=>exact⟨0,rfl,kX _,fun q z=>by omega,n.out.2⟩
     case round=>
      obtain⟨k,rfl,bp,f,a⟩:=hrel;obtain⟨bw,rfl⟩:∃x,x=wr:=⟨_,rfl⟩;by_cases M:k<j
      ·have bq:(k:Int)< (j:Int):=kH;have b0:(k:Int)< (sn:Int):=kH;obtain⟨G,u⟩:∃cb,cb=bw.drew:=⟨_,rfl⟩;have ah:Below bw.1.size bw G:=by rw[u];exact⟨rfl,rfl,rfl,kE,fun _ _=>rfl⟩
       have c:Hid _:=a.trans (ah.mono a.size);have N:=ba.out G c.out;obtain⟨ai,oi,an,_⟩:=N.at_ kH;rw[an]at N ⊢;have cs:=kR (N.loadPt k kH) (N.loadPt j b);obtain⟨cq,be⟩:=a8.out k kH;obtain⟨cp,bd⟩:=a8.out j b;obtain⟨r,a2,bf⟩:=Mv be bd G;have ad:Hid _:=f;have af:Hid _:=bH.out k j M b;have a9:Hid _:=bf;have bE:Hid _:=a2;clear N a ah f be bd bf a2;go_upto_region 19 with fail
       refine ay (fun x=>(Instr.loadAt 52 (.pointer (some ⟨ai,oi+k*33,none⟩))).run prog x= .ok (.agg (B k).toArray) x/\(Instr.loadAt 52 (.pointer (some ⟨ai,oi+j*33,none⟩))).run prog x= .ok (.agg (B j).toArray) x) (fun k=>decide (8<=k)) kO ?_;rw[<-u];clear u;refine aa 0 cs ?_;refine aa 1 cs ?_;refine aa 2 cs ?_;refine aC 3 (.agg (B k).toArray) cs ?hl3 ?_
       case hl3=>exact fun x hx=>bO rfl rfl hx.1
       refine aa 4 cs ?_;refine aa 5 cs ?_;refine aa 6 cs ?_;refine aC 7 (.agg (B j).toArray) cs ?hl7 ?_
       case hl7=>exact fun x hx=>bO rfl rfl hx.2
       refine aj 8 fun bi am=> ?_;refine qv (v:= .bool r) ?hy8 ?_
       case hy8=>exact nE Mu rfl rfl rfl bE.out
       refine cU am ?_;simp only[Act.put,iQ];clear am bi cs;cases r with
       |true=>
        have g:Hid _:=af.out (a9.out.1 rfl);have O:Hid _:=(t.out G (R.out.trans (c.out.mono R.out.size))).2.2.2.2;go_wp2_with fail;go_ret;rw[g.out];exact⟨rfl,O.out⟩
       |false=>
        have ae:Hid (B k≠B j):=fun e=>by have:=a9.out.2 e;cases this
        go_wp2_with fail;go_roundw
        case rel=>exact⟨k+1,by go_num,kH,fun q z=>by rcases og (oH z)with h|rfl;exact ad.out q h;exact ae.out,c.out⟩
        case measure=>simp[intOf];omega
      ·have aX:k=j:=kH;subst aX;have a0:¬(k:Int)< (k:Int):=kH;have ab:Hid _:=BB n.out.1 f;have c:Hid _:=a;clear a f M bp n;go_wp2_with fail;go_roundw
       case rel=>exact⟨k+1,by go_num,kH,ab.out,c.out⟩
       case measure=>simp[intOf];omega
    ·have aO:j=sn:=kH;subst aO;have a0:¬(j:Int)< (j:Int):=kH;obtain⟨U,_,_,_,ar⟩:=t.out a4 (R.out.trans (n.out.2.mono R.out.size));have g:Hid _:=bh.out n.out.1;have C:Hid _:=ar;clear ar n ba;go_wp2_with fail;go_ret;rw[g.out];exact⟨rfl,C.out⟩
structure CgS(u x:World)(a:Option Addr)(c:Nat)(xs:List Ch):Prop where
 och:OCh u.1.size x a c xs
 bel:Below u.1.size u x
section
variable {u x x':World} {a:Option Addr} {c:Nat} {xs:List Ch}
theorem CgS.below(h:CgS u x a c xs)(b:Below x.1.size x x'):CgS u x' a c xs:=⟨h.och.below b,h.bel.trans (b.mono h.bel.size)⟩
theorem CgS.app(h:CgS u x a c xs){d e b}(g:OCh u.1.size x' d e b)(f:x.grownBy x' (Value.slice a xs.length c).ownBlock):CgS u x' d e b:=⟨g,h.bel.trans (h.och.grown f h.bel.size)⟩
end
theorem uh{a b off l}(d:l.length=32)(c:∀q x,(ob l)[q]?=some x->a.cell? ⟨b,off+q,none⟩=some x):(Instr.loadAt 32 (.pointer (some ⟨b,off,none⟩))).run prog a= .ok (.agg (ob l).toArray) a:=by
 have s:(prog.info? 32).map (·.size)=some (ob l).length:=by rw[au,d];exact aJ
 simp only[Instr.loadAt,Instr.sureAddr,q9,r2,Result.andThen];exact iM a b off 32 (ob l) _ c qa rfl s
theorem BC{P w}{c:Operand->Value}{o s b x p v}(a:o.op= .convert s b x)(hx:c x=p)(h:(convert s b p).run P w= .ok v w):(execOp c o).run P w= .ok (.value v) w:=by
 unfold execOp;simp only[a,hx,q9,h,sr,r2]
theorem Mz(v h b):(coT v h b).size=13:=by
 show(strOfNums (num v 8++num h 4++[if b then 1 else 0])).size=13;rw[rg,kY,kY,gS,gS]
 rfl
theorem ui(es K):∀n,IsRow 3 (coR es K n) (spN K n)
 |0=>⟨fun i a=>by simp[spN]at a,fun i a=>by simp[spN]at a⟩
 |n+1=>by
  have ih:=ui es K n;have hr:=ub es (K n).P (K n).ni;refine⟨fun i a=> ?_,fun i a=> ?_⟩<;>(unfold coR fR;rw[spN]at a;split)
  ·exact ih.len i (by assumption)
  ·exact hr.len _ kH
  ·exact ih.one i (by assumption)
  ·exact hr.one _ kH
theorem MF{gh root B B0 gw g v K ea bj en b4 w bs}(es)(h:JnW gh root B B0 gw g v K ea bj en (spN K.tx K.nt) b4 (coR es K.tx K.nt) w bs)(dc:BlF K)(T:Tabs w)(d:Nat)(f:K.h=(d:Int))(bH:∀i,i<K.nt->∀k,k< (K.tx i).ni->cnB es ((K.tx i).P k)=true):
 Calls prog 75 #[.pointer (some ⟨g,0,none⟩)] bs fun e u'=> ∃a c,e= .returned (.slice a (cxL es d K.tx K.nt++cxE K d).length c)/\CgS bs u' a c (cxL es d K.tx K.nt++cxE K d):=by
 have dy:=h.ch;rw[f]at dy;have e4:=h.ct;have a7:Hid _:=h;have eH:=kG dc T;have hg:=dc.nt;have hb:d<=1000000:=by have:=dc.h.2;omega
 have cb:Hid _:=fun j(cw:j<=K.nt)=>qt (es:=es) (h:=d) (K:=K.tx) j (fun i gr=>⟨(dc.tx i kH).ni,(dc.tx i kH).no⟩);have dv:Hid _:=fun j(cw:j<=K.nt)=>ml (K:=K.tx) j (fun i gr=>⟨(dc.tx i kH).ni,(dc.tx i kH).no⟩);have df:Hid _:=bH;clear h dc T bH f;go_enter func75,ntmps75;go_wp2_with fail;go_loopw [3,5,27] (fun s3 em f6 wr=> ∃(j:Nat)(a:Option Addr)(c:Nat),s3= .slice a (cxL es d K.tx j).length c/\em= .int .i64 (spN K.tx j:Nat)/\f6= .int .i64 (j:Nat)/\j<=K.nt/\CgS bs wr a c (cxL es d K.tx j)) (fun _ _ s _=>K.nt-(intOf s).toNat)
 case atStart=>exact⟨0,none,0,rfl,rfl,rfl,kX _,eU _ _ _ _ _,kF⟩
 case round=>
  obtain⟨j,a,c,rfl,rfl,rfl,cw,D⟩:=hrel;obtain⟨ak,rfl⟩:∃x,x=wr:=⟨_,rfl⟩;clear e4 dy;by_cases N:j<K.nt
  ·have gx:(j:Int)< (K.nt:Int):=kH;have A:=a7.out.below D.bel;obtain⟨hj,hk,fn,t0,g5,g6⟩:=A.tx N;rw[fn];have Z:=bAl ak (.cells (txc (v.tv j) (K.tx j)).toArray 121);have a0:Blk (ak.alloc (.cells (txc (v.tv j) (K.tx j)).toArray 121)) 121 ak.1.size (txc (v.tv j) (K.tx j)):=ao ak _ _;have z:=kG (D.below Z) a0;have d0:(ak.alloc (.cells (txc (v.tv j) (K.tx j)).toArray 121)).cell? ⟨ak.1.size,0,none⟩=some (.slice (v.tv j).ia (K.tx j).ni (v.tv j).ic):=a0.cell 0;have a5:=kG (eH.out.1.tx j N) (A.ins N).pts;have eC:Hid _:=df.out j N;clear A D Z a0;go_upto_region 6 with(refine aL rfl 121 _ _ rfl ak txz.toArray (txc (v.tv j) (K.tx j)).toArray 121 rfl rfl lR rfl (by simp[txc,Value.oneCell']) ?_)
   change Code.wp _ _ _ _ (ak.alloc (.cells (txc (v.tv j) (K.tx j)).toArray 121));generalize ak.alloc (.cells (txc (v.tv j) (K.tx j)).toArray 121)=hh at*;generalize ak.1.size=b5 at*;clear t0 g5 g6;have e7:=cb.out j cw;have hd:=dv.out j cw;have he:=a5.out.1.ni;have hf:=a5.out.1.no;have ck:Hid (cxL es d K.tx (j+1)=cxL es d K.tx j++cxT es d K.tx j/\spN K.tx (j+1)=spN K.tx j+(K.tx j).ni):=⟨rfl,rfl⟩;have eA:Hid _:=fun k(c4:k< (K.tx j).ni)=>Bi es K.tx K.nt N k c4;have eP:Hid _:=fun k(c4:k< (K.tx j).ni)=>by have gq:=p8 K.tx (show j+1<=K.nt by omega);rw[spN]at gq;exact(show spN K.tx j+k<spN K.tx K.nt by omega)
   have d1:Hid (cxT es d K.tx j=cxI es d (K.tx j).P (spN K.tx j) (K.tx j).ni++(ptC (kyM 110 d j) (strOfNums (aZ (K.tx j)++[((K.tx j).no:Int)]))::cxO d (aZ (K.tx j)) (K.tx j).V (j==0) (K.tx j).no)):=rfl;generalize cxL es d K.tx j=xs at*;generalize fd:spN K.tx j=a1 at*;clear fd;go_wp2_with fail;go_loopw [3,5,35] (fun s3 em f7 c6=> ∃(k:Nat)(S:Option Addr)(U:Nat),s3= .slice S (xs++cxI es d (K.tx j).P a1 k).length U/\em= .int .i64 (a1+k:Nat)/\f7= .int .i64 (k:Nat)/\k<=(K.tx j).ni/\CgS bs c6 S U (xs++cxI es d (K.tx j).P a1 k)/\Blk c6 121 b5 (txc (v.tv j) (K.tx j))) (fun _ _ s _=>(K.tx j).ni-(intOf s).toNat)
   case atStart=>exact⟨0,a,c,by rw[cxI,lj],rfl,rfl,kX _,by rw[cxI,lj];exact z.out.1,z.out.2⟩
   case round=>
    obtain⟨k,S,U,rfl,rfl,rfl,c4,D,c3⟩:=hrel;obtain⟨af,rfl⟩:∃x,x=wr:=⟨_,rfl⟩;clear z d0;obtain⟨ad,W⟩:∃ad,ad=xs++cxI es d (K.tx j).P a1 k:=⟨_,rfl⟩;have a8:Hid (ad.length<=19*j+2*k):=by show ad.length<=_;rw[W,kY,qq];omega
    have bz:Hid (xs++cxI es d (K.tx j).P a1 k=ad):=W.symm;rw[<-W]at D ⊢;clear W;have H:=kG D c3;obtain⟨C,cG⟩:∃q,q=a1+k:=⟨_,rfl⟩;have a3:Hid (a1+k=C):=cG.symm;have gg:C<=100:=kH;rw[<-cG];clear cG;by_cases ah:k< (K.tx j).ni
    ·have gt:(k:Int)< ((K.tx j).ni:Int):=kH;have A:=a7.out.below D.bel;have P:=a5.out.2.len k ah;have cD:=a5.out.2.byte k ah;have cE:=a5.out.1.pt k ah;obtain⟨b,off,e5,bF,ct⟩:=(A.ins N).ins.at_ kH;have M:∀q x,(pc ((K.tx j).P k))[q]?=some x->af.cell? ⟨b,off+k*33+q,none⟩=some x:=fun q x hx=>by
      have cF:q<33:=by have:=(lb.1 hx).1;rw[dS _ P]at this;exact this
      rw[ct k q ah cF];exact hx
     have bu:Hid (cxI es d (K.tx j).P a1 (k+1)=cxI es d (K.tx j).P a1 k++[dlC (kyC ((K.tx j).P k)),ptC (kyM 117 d (C:Nat)) (strOfNums (((K.tx j).P k).1++[((K.tx j).P k).2])++vOf (gtE es (kyC ((K.tx j).P k))))]):=by show _= _;rw[cxI,a3.out]
     have bN:=qo es ((K.tx j).P k);have ch:Hid _:=Mg (eC.out k ah);have cH:C<spN K.tx K.nt:=by rw[<-a3.out];exact eP.out k ah
     have dA:coR es K.tx K.nt C=cnC es ((K.tx j).P k):=by rw[<-a3.out];exact eA.out k ah
     obtain⟨sb,ai,dE,_,_⟩:=(ORow.reads A.sp (ui es K.tx K.nt)).at_ kH;rw[e5];have g4:(prog.info? 52).map (·.size)=some (pc ((K.tx j).P k)).length:=by rw[dS _ P];exact gl
     have dG:(prog.info? 52).map (·.size)=some (pc ((K.tx j).P k)).toArray.size:=by rw[k8,dS _ P];exact gl
     have gc:(pc fy).toArray.size=(pc ((K.tx j).P k)).toArray.size:=by rw[k8,k8,dS _ P];rfl
     have b2:=bAl af (.cells (pc ((K.tx j).P k)).toArray 52);have cR:Blk (af.alloc (.cells (pc ((K.tx j).P k)).toArray 52)) 52 af.1.size (pc ((K.tx j).P k)):=ao af _ _;have o:=kG (H.out.1.below b2) (kR (Blk.below H.out.2 b2) cR);have bh:Hid (∀x,JnW gh root B B0 gw g v K ea bj en (spN K.tx K.nt) b4 (coR es K.tx K.nt) w x->x.cell? ⟨g,68,none⟩=some (.slice (some ⟨sb,ai,none⟩) (spN K.tx K.nt) b4)/\x.cell? ⟨sb,ai+C*3,none⟩=some (.int .i64 (coV es ((K.tx j).P k)).1)/\x.cell? ⟨sb,ai+C*3+1,none⟩=some (.int .i64 (coV es ((K.tx j).P k)).2.1)/\x.cell? ⟨sb,ai+C*3+2,none⟩=some (.bool (coV es ((K.tx j).P k)).2.2)):=fun x hx=>by
      obtain⟨F,f3,e,_,cu⟩:=(ORow.reads hx.sp (ui es K.tx K.nt)).at_ kH;rw[dE]at e;cases e;have gf:=cu C 0 cH kH;have bg:=cu C 1 cH kH;have a2:=cu C 2 cH kH;rw[dA,mh]at gf bg a2;exact⟨by rw[<-dE];exact hx.cs_,gf,bg,a2⟩
     have gB:(C:Int)< (spN K.tx K.nt:Nat):=kH;clear A ct D c3 b2 cR dA;go_upto_region 9 with(first|(refine dm rfl 52 _ rfl b (off+k*33) rfl (pc ((K.tx j).P k)) _ M r9 rfl g4 ?_)|(refine aL rfl 52 _ _ rfl af (pc fy).toArray (pc ((K.tx j).P k)).toArray 52 rfl rfl dG gc (dP (kf _)) ?_))
     change Code.wp _ _ _ _ (af.alloc (.cells (pc ((K.tx j).P k)).toArray 52));generalize af.alloc (.cells (pc ((K.tx j).P k)).toArray 52)=d4 at*;generalize af.1.size=b1 at*;generalize (K.tx j).P k=g3 at*;obtain⟨X,Y⟩:=g3;generalize coV es (X,Y)=gp at*;obtain⟨c7,c8,c9⟩:=gp;dsimp only at P cD cE bN bh ch bu;clear M;have m:Hid (∀x,CgS bs x S U ad->Blk x 52 b1 (pc (X,Y))->(Instr.loadAt 32 (.pointer (some ⟨b1,0,none⟩))).run prog x= .ok (.agg (ob X).toArray) x/\x.cell? ⟨b1,32,none⟩=some (.int .i64 Y)/\x.cell? ⟨g,68,none⟩=some (.slice (some ⟨sb,ai,none⟩) (spN K.tx K.nt) b4)/\x.cell? ⟨sb,ai+C*3,none⟩=some (.int .i64 c7)/\x.cell? ⟨sb,ai+C*3+1,none⟩=some (.int .i64 c8)/\x.cell? ⟨sb,ai+C*3+2,none⟩=some (.bool c9)):=fun x hx be=>⟨uh (off:=0) P (fun q y gO=>by rw[ld,be.cell q];exact vx (X,Y) q y gO),(be.cell 32).trans (jC (X,Y) P),bh.out x (a7.out.below hx.bel)⟩;obtain⟨ap,L⟩:∃d6,d6=d4.drew:=⟨_,rfl⟩;have O:Below d4.1.size d4 ap:=by rw[L];exact⟨rfl,rfl,rfl,kE,fun _ _=>rfl⟩
     have p:=kG (o.out.1.below O) (kR (Blk.below o.out.2.1 O) (Blk.below o.out.2.2 O));have cs:=m.out ap p.out.1 p.out.2.2;have a4:=ro X Y P cD cE.1 kH ap;clear O o bh;generalize spN K.tx K.nt=ge at*;refine ay (fun x=>(Instr.loadAt 32 (.pointer (some ⟨b1,0,none⟩))).run prog x= .ok (.agg (ob X).toArray) x/\x.cell? ⟨b1,32,none⟩=some (.int .i64 Y)/\x.cell? ⟨g,68,none⟩=some (.slice (some ⟨sb,ai,none⟩) ge b4)/\x.cell? ⟨sb,ai+C*3,none⟩=some (.int .i64 c7)/\x.cell? ⟨sb,ai+C*3+1,none⟩=some (.int .i64 c8)/\x.cell? ⟨sb,ai+C*3+2,none⟩=some (.bool c9)) (fun k=>decide (14<=k)) kO ?_;rw[<-L];clear L;refine aa 0 cs ?_;refine aC 1 (.agg (ob X).toArray) cs ?hl1 ?_
     case hl1=>exact fun x hx=>bO rfl rfl hx.1
     refine aa 2 cs ?_;refine aa 3 cs ?_;refine aa 5 cs ?_;refine aa 6 cs ?_;refine aa 7 cs ?_;refine aa 8 cs ?_;refine aa 9 cs ?_;refine aa 10 cs ?_;refine aa 11 cs ?_;obtain⟨bq,bP⟩:∃s,s=strOfNums (X++[Y]):=⟨_,rfl⟩;obtain⟨b3,bR⟩:∃s,s=coT c7 c8 c9:=⟨_,rfl⟩;have fo:bq.size=33:=by rw[bP,rg,kY,P];rfl
     have fs:b3.size=13:=by rw[bR];exact Mz _ _ _
     have dx:Hid (strOfNums (X++[Y])++vOf (gtE es (kyC (X,Y)))=bq++b3):=by show _= _;rw[bP,bR,ch.out]
     have bH:¬9223372036854775807<bq.size+b3.size:=kH;have an:Hid _:=fun x=>A4 c7 c8 c9 bN.1.1 bN.1.2 bN.2.1 kH x;rw[<-bP]at a4;rw[<-bR]at an;clear bP bR fo fs ch;refine aj 4 fun l f=> ?_;go_wp2_with fail;refine a4.mono ?_;rintro e ac ⟨rfl,E⟩;have t:=kG (p.out.1.below E) (kR (Blk.below p.out.2.1 E) (Blk.below p.out.2.2 E));have aw:=m.out ac t.out.1 t.out.2.2;have b9:=an.out ac;clear a4 E p cs;go_wp2_with fail;refine al f ?_;clear f l;refine aj 12 fun l f=> ?_;go_wp2_with fail;refine b9.mono ?_;rintro e c0 ⟨rfl,F⟩;have u:=kG (t.out.1.below F) (kR (Blk.below t.out.2.1 F) (Blk.below t.out.2.2 F));have ag:=m.out c0 u.out.1 u.out.2.2;clear b9 an F t aw;go_wp2_with fail;refine al f ?_;clear f l;refine aa 13 ag ?_;refine aj 14 fun l f=> ?_;go_wp2_with fail;refine cU f ?_;clear f l ag m bH;generalize bq++b3=cV at*;obtain⟨aX,aH⟩:∃s,s=kyC (X,Y):=⟨_,rfl⟩;obtain⟨cS,cz⟩:∃s,s=kyM 117 d (C:Nat):=⟨_,rfl⟩;have am:=rp (X,Y) P cD cE.1 (show Y<256 by omega) c0;have ci:Hid _:=fun x=>AL 117 d (C:Nat) kH kH kH x;rw[<-aH]at am;rw[<-cz]at ci;rw[dx.out,<-aH,<-cz]at bu;have cP:=u.out.2.2;clear aH cz dx;go_wp2_with (refine qi rfl 52 _ rfl b1 rfl 52 (pc (X,Y)).toArray (0,0) _ cP r9 rfl dG ?_);refine am.mono ?_;rintro e b7 ⟨rfl,ar⟩;have Q:=kG (u.out.1.below ar) (Blk.below u.out.2.1 ar);have ex:=LX aX b7;clear am ar cP u;go_wp2_with fail;refine ex.mono ?_;rintro e g7 ⟨rfl,eb⟩;have ce:=kG (Q.out.1.below eb) (Blk.below Q.out.2 eb);have eY:=ci.out g7;clear ex eb Q ci;go_wp2_with fail;refine eY.mono ?_;rintro e ep ⟨rfl,ef⟩;have cf:=kG (ce.out.1.below ef) (Blk.below ce.out.2 ef);have R:=nB cS cV ep;clear eY ef ce;go_wp2_with fail;refine R.mono ?_;rintro e eq ⟨rfl,bY⟩;have ek:=bAl eq (.cells #[.string aX,.string (strOfNums []),.bool true,.string cS,.string cV,.bool false] 105);have c1:=(cf.out.1.below bY).below ek;have f0:=Blk.below (Blk.below cf.out.2 bY) ek;have gk:=(AI eq (dlC aX) (ptC cS cV)).reads;have fz:=c1.bel.size;have g1:=c1.och;have o:=kG c1 f0;have cA:ad.length+[dlC aX,ptC cS cV].length<=1048576:=by have:=a8.out;simp;omega
     clear R bY ek c1 f0 cf;go_wp2_with (refine tU rfl _ _ rfl bs.1.size S U ad rfl g1 (some ⟨eq.1.size,0,none⟩) 2 [dlC aX,ptC cS cV] rfl gk cA fz ?_;rintro cn co hl bS bl);go_roundw
     case rel=>exact⟨k+1,cn,co,by rw[bu.out,<-k5,bz.out,kY];rfl,by rw[<-a3.out];go_num,by go_num,kH,by rw[bu.out,<-k5,bz.out];exact o.out.1.app bS bl,Blk.chApp o.out.2 o.out.1.och bl kN⟩
     case measure=>simp[intOf];omega
    ·have dC:k=(K.tx j).ni:=kH;have e8:¬(k:Int)< ((K.tx j).ni:Int):=kH;have A:=a7.out.below D.bel;have ej:af.cell? ⟨b5,1,none⟩=some (.slice (v.tv j).oa (K.tx j).no (v.tv j).oc):=c3.cell 1;obtain⟨bc,oi,bE,_⟩:=A.id N;have cv:=fW (K.tx j);have dB:=kQ (K.tx j);have eK:Hid (av K.tx j=aZ (K.tx j)):=rfl;have m:Hid (∀x,CgS bs x S U ad->Blk x 121 b5 (txc (v.tv j) (K.tx j))->x.cell? ⟨g,67,none⟩=some (.slice (some ⟨bc,oi,none⟩) K.nt bj)/\(Instr.loadAt 32 (.pointer (some ⟨bc,oi+j*32,none⟩))).run prog x= .ok (.agg (ob (aZ (K.tx j))).toArray) x/\x.cell? ⟨b5,1,none⟩=some (.slice (v.tv j).oa (K.tx j).no (v.tv j).oc)):=fun x hx be=>by
      have b8:=a7.out.below hx.bel;obtain⟨F,f3,e,c5⟩:=b8.id N;rw[bE]at e;cases e;exact⟨by rw[<-bE];exact b8.ci_,c5,be.cell 1⟩
     have an:Hid (cxT es d K.tx j=cxI es d (K.tx j).P a1 (K.tx j).ni++(ptC (kyM 110 d j) (strOfNums (aZ (K.tx j)++[((K.tx j).no:Int)]))::cxO d (aZ (K.tx j)) (K.tx j).V (j==0) (K.tx j).no)):=d1.out;rw[dC]at bz a3 a8;clear A D c3 ah c4 dC;go_upto_region 13 with fail
     obtain⟨ap,L⟩:∃d6,d6=af.drew:=⟨_,rfl⟩;have O:Below af.1.size af ap:=by rw[L];exact⟨rfl,rfl,rfl,kE,fun _ _=>rfl⟩
     have o:=kG (H.out.1.below O) (Blk.below H.out.2 O);have cs:=m.out ap o.out.1 o.out.2;have gs:j<12:=kH;obtain⟨bn,cy⟩:∃s,s=kyM 110 d j:=⟨_,rfl⟩;obtain⟨bt,cO⟩:∃s,s=strOfNums (aZ (K.tx j)++[((K.tx j).no:Int)]):=⟨_,rfl⟩;have am:=AL 110 d (j:Nat) kH kH kH ap;have ca:Hid _:=fun x=>ro (aZ (K.tx j)) ((K.tx j).no:Nat) cv dB kH kH x;rw[<-cy]at am;rw[<-cO]at ca;rw[<-cy,<-cO]at an;clear cy cO O H ej;generalize aZ (K.tx j)=r at*;refine ay (fun x=>x.cell? ⟨g,67,none⟩=some (.slice (some ⟨bc,oi,none⟩) K.nt bj)/\(Instr.loadAt 32 (.pointer (some ⟨bc,oi+j*32,none⟩))).run prog x= .ok (.agg (ob r).toArray) x/\x.cell? ⟨b5,1,none⟩=some (.slice (v.tv j).oa (K.tx j).no (v.tv j).oc)) (fun k=>decide (17<=k)) kO ?_;rw[<-L];clear L;refine aa 0 cs ?_;refine aa 1 cs ?_;refine aa 2 cs ?_;refine aa 4 cs ?_;refine aa 5 cs ?_;refine aa 6 cs ?_;refine aa 7 cs ?_;refine aa 8 cs ?_;refine aa 9 cs ?_;refine aC 10 (.agg (ob r).toArray) cs ?hl10 ?_
     case hl10=>exact fun x hx=>bO rfl rfl hx.2.1
     refine aa 11 cs ?_;refine aa 12 cs ?_;refine aa 13 cs ?_;refine aj 3 fun l f=> ?_;go_wp2_with fail;refine am.mono ?_;rintro e ac ⟨rfl,E⟩;have p:=kG (o.out.1.below E) (Blk.below o.out.2 E);have aw:=m.out ac p.out.1 p.out.2;have a4:=ca.out ac;clear am E o cs ca;go_wp2_with fail;refine al f ?_;clear f l;refine aj 14 fun l f=> ?_;go_wp2_with fail;refine a4.mono ?_;rintro e c0 ⟨rfl,F⟩;have t:=kG (p.out.1.below F) (Blk.below p.out.2 F);have ag:=m.out c0 t.out.1 t.out.2;have R:=nB bn bt c0;clear a4 F p aw;go_wp2_with fail;refine al f ?_;clear f l;refine aj 15 fun l f=> ?_;go_wp2_with fail;refine R.mono ?_;rintro e b7 ⟨rfl,ar⟩;have u:=kG (t.out.1.below ar) (Blk.below t.out.2 ar);have cp:=m.out b7 u.out.1 u.out.2;clear R ar t ag;go_wp2_with fail;refine al f ?_;clear f l;refine aj 16 fun l f=> ?_;have Z:=bAl b7 (.cells #[.string bn,.string bt,.bool false] 105);have I:=u.out.1.below Z;have a0:=Blk.below u.out.2 Z;have bb:=(iD b7 (ptC bn bt)).reads;have bd:=m.out _ I a0;have z:=kG I a0;have aO:ad.length+[ptC bn bt].length<=1048576:=by have:=a8.out;simp;omega
     clear Z a0 u cp;go_wp2_with fail;refine al f ?_;clear f l;refine aj 17 fun l f=> ?_;refine iC _ _ rfl bs.1.size S U ad rfl I.och (some ⟨b7.1.size,0,none⟩) 1 [ptC bn bt] rfl bb aO I.bel.size ?_;intro d9 eh ep cm bk;have a9:=kG (z.out.1.app cm bk) (Blk.chApp z.out.2 z.out.1.och bk kN);refine al f ?_;clear f l I cm bk bd bb;refine aj 18 fun l f=> ?_;go_wp2_with fail;refine cU f ?_;clear f l m z;obtain⟨G,V⟩:∃G,G=ad++[ptC bn bt]:=⟨_,rfl⟩;have cq:ad.length+1=G.length:=by rw[V,kY];rfl
     have cl:Hid (G.length<=19*j+13):=by show G.length<=_;have:=a8.out;omega
     have eW:Hid (ad++[ptC bn bt]=G):=V.symm;rw[<-V]at a9;rw[cq];clear cq V aO;have ej:ep.cell? ⟨b5,1,none⟩=some (.slice (v.tv j).oa (K.tx j).no (v.tv j).oc):=a9.out.2.cell 1;have gi:Hid _:=a5.out.1.out;have dl:Hid (∀n,cxO d r (K.tx j).V (j==0) (n+1)=cxO d r (K.tx j).V (j==0) n++[ptC (kyC (r,(n:Int))) (coT ((K.tx j).V n) d (j==0))]):=fun n=>rfl;have dd:Hid (cxO d r (K.tx j).V (j==0) 0=[]):=rfl;have eL:Hid _:=fun n=>qr d r (K.tx j).V (j==0) n;have hc:((j:Int)==0)=(j==0):=by cases j<;>simp<;>omega
     generalize (j==0)=J at*;go_wp2_with fail;go_loopw [3,88] (fun s3 f8 c6=> ∃(n:Nat)(S:Option Addr)(U:Nat),s3= .slice S (G++cxO d r (K.tx j).V J n).length U/\f8= .int .i64 (n:Nat)/\n<=(K.tx j).no/\CgS bs c6 S U (G++cxO d r (K.tx j).V J n)) (fun _ s _=>(K.tx j).no-(intOf s).toNat)
     case atStart=>exact⟨0,d9,eh,by rw[dd.out,lj],rfl,kX _,by rw[dd.out,lj];exact a9.out.1⟩
     case round=>
      obtain⟨n,S,U,rfl,rfl,gy,D⟩:=hrel;obtain⟨ba,rfl⟩:∃x,x=wr:=⟨_,rfl⟩;clear a9 ej;obtain⟨ae,W⟩:∃ae,ae=G++cxO d r (K.tx j).V J n:=⟨_,rfl⟩;have d3:Hid (ae.length<=19*j+13+n):=by show ae.length<=_;have:=cl.out;rw[W,kY,eL.out];omega
      have bx:Hid (G++cxO d r (K.tx j).V J n=ae):=W.symm;rw[<-W]at D ⊢;clear W;have H:Hid _:=D;by_cases cC:n< (K.tx j).no
      ·have gv:(n:Int)< ((K.tx j).no:Int):=kH;have A:=a7.out.below D.bel;obtain⟨b,off,e9,_,ct⟩:=(A.ins N).outs.at_ kH;have gn:ba.cell? ⟨b,off+n,none⟩=some (.int .i64 ((K.tx j).V n)):=by have:=ct n 0 cC kH;simpa [eg]using this
       have gH:=gi.out n cC;have cc:Hid _:=dl.out n;rw[e9];have b2:=bAl ba (.cells #[.int .i64 ((K.tx j).V n),.int .i64 d,.bool J] 48);have cR:Blk (ba.alloc (.cells #[.int .i64 ((K.tx j).V n),.int .i64 d,.bool J] 48)) 48 ba.1.size [.int .i64 ((K.tx j).V n),.int .i64 d,.bool J]:=ao ba _ _;have o:=kG (D.below b2) cR;have e3:=tP ((K.tx j).V n) d J;clear A ct D b2 cR dl;generalize (K.tx j).V n=ab at*;go_upto_region 18 with(first|(refine fK rfl _ _ rfl (cs:=#[.int .i64 ab,.int .i64 d,.bool J]) ?hbu ?_)|(refine aL rfl 48 _ _ rfl ba co0.toArray #[.int .i64 ab,.int .i64 d,.bool J] 48 rfl rfl dV rfl rfl ?_))
       change Code.wp _ _ _ _ (ba.alloc (.cells #[.int .i64 ab,.int .i64 d,.bool J] 48));generalize ba.alloc (.cells #[.int .i64 ab,.int .i64 d,.bool J] 48)=d5 at*;generalize ba.1.size=bp at*;clear gn e3;have m:Hid (∀x,CgS bs x S U ae->Blk x 48 bp [.int .i64 ab,.int .i64 d,.bool J]->x.cell? ⟨g,67,none⟩=some (.slice (some ⟨bc,oi,none⟩) K.nt bj)/\(Instr.loadAt 32 (.pointer (some ⟨bc,oi+j*32,none⟩))).run prog x= .ok (.agg (ob r).toArray) x/\x.cell? ⟨bp,0,none⟩=some (.int .i64 ab)/\x.cell? ⟨bp,1,none⟩=some (.int .i64 d)/\x.cell? ⟨bp,2,none⟩=some (.bool J)):=fun x hx be=>by
        have b8:=a7.out.below hx.bel;obtain⟨F,f3,e,c5⟩:=b8.id N;rw[bE]at e;cases e;rw[eK.out]at c5;exact⟨by rw[<-bE];exact b8.ci_,c5,be.cell 0,be.cell 1,be.cell 2⟩
       obtain⟨ap,L⟩:∃d6,d6=d5.drew:=⟨_,rfl⟩;have O:Below d5.1.size d5 ap:=by rw[L];exact⟨rfl,rfl,rfl,kE,fun _ _=>rfl⟩
       have p:=kG (o.out.1.below O) (Blk.below o.out.2 O);have cs:=m.out ap p.out.1 p.out.2;obtain⟨aX,aH⟩:∃s,s=kyC (r,(n:Int)):=⟨_,rfl⟩;obtain⟨cT,cL⟩:∃s,s=coT ab d J:=⟨_,rfl⟩;have am:=rp (r,(n:Int)) cv dB (show(0:Int)<=n by omega) (show(n:Int)<256 by omega) ap;have bi:Hid _:=fun x=>A4 ab d J kH gH.2 kH kH x;have ey:Hid _:=lH r (n:Int) cv;rw[<-aH]at am;rw[<-cL]at bi;rw[<-aH,<-cL]at cc;clear aH cL O o;refine ay (fun x=>x.cell? ⟨g,67,none⟩=some (.slice (some ⟨bc,oi,none⟩) K.nt bj)/\(Instr.loadAt 32 (.pointer (some ⟨bc,oi+j*32,none⟩))).run prog x= .ok (.agg (ob r).toArray) x/\x.cell? ⟨bp,0,none⟩=some (.int .i64 ab)/\x.cell? ⟨bp,1,none⟩=some (.int .i64 d)/\x.cell? ⟨bp,2,none⟩=some (.bool J)) (fun k=>decide (15<=k)) kO ?_;rw[<-L];clear L;refine aa 0 cs ?_;refine aa 1 cs ?_;refine aa 2 cs ?_;refine aa 3 cs ?_;refine aa 4 cs ?_;refine aa 5 cs ?_;refine aa 6 cs ?_;refine aC 7 (.agg (ob r).toArray) cs ?hl7 ?_
       case hl7=>exact fun x hx=>bO rfl rfl hx.2.1
       refine aa 8 cs ?_;refine aC 9 (.agg (pc (r,(n:Int))).toArray) cs ?hl9 ?_
       case hl9=>exact fun x _=>iq rfl (by simp only[k9,k4,k7];exact ey.out)
       refine aa 11 cs ?_;refine aj 10 fun l f=> ?_;go_wp2_with fail;refine am.mono ?_;rintro e bg ⟨rfl,E⟩;have t:=kG (p.out.1.below E) (Blk.below p.out.2 E);have aw:=m.out bg t.out.1 t.out.2;have b9:=bi.out bg;clear am E p cs bi;go_wp2_with fail;refine al f ?_;clear f l;refine aj 12 fun l f=> ?_;go_wp2_with fail;refine b9.mono ?_;rintro e a2 ⟨rfl,F⟩;have u:=kG (t.out.1.below F) (Blk.below t.out.2 F);have ag:=m.out a2 u.out.1 u.out.2;have R:=nB aX cT a2;clear b9 F t aw;go_wp2_with fail;refine al f ?_;clear f l;refine aj 13 fun l f=> ?_;go_wp2_with fail;refine R.mono ?_;rintro e da ⟨rfl,ar⟩;have Q:=kG (u.out.1.below ar) (Blk.below u.out.2 ar);have cp:=m.out da Q.out.1 Q.out.2;clear R ar u ag;go_wp2_with fail;refine al f ?_;clear f l;refine aj 14 fun l f=> ?_;have Z:=bAl da (.cells #[.string aX,.string cT,.bool false] 105);have I:=Q.out.1.below Z;have bd:=m.out _ I (Blk.below Q.out.2 Z);have bb:=(iD da (ptC aX cT)).reads;have z:Hid _:=I;have aO:ae.length+[ptC aX cT].length<=1048576:=by have:=d3.out;simp;omega
       clear Z Q cp;go_wp2_with fail;refine al f ?_;clear f l;refine aj 15 fun l f=> ?_;refine iC _ _ rfl bs.1.size S U ae rfl I.och (some ⟨da.1.size,0,none⟩) 1 [ptC aX cT] rfl bb aO I.bel.size ?_;intro cn co ha bS bl;have gm:Hid _:=z.out.app bS bl;refine al f ?_;clear f l I bS bl bd bb z;refine aj 16 fun l f=> ?_;go_wp2_with fail;refine cU f ?_;clear f l m;go_wp2_with fail;go_roundw
       case rel=>exact⟨n+1,cn,co,by rw[cc.out,<-k5,bx.out,kY];rfl,by go_num,kH,by rw[cc.out,<-k5,bx.out];exact gm.out⟩
       case measure=>simp[intOf];omega
      ·have dD:n=(K.tx j).no:=kH;have gz:¬(n:Int)< ((K.tx j).no:Int):=kH;rw[dD]at bx;have a6:Hid (cxL es d K.tx (j+1)=ae):=by show _= _;rw[ck.out.1,an.out,<-bx.out,<-eW.out,<-bz.out];simp
       have eN:Hid (spN K.tx (j+1)=C):=by show _= _;rw[ck.out.2,a3.out]
       clear D dD gy cC an ck;go_wp2_with fail;go_roundw
       case rel=>exact⟨j+1,S,U,by rw[a6.out],by rw[eN.out],by go_num,kH,by rw[a6.out];exact H.out⟩
       case measure=>simp[intOf];omega
  ·have e6:j=K.nt:=kH;subst e6;have e8:¬(K.nt:Int)< (K.nt:Int):=kH;have A:=a7.out.below D.bel;have M:∀q x,(blc v K)[q]?=some x->ak.cell? ⟨g,1+q,none⟩=some x:=fun q x hx=>by
    have cF:q<66:=by have:=(lb.1 hx).1;rw[eO v A.bl.ok]at this;exact this
    rw[A.blk.cell,mj gw v A.bl.ok _ _ cF];exact hx
   have gb:(prog.info? 113).map (·.size)=some (blc v K).length:=by rw[eO v A.bl.ok];exact fG
   have dW:=IP v K ak (eH.out.2.below A.bel) A.bl.ok;unfold cK at dW;have bF:=lV K;have e2:=yA K;have dr:Hid (cxE K d=[ptC (kyH 98 d) (strOfNums K.prev),ptC ⟨#[116]⟩ (tpT d (cX K))]):=rfl;have dn:Hid (∀x,JnW gh root B B0 gw g v K ea bj en (spN K.tx K.nt) b4 (coR es K.tx K.nt) w x->(convert 70 9 (.slice (some ⟨g,1,none⟩) 32 32)).run prog x= .ok (.string (strOfNums K.prev)) x):=fun x b8=>aP ⟨b8.bl.ok.pl,kE,by unfold maxLen;omega,(fun e=>by cases e),fun _=>⟨g,1,rfl,b8.blk.lt,fun q cF=>by rw[b8.blk.cell,mj gw v b8.bl.ok _ _ kH];exact lQ v K q _ (de? K.prev q (by rw[b8.bl.ok.pl];exact cF))⟩,b8.bl.ok.pB⟩;have e7:=cb.out K.nt kE;have ds:Hid _:=D;clear A D N cw df cb dv;generalize dF:cxL es d K.tx K.nt=xs at*;have eV:Hid _:=dF;clear dF;generalize cX K=r at*;generalize bG K.h=hi at*;have bq:(prog.info? 32).map (·.size)=some (ob r).toArray.size:=by rw[aE,bF];exact aJ
   have b3:zH.toArray.size=(ob r).toArray.size:=by rw[aE,bF];rfl
   go_wp2_with (refine dm rfl 113 _ rfl g 1 rfl (blc v K) _ M q7 rfl gb ?_);refine dW.mono ?_;rintro e ac ⟨rfl,E⟩;have f4:=bAl ac (.cells (ob r).toArray 32);have cP:Blk (ac.alloc (.cells (ob r).toArray 32)) 32 ac.1.size (ob r):=ao ac _ _;have cd:=kG ((ds.out.below E).below f4) cP;clear dW E f4 cP M gb ds;go_upto_region 22 with(refine aL rfl 32 _ _ rfl ac zH.toArray (ob r).toArray 32 rfl rfl bq b3 (bQ _) ?_)
   change Code.wp _ _ _ _ (ac.alloc (.cells (ob r).toArray 32));generalize ac.alloc (.cells (ob r).toArray 32)=d7 at*;generalize ac.1.size=g0 at*;obtain⟨d8,cr⟩:∃d6,d6=d7.drew:=⟨_,rfl⟩;have O:Below d7.1.size d7 d8:=by rw[cr];exact⟨rfl,rfl,rfl,kE,fun _ _=>rfl⟩
   have bv:=kG (cd.out.1.below O) (Blk.below cd.out.2 O);have m:Hid (∀x,CgS bs x a c xs->(convert 70 9 (.slice (some ⟨g,1,none⟩) 32 32)).run prog x= .ok (.string (strOfNums K.prev)) x):=fun x hx=>dn.out x (a7.out.below hx.bel);have cs:=m.out d8 bv.out.1;obtain⟨b0,cx⟩:∃s,s=kyH 98 d:=⟨_,rfl⟩;obtain⟨b6,cM⟩:∃s,s=tpT d r:=⟨_,rfl⟩;have d2:=AK 98 d kH d8;have cg:Hid _:=fun x=>L5 d r kH bF e2 x;rw[<-cx]at d2;rw[<-cM]at cg;rw[<-cx,<-cM]at dr;clear cx cM O cd dn;generalize strOfNums K.prev=bf at*;refine ay (fun x=>(convert 70 9 (.slice (some ⟨g,1,none⟩) 32 32)).run prog x= .ok (.string bf) x) (fun k=>decide (11<=k)) kO ?_;rw[<-cr];clear cr;refine aa 0 cs ?_;refine aa 1 cs ?_;refine aa 3 cs ?_;refine aa 4 cs ?_;refine aa 5 cs ?_;refine aa 6 cs ?_;refine aa 7 cs ?_;refine aC 8 (.string bf) cs ?hl8 ?_
   case hl8=>exact fun x hx=>BC rfl rfl hx
   refine aj 2 fun l f=> ?_;go_wp2_with fail;refine d2.mono ?_;rintro e bg ⟨rfl,E⟩;have z:=kG (bv.out.1.below E) (Blk.below bv.out.2 E);have aw:=m.out bg z.out.1;have R:=nB b0 bf bg;clear d2 E bv cs;go_wp2_with fail;refine al f ?_;clear f l;refine aj 9 fun l f=> ?_;go_wp2_with fail;refine R.mono ?_;rintro e a2 ⟨rfl,F⟩;have bw:=kG (z.out.1.below F) (Blk.below z.out.2 F);have ag:=m.out a2 bw.out.1;clear R F z aw;go_wp2_with fail;refine al f ?_;clear f l;refine aj 10 fun l f=> ?_;have Z:=bAl a2 (.cells #[.string b0,.string bf,.bool false] 105);have I:=bw.out.1.below Z;have a0:=Blk.below bw.out.2 Z;have bd:=m.out _ I;have bb:=(iD a2 (ptC b0 bf)).reads;have H:=kG I a0;have aO:xs.length+[ptC b0 bf].length<=1048576:=by simp;omega
   clear Z bw ag a0;go_wp2_with fail;refine al f ?_;clear f l;refine aj 11 fun l f=> ?_;refine iC _ _ rfl bs.1.size a c xs rfl I.och (some ⟨a2.1.size,0,none⟩) 1 [ptC b0 bf] rfl bb aO I.bel.size ?_;intro d9 eh g8 cm bk;have a9:=kG (H.out.1.app cm bk) (Blk.chApp H.out.2 H.out.1.och bk kN);refine al f ?_;clear f l I cm bk bd bb H;refine aj 12 fun l f=> ?_;go_wp2_with fail;refine cU f ?_;clear f l m;obtain⟨G,V⟩:∃G,G=xs++[ptC b0 bf]:=⟨_,rfl⟩;have cq:xs.length+1=G.length:=by rw[V,kY];rfl
   have cl:Hid (G.length<=19*K.nt+1):=by show G.length<=_;omega
   have a6:Hid (xs++cxE K d=G++[ptC ⟨#[116]⟩ b6]):=by show _= _;rw[dr.out,V,k5];rfl
   rw[<-V]at a9;rw[cq];clear cq V aO;have f2:=a9.out.2;have eX:=cg.out g8;go_wp2_with (refine qi rfl 32 _ rfl g0 rfl 32 (ob r).toArray (0,0) _ f2 qa rfl bq ?_);refine eX.mono ?_;rintro e g9 ⟨rfl,bY⟩;have o:Hid _:=a9.out.1.below bY;have R:=nB ⟨#[116]⟩ b6 g9;clear eX bY a9 f2 cg;go_wp2_with fail;refine R.mono ?_;rintro e er ⟨rfl,e1⟩;have f5:=bAl er (.cells #[.string ⟨#[116]⟩,.string b6,.bool false] 105);have c2:=(o.out.below e1).below f5;have R8:=(iD er (ptC ⟨#[116]⟩ b6)).reads;have g2:=c2.och;have fM:=c2.bel.size;have p:Hid _:=c2;have cB:G.length+[ptC ⟨#[116]⟩ b6].length<=1048576:=by have:=cl.out;simp;omega
   clear R e1 f5 c2 o;go_wp2_with (refine tU rfl _ _ rfl bs.1.size d9 eh G rfl g2 (some ⟨er.1.size,0,none⟩) 1 [ptC ⟨#[116]⟩ b6] rfl R8 cB fM ?_;rintro cn co ha bS bl);go_ret;rw[eV.out,a6.out];exact⟨cn,co,by rw[kY];rfl,p.out.app bS bl⟩
