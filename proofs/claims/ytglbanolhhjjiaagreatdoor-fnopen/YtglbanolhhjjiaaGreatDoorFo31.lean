import Derived.Test.YtglbanolhhjjiaaGreatDoorFo30
namespace Go.Proofs.YtglbanolhhjjiaaGreatDoor
open Go.Proofs.Tryz
open Go.RowKit
set_option linter.unusedVariables false
set_option maxRecDepth 100000
set_option maxHeartbeats 32000000
section
variable {B0 g:Nat} {rest:List Value} {rt:Int} {w:World} {ns:List NdK} {nv:Nat->NdV} {na:Option Addr} {nc:Nat}
theorem FW(dd:USt B0 g rest rt w ns nv na nc){i p pc:Nat}{us bg}(a:ns[i]?=some (ndI 0 us))(e9:p<us.length)(fa:(us.map (·.2)).getD p 0=(pc:Int))(hu:ns[pc]?=some bg)(mB:us.length<=1000)(lt:ns.length<=1048575)(es)(da:bg.keys=es.map (·.1))(gB:bg.vals=es.map (·.2))(aT:lSz es<=1000000)(j1:aH bg.signs<=1000000)(jT:bg.kids.length<=1000000)(ke:bg.keys.length+bg.kids.length≠0)(ms:cM es bg<60){q n m:Nat}(kk:q+1=max p 1)(em:q+1<us.length){d B}(cD:(us.map (·.2)).getD q 0=(n:Int))(cL:(us.map (·.2)).getD (q+1) 0=(m:Int))(hA:ns[n]?=some d)(c9:ns[m]?=some B)(kb:d.keys.length+d.vals.length+d.kids.length+d.signs.length<=1000)(kc:B.keys.length+B.vals.length+B.kids.length+B.signs.length<=1000){sg}(gA:(us.tail.map (·.1)).getD q (strOfNums [])=sg){X Y}(f8:d.keys=X.map (·.1))(f9:d.vals=X.map (·.2))(ga:B.keys=Y.map (·.1))(gb:B.vals=Y.map (·.2))(gS:lSz (X++Y)<=1000000)(gr:aH (jnK d B sg).signs<=1000000):
 Calls prog 160 #[.pointer (some ⟨g,0,none⟩),.int .i64 (i:Nat),.int .i64 (p:Nat)] w fun e w'=>e= .returned (.tuple #[])/\UQ B0 g rest rt na w w' (mjL ns i q us (jnK d B sg) (cM (X++Y) (jnK d B sg))):=by
 have ln:=im es;have an:=t6 f8 (u2 f9 (u2 ga (u2 gb (u2 gS gr))));clear f8 f9 ga gb gS gr;have la:bg.keys.length<=1000000:=by rw[da,x7];omega
 have a6:Hid _:=dd;have cm:=t6 a hu;obtain⟨b,rfl,cA,js,mp⟩:=dd.cells a;obtain⟨_,k4,_,gi,mm⟩:=dd.cells hu;clear k4;have h9:w.cell? ⟨g,0,none⟩=some (.slice (some ⟨b,0,none⟩) ns.length nc):=dd.blk.cell 0;have R:Hid ((ndI 0 us).kids.length=us.length/\(us.tail.map (·.1)).length+1=us.length):=by
  refine⟨by simp[ndI],?_⟩;simp;omega
 have eC:=bAl w (.cells (ndc (nv i) (ndI 0 us)).toArray 176);have kv:=aq w 176 (ndc (nv i) (ndI 0 us)).toArray;have hR:=js.below eC;have f3:=gi.below eC;have kU:(prog.info? 176).map (·.size)=some (ndc (nv i) (ndI 0 us)).length:=aD;go_enter func160,ntmps160;go_upto_region 1 with(first|(refine dG rfl 176 _ rfl b (i*6) rfl (ndc (nv i) (ndI 0 us)) _ cA underlying176 rfl kU ?_)|(refine bt rfl 176 _ _ rfl w (ndc aF nd0).toArray (ndc (nv i) (ndI 0 us)).toArray 176 rfl rfl aD rfl (cy _ _) ?_))
 change Code.wp _ _ _ _ (w.alloc (.cells (ndc (nv i) (ndI 0 us)).toArray 176));generalize w.alloc (.cells (ndc (nv i) (ndI 0 us)).toArray 176)=kX at*;have g1:Blk kX 176 w.1.size (ndc (nv i) (ndI 0 us)):=kv;clear kv h9 cA js gi;have d6:=bDr kX;have e4:=eC.trans (d6.mono eC.size);have db:=g1.below d6;have hE:=hR.below d6;have kJ:=f3.below d6;have bT:=dd.below e4;have bB:=db.cell 4;have cV:R1 3 kX.drew (nv i).da us.length (nv i).dc (on (us.map (·.2))):=by have:=hE.kids;rwa [show(ndI 0 us).kids.length=us.length from R.out.1]at this
 obtain⟨a5,fo,hr,e6⟩:=cV.get e9;rw[cF _ _ (by simpa using e9),fa]at e6;refine az (fun u=>u.cell? ⟨g,0,none⟩=some (.slice (some ⟨b,0,none⟩) ns.length nc)/\u.cell? ⟨w.1.size,4,none⟩=some (.slice (some ⟨a5,fo,none⟩) us.length (nv i).dc)/\u.cell? ⟨a5,fo+p,none⟩=some (.int .i64 (pc:Nat))/\(Instr.loadAt 176 (.pointer (some ⟨b,pc*6,none⟩))).run prog u= .ok (.agg (ndc (nv pc) bg).toArray) u) (fun k=>decide (12<=k)) uA ?_;clear d6 g1 hR f3 eC kU dd a hu bB;generalize kX.drew=dX at*;have bB:dX.cell? ⟨w.1.size,4,none⟩=some (.slice (some ⟨a5,fo,none⟩) us.length (nv i).dc):=by rw[<-hr,<-R.out.1];exact db.cell 4
 have cs:=u2 (bT.blk.cell 0) (u2 bB (u2 e6 (bT.loadNd cm.out.2)));have E:a5<dX.1.size:=by
  obtain⟨hX,kA,bv,⟨f6,f7,eb⟩,_⟩:=cV.at_ t7;rw[hr]at bv;cases bv;exact(vR.1 eb).1
 refine ay 0 cs ?_;refine ay 1 cs ?_;refine ay 2 cs ?_;refine ay 3 cs ?_;refine ay 4 cs ?_;refine ay 5 cs ?_;refine ay 6 cs ?_;refine ay 7 cs ?_;refine ay 8 cs ?_;refine ay 9 cs ?_;refine aM 10 (.agg (ndc (nv pc) bg).toArray) cs ?hy10 ?_
 case hy10=>exact fun u ab=>bo (p:= .pointer (some ⟨b,pc*6,none⟩)) rfl rfl ab.2.2.2
 refine ah 11 fun c a=> ?_;go_wp2_with fail;have z:=bAl dX (.cells (ndc aF nd0).toArray 176);have bZ:=aq dX 176 (ndc aF nd0).toArray;have ad:=u2 ((bT.below z).blk.cell 0) (u2 (z.cell (p:=⟨w.1.size,4,none⟩) db.lt▸bB) (u2 (z.cell (p:=⟨a5,fo+p,none⟩) E▸e6) ((bT.below z).loadNd cm.out.2)));refine ao a ?_ (fun _=>ad);clear a c ad;refine ah 12 fun c a=> ?_;refine bK (cs:=ndc (nv pc) bg) bZ rfl (eo _ _) aD rfl rfl rfl ?_;intro e1 hD kC;refine aU a ?_;clear a c bZ cs;have aA:=z.trans (kC.below t1 z.size);have hy:=db.below aA;have kG:=hE.below aA;have eL:=cV.below aA;have ea:=e4.trans (aA.mono e4.size);have lo:=(cE a6.out.nodes b (by simp[rb])).2;clear kC z aA db hE kJ cV e4 bT bB e6 hr E;generalize dX.1.size=ib at*;have hd:R1 9 e1 (nv i).sa (us.tail.map (·.1)).length (nv i).sc (os (us.tail.map (·.1))):=kG.signs;have hZ:e1.cell? ⟨ib,2,none⟩=some (.slice (nv pc).ka bg.keys.length (nv pc).kc):=hD.cell 2;have h0:e1.cell? ⟨ib,4,none⟩=some (.slice (nv pc).da bg.kids.length (nv pc).dc):=hD.cell 4;have e5:e1.cell? ⟨w.1.size,4,none⟩=some (.slice (nv i).da us.length (nv i).dc):=by rw[<-R.out.1];exact hy.cell 4
 have dU:=mD (a6.out.below ea) cm.out.2 es da gB aT j1 t7;obtain⟨mN,m0,c8,cp⟩:=eL.get e9;rw[cF _ _ (by simpa using e9),fa]at cp;rw[c8]at e5;have le:((bg.keys.length:Int)+(bg.kids.length:Int)==0)=false:=by rw[C8];omega
 have dk:=t6 hy (u2 ea (u2 c8 (u2 eL hd)));have lc:¬(60:Int)<=(cM es bg:Int):=t7;generalize cM es bg=m2 at*;have lf:¬(us.length:Int)<2:=t7;have dl:=t6 cD (u2 cL (u2 hA (u2 c9 gA)));have hL:Hid _:=kk;have m1:Hid _:=fa;clear hy kG hd ea hD eL c8 da gB ke fa cD cL gA kk;go_wp2_with fail;refine dU.mono ?_;rintro e e2 ⟨rfl,d1⟩;have hz:=dk.out.1.below d1;have fD:Hid _:=dk.out.2.1.trans (d1.mono dk.out.2.1.size);have fP:=t6 hz (dk.out.2.2.2.1.below d1);have h1:e2.cell? ⟨w.1.size,4,none⟩=some (.slice (nv i).da us.length (nv i).dc):=by rw[<-R.out.1];exact hz.cell 4
 clear dU e5 hZ h0 cp d1 dk hz;go_upto_if 81 with fail
 go_cut [2] (fun s fB=>s= .int .i64 ((q:Int)+1)/\fB=e2)
 case first=>
  by_cases kj:p=0
  ·subst kj;have dr:Hid (q=0):=by show q=0;have:=hL.out;omega
   go_wp2_with fail
   go_meet
   case rel=>exact⟨by rw[dr.out];rfl,rfl⟩
  ·have l1:¬(p:Int)=0:=t7;have dr:Hid ((q:Int)+1=(p:Int)):=by show _= _;have:=hL.out;omega
   go_wp2_with fail
   go_meet
   case rel=>exact⟨by rw[dr.out],rfl⟩
 case rest=>
 obtain⟨rfl,gG⟩:=hcut;obtain rfl:=gG.symm;clear gG h1;have b2:Hid _:=fD.out;have b4:Hid _:=fP.out;have cD:=dl.out.1;have cL:=dl.out.2.1;have hA:=dl.out.2.2.1;have c9:=dl.out.2.2.2.1;have l2:q<us.length:=t7;have mb:=(wb.1 hA).1;have md:=(wb.1 c9).1;go_wp2_with fail;have e7:=bDr e2;have cv:=b2.out.trans (e7.mono b2.out.size);have fn:=b4.out.1.below e7;have cW:=b4.out.2.below e7;have bX:=a6.out.below cv;obtain⟨bF,cP,hs,cq⟩:=cW.get (i:=q) t7;rw[cF _ _ (by rw[x7];omega),cD]at cq;refine az (fun u=>u.cell? ⟨g,0,none⟩=some (.slice (some ⟨b,0,none⟩) ns.length nc)/\u.cell? ⟨w.1.size,4,none⟩=some (.slice (some ⟨bF,cP,none⟩) us.length (nv i).dc)/\u.cell? ⟨bF,cP+(q),none⟩=some (.int .i64 (n:Nat))/\(Instr.loadAt 176 (.pointer (some ⟨b,n*6,none⟩))).run prog u= .ok (.agg (ndc (nv n) d).toArray) u) (fun k=>decide (13<=k)) uA ?_;clear e7;generalize e2.drew=dW at*;have cc:dW.cell? ⟨w.1.size,4,none⟩=some (.slice (some ⟨bF,cP,none⟩) us.length (nv i).dc):=by rw[<-hs,<-R.out.1];exact fn.cell 4
 have cs:=u2 (bX.blk.cell 0) (u2 cc (u2 cq (bX.loadNd hA)));have E:bF<dW.1.size:=by
  obtain⟨hX,kA,bv,⟨f6,f7,eb⟩,_⟩:=cW.at_ t7;rw[hs]at bv;cases bv;exact(vR.1 eb).1
 refine ay 0 cs ?_;refine ay 1 cs ?_;refine ay 2 cs ?_;refine ay 3 cs ?_;refine ay 4 cs ?_;refine ay 5 cs ?_;refine ay 6 cs ?_;refine aM 7 (.int .i64 (q:Nat)) cs ?hsuba ?_
 case hsuba=>exact fun u _=>by go_simp;first|done|exact ll _ t7 t7
 refine ay 8 cs ?_;refine ay 9 cs ?_;refine ay 10 cs ?_;refine aM 11 (.agg (ndc (nv n) d).toArray) cs ?hlda ?_
 case hlda=>exact fun u ab=>bo (p:= .pointer (some ⟨b,n*6,none⟩)) rfl rfl ab.2.2.2
 refine ah 12 fun c a=> ?_;go_wp2_with fail;have z:=bAl dW (.cells (ndc aF nd0).toArray 176);have bZ:=aq dW 176 (ndc aF nd0).toArray;have ad:=u2 ((bX.below z).blk.cell 0) (u2 (z.cell (p:=⟨w.1.size,4,none⟩) fn.lt▸cc) (u2 (z.cell (p:=⟨bF,cP+(q),none⟩) E▸cq) ((bX.below z).loadNd hA)));refine ao a ?_ (fun _=>ad);clear a c ad;refine ah 13 fun c a=> ?_;refine bK (cs:=ndc (nv n) d) bZ rfl (eo _ _) aD rfl rfl rfl ?_;intro hS et eB;refine aU a ?_;clear a c bZ cs;have a3:=z.trans (eB.below t1 z.size);have b5:=t6 (fn.below a3) (cW.below a3);have b3:Hid _:=cv.trans (a3.mono cv.size);have fV:Hid _:=et;clear cv fn cW bX hs cq cc E z eB a3 et fP fD;generalize j2:dW.1.size=Z at*;clear j2;have ko:(q:Int)+1< (us.length:Int):=t7;have kn:((q:Int)+1).toNat=q+1:=t7;have kp:(0:Int)<=(q:Int)+1:=t7;go_wp2_with fail;have d7:=bDr hS;have cz:=b3.out.trans (d7.mono b3.out.size);have a5:=b5.out.1.below d7;have cX:=b5.out.2.below d7;have bY:=a6.out.below cz;obtain⟨bP,cR,ht,cr⟩:=cX.get (i:=q+1) t7;rw[cF _ _ (by rw[x7];omega),cL]at cr;refine az (fun u=>u.cell? ⟨g,0,none⟩=some (.slice (some ⟨b,0,none⟩) ns.length nc)/\u.cell? ⟨w.1.size,4,none⟩=some (.slice (some ⟨bP,cR,none⟩) us.length (nv i).dc)/\u.cell? ⟨bP,cR+(q+1),none⟩=some (.int .i64 (m:Nat))/\(Instr.loadAt 176 (.pointer (some ⟨b,m*6,none⟩))).run prog u= .ok (.agg (ndc (nv m) B).toArray) u) (fun k=>decide (12<=k)) uA ?_;have fM:Hid _:=d7;clear d7;generalize hS.drew=c5 at*;have ce:c5.cell? ⟨w.1.size,4,none⟩=some (.slice (some ⟨bP,cR,none⟩) us.length (nv i).dc):=by rw[<-ht,<-R.out.1];exact a5.cell 4
 have cs:=u2 (bY.blk.cell 0) (u2 ce (u2 cr (bY.loadNd c9)));have E:bP<c5.1.size:=by
  obtain⟨hX,kA,bv,⟨f6,f7,eb⟩,_⟩:=cX.at_ t7;rw[ht]at bv;cases bv;exact(vR.1 eb).1
 refine ay 0 cs ?_;refine ay 1 cs ?_;refine ay 2 cs ?_;refine ay 3 cs ?_;refine ay 4 cs ?_;refine ay 5 cs ?_;refine ay 6 cs ?_;refine ay 7 cs ?_;refine ay 8 cs ?_;refine ay 9 cs ?_;refine aM 10 (.agg (ndc (nv m) B).toArray) cs ?hldb ?_
 case hldb=>exact fun u ab=>bo (p:= .pointer (some ⟨b,m*6,none⟩)) rfl rfl ab.2.2.2
 refine ah 11 fun c a=> ?_;go_wp2_with fail;have z:=bAl c5 (.cells (ndc aF nd0).toArray 176);have bZ:=aq c5 176 (ndc aF nd0).toArray;have ad:=u2 ((bY.below z).blk.cell 0) (u2 (z.cell (p:=⟨w.1.size,4,none⟩) a5.lt▸ce) (u2 (z.cell (p:=⟨bP,cR+(q+1),none⟩) E▸cr) ((bY.below z).loadNd c9)));refine ao a ?_ (fun _=>ad);clear a c ad;refine ah 12 fun c a=> ?_;refine bK (cs:=ndc (nv m) B) bZ rfl (eo _ _) aD rfl rfl rfl ?_;intro U et eB;refine aU a ?_;clear a c bZ cs;have a3:=z.trans (eB.below t1 z.size);have dp:=t6 (a5.below a3) (cX.below a3);have hg:Hid _:=cz.trans (a3.mono cz.size);have g0:=Blk.below fV.out fM.out;have ae:Hid (Below w.1.size w U/\Blk U 176 w.1.size (ndc (nv i) (ndI 0 us))/\Blk U 176 Z (ndc (nv n) d)/\Blk U 176 c5.1.size (ndc (nv m) B)):=⟨hg.out,dp.out.1,g0.below a3,et⟩;clear cz a5 cX bY ht cr ce E z eB a3 et b5 b3 b4 b2 dp fV g0 fM;generalize c5.1.size=ak at*;have h6:U.cell? ⟨Z,1,none⟩=some (.bool d.leaf):=ae.out.2.2.1.cell 1;go_upto_region 15 with(first|(refine Ak rfl _ _ rfl (by simp only[wa,vo,v6];exact FU d.leaf) ?_)|(refine bt rfl 176 _ _ rfl U (ndc aF nd0).toArray (ndc aF ⟨0,d.leaf,[],[],[],[]⟩).toArray 176 rfl rfl aD rfl (cy _ _) ?_))
 have bC:=(Bn U.1.size U).alloc t1 (.cells (ndc aF ⟨0,d.leaf,[],[],[],[]⟩).toArray 176);have c3:=(a6.out.below ae.out.1);have hN:Hid (JSt w (U.alloc (.cells (ndc aF ⟨0,d.leaf,[],[],[],[]⟩).toArray 176)) w.1.size Z ak U.1.size (nv i) (nv n) (nv m) (ndI 0 us) d B (ndc aF ⟨0,d.leaf,[],[],[],[]⟩)):=by
  obtain⟨_,_,_,hv,_⟩:=c3.cells cm.out.1;obtain⟨_,_,_,bc,_⟩:=c3.cells hA;obtain⟨_,_,_,a4,_⟩:=c3.cells c9;exact⟨ae.out.1.trans (bC.mono ae.out.1.size),ae.out.2.1.below bC,ae.out.2.2.1.below bC,ae.out.2.2.2.below bC,aq U _ _,hv.below bC,bc.below bC,a4.below bC,ae.out.1.size,(by have:=ae.out.2.1.lt;omega),(by have:=ae.out.2.2.1.lt;omega),(by have:=ae.out.2.2.2.lt;omega)⟩
 change Code.wp _ _ _ _ (U.alloc (.cells (ndc aF ⟨0,d.leaf,[],[],[],[]⟩).toArray 176));clear bC c3 h6 ae;generalize U.alloc (.cells (ndc aF ⟨0,d.leaf,[],[],[],[]⟩).toArray 176)=hT at*;generalize U.1.size=f at*;clear kp kn ko;have M:=bDr hT;have l:=hN.out.below M;refine az (fun u=>u.cell? ⟨f,2,none⟩=some (.slice none 0 0)/\u.cell? ⟨Z,2,none⟩=some (.slice (nv n).ka d.keys.length (nv n).kc)/\u.cell? ⟨ak,2,none⟩=some (.slice (nv m).ka B.keys.length (nv m).kc)) (fun k=>decide (8<=k)) uA ?_;clear M;generalize hT.drew=r at*;have cs:r.cell? ⟨f,2,none⟩=some (.slice none 0 0)/\r.cell? ⟨Z,2,none⟩=some (.slice (nv n).ka d.keys.length (nv n).kc)/\r.cell? ⟨ak,2,none⟩=some (.slice (nv m).ka B.keys.length (nv m).kc):=⟨l.kj.cell 2,l.ka.cell 2,l.kb.cell 2⟩;refine au 0 cs ?_;refine au 1 cs ?_;refine au 2 cs ?_;refine au 3 cs ?_;refine au 5 cs ?_;refine au 6 cs ?_;refine ah 4 fun c a=> ?_;refine iN _ _ bM rfl rfl (cQ 9 r.1.size r) rfl l.rA.keys t7 t7 t1 ?_;intro hW ia b7 O A bz;rw[wg,w4]at O;rw[wg];have o:=l.below A;refine a.out _ _ (fun _=>⟨o.kj.cell 2,o.ka.cell 2,o.kb.cell 2⟩) ?_;clear a c;refine ah 7 fun c a=> ?_;refine iN _ _ bM rfl rfl O rfl o.rB.keys t7 t7 A.size ?_;intro F I P bS bs d8;have L:=A.trans bs;have h:=l.below L;have W:=h.kj.cell 2;have bx:=h.kj.free 2;refine a.out _ _ (fun _=>⟨W,h.ka.cell 2,h.kb.cell 2⟩) ?_;clear a c;refine ah 8 fun c a=> ?_;go_wp2_with fail;refine ao a ?_ (fun T=>absurd T uv);clear a c;refine ah 9 fun c a=> ?_;have bu:P.cell? ⟨f,2,none⟩=some (.slice none 0 0):=W;go_wp2_with fail;refine aU a ?_ (fun T=>absurd T uv);clear a c;obtain⟨ac,y⟩:=h.set 2 (.slice F (d.keys.length+B.keys.length) I);have hO:Hid _:=ac;have b6:Hid (R1 9 (P.setCell ⟨f,2,none⟩ (.slice F (d.keys.length+B.keys.length) I)) F (d.keys.length+B.keys.length) I (os d.keys++os B.keys)):=(bS.r1 (fun u bd=>by rcases wE.1 bd with T|T;exact dR _ u T;exact dR _ u T)).keep (y _ uv);clear ac y bS bs d8 L h o l O A bz W bx bu cs;generalize P.setCell ⟨f,2,none⟩ (.slice F (d.keys.length+B.keys.length) I)=hU at*;go_upto_region 16 with fail
 have M:=bDr hU;have l:=hO.out.below M;have bn:=b6.out.below M;refine az (fun u=>u.cell? ⟨f,3,none⟩=some (.slice none 0 0)/\u.cell? ⟨Z,3,none⟩=some (.slice (nv n).va d.vals.length (nv n).vc)/\u.cell? ⟨ak,3,none⟩=some (.slice (nv m).va B.vals.length (nv m).vc)) (fun k=>decide (8<=k)) uA ?_;clear M;generalize hU.drew=r at*;have cs:r.cell? ⟨f,3,none⟩=some (.slice none 0 0)/\r.cell? ⟨Z,3,none⟩=some (.slice (nv n).va d.vals.length (nv n).vc)/\r.cell? ⟨ak,3,none⟩=some (.slice (nv m).va B.vals.length (nv m).vc):=⟨l.kj.cell 3,l.ka.cell 3,l.kb.cell 3⟩;refine au 0 cs ?_;refine au 1 cs ?_;refine au 2 cs ?_;refine au 3 cs ?_;refine au 5 cs ?_;refine au 6 cs ?_;refine ah 4 fun c a=> ?_;refine iN _ _ bM rfl rfl (cQ 9 r.1.size r) rfl l.rA.vals t7 t7 t1 ?_;intro hW ia b7 O A bz;rw[wg,w4]at O;rw[wg];have o:=l.below A;refine a.out _ _ (fun _=>⟨o.kj.cell 3,o.ka.cell 3,o.kb.cell 3⟩) ?_;clear a c;refine ah 7 fun c a=> ?_;refine iN _ _ bM rfl rfl O rfl o.rB.vals t7 t7 A.size ?_;intro G J P bS bs d8;have L:=A.trans bs;have h:=l.below L;have W:=h.kj.cell 3;have bx:=h.kj.free 3;refine a.out _ _ (fun _=>⟨W,h.ka.cell 3,h.kb.cell 3⟩) ?_;clear a c;refine ah 8 fun c a=> ?_;go_wp2_with fail;refine ao a ?_ (fun T=>absurd T uv);clear a c;refine ah 9 fun c a=> ?_;have bu:P.cell? ⟨f,3,none⟩=some (.slice none 0 0):=W;go_wp2_with fail;refine aU a ?_ (fun T=>absurd T uv);clear a c;obtain⟨ac,y⟩:=h.set 3 (.slice G (d.vals.length+B.vals.length) J);have hP:Hid _:=ac;have dP:Hid (R1 9 (P.setCell ⟨f,3,none⟩ (.slice G (d.vals.length+B.vals.length) J)) G (d.vals.length+B.vals.length) J (os d.vals++os B.vals)):=(bS.r1 (fun u bd=>by rcases wE.1 bd with T|T;exact dR _ u T;exact dR _ u T)).keep (y _ uv);replace b6:Hid _:=(bn.below L).keep (y _ uv);clear ac y bS bs d8 L h o l O A bz W bx bu cs;generalize P.setCell ⟨f,3,none⟩ (.slice G (d.vals.length+B.vals.length) J)=hV at*;clear bn;go_upto_region 17 with fail
 have M:=bDr hV;have l:=hP.out.below M;have bn:=b6.out.below M;have f4:=dP.out.below M;refine az (fun u=>u.cell? ⟨f,4,none⟩=some (.slice none 0 0)/\u.cell? ⟨Z,4,none⟩=some (.slice (nv n).da d.kids.length (nv n).dc)/\u.cell? ⟨ak,4,none⟩=some (.slice (nv m).da B.kids.length (nv m).dc)) (fun k=>decide (8<=k)) uA ?_;clear M;generalize hV.drew=r at*;have cs:r.cell? ⟨f,4,none⟩=some (.slice none 0 0)/\r.cell? ⟨Z,4,none⟩=some (.slice (nv n).da d.kids.length (nv n).dc)/\r.cell? ⟨ak,4,none⟩=some (.slice (nv m).da B.kids.length (nv m).dc):=⟨l.kj.cell 4,l.ka.cell 4,l.kb.cell 4⟩;refine au 0 cs ?_;refine au 1 cs ?_;refine au 2 cs ?_;refine au 3 cs ?_;refine au 5 cs ?_;refine au 6 cs ?_;refine ah 4 fun c a=> ?_;refine iN _ _ co rfl rfl (cQ 3 r.1.size r) rfl l.rA.kids t7 t7 t1 ?_;intro hW ia b7 O A bz;rw[wg,w4]at O;rw[wg];have o:=l.below A;refine a.out _ _ (fun _=>⟨o.kj.cell 4,o.ka.cell 4,o.kb.cell 4⟩) ?_;clear a c;refine ah 7 fun c a=> ?_;refine iN _ _ co rfl rfl O rfl o.rB.kids t7 t7 A.size ?_;intro H K P bS bs d8;have L:=A.trans bs;have h:=l.below L;have W:=h.kj.cell 4;have bx:=h.kj.free 4;refine a.out _ _ (fun _=>⟨W,h.ka.cell 4,h.kb.cell 4⟩) ?_;clear a c;refine ah 8 fun c a=> ?_;go_wp2_with fail;refine ao a ?_ (fun T=>absurd T uv);clear a c;refine ah 9 fun c a=> ?_;have bu:P.cell? ⟨f,4,none⟩=some (.slice none 0 0):=W;go_wp2_with fail;refine aU a ?_ (fun T=>absurd T uv);clear a c;obtain⟨ac,y⟩:=h.set 4 (.slice H (d.kids.length+B.kids.length) K);have bm:Hid _:=ac;have hl:Hid (R1 3 (P.setCell ⟨f,4,none⟩ (.slice H (d.kids.length+B.kids.length) K)) H (d.kids.length+B.kids.length) K (on d.kids++on B.kids)):=(bS.r1 (fun u bd=>by rcases wE.1 bd with T|T;exact fw _ u T;exact fw _ u T)).keep (y _ uv);replace b6:Hid _:=(bn.below L).keep (y _ uv);replace dP:Hid _:=(f4.below L).keep (y _ uv);clear ac y bS bs d8 L h o l O A bz W bx bu cs;generalize P.setCell ⟨f,4,none⟩ (.slice H (d.kids.length+B.kids.length) K)=br at*;clear bn;clear f4;have h7:br.cell? ⟨f,5,none⟩=some (.slice none 0 0):=bm.out.kj.cell 5;have h8:br.cell? ⟨Z,5,none⟩=some (.slice (nv n).sa d.signs.length (nv n).sc):=bm.out.ka.cell 5;have ha:=bm.out.rA.signs;go_upto_region 19 with(at_builtin;refine ir bM (cQ 9 br.1.size br) ha t7 t7 t1 rfl rfl rfl rfl ?_)
 intro af ag b7 kD c7 k6;have fc:=bm.out.below c7;have W:b7.cell? ⟨f,5,none⟩=some (.slice none 0 0):=fc.kj.cell 5;have bx:=fc.kj.free 5;obtain⟨ac,y⟩:=fc.set 5 (.slice af d.signs.length ag);have eV:Hid _:=ac;have dI:Hid _:=(b6.out.below c7).keep (y _ uv);have dS:Hid _:=(dP.out.below c7).keep (y _ uv);have dE:Hid _:=(hl.out.below c7).keep (y _ uv);have dD:Hid _:=kD.keep (y _ uv);have f2:Hid (br.1.size<=(b7.setCell ⟨f,5,none⟩ (.slice af d.signs.length ag)).1.size):=by have bc:=c7.size;have a4:=(ax b7 f 5 (.slice af d.signs.length ag)).size;show _<=_;omega
 clear ac y fc kD c7 k6 h7 h8 ha;go_upto_region 19 with fail
 clear W bx;generalize b7.setCell ⟨f,5,none⟩ (.slice af d.signs.length ag)=c6 at*;have hq:c6.cell? ⟨Z,1,none⟩=some (.bool d.leaf):=eV.out.ka.cell 1;go_upto_if 143 with fail
 go_cut [] (fun fB=> ∃Q,JSt w fB w.1.size Z ak f (nv i) (nv n) (nv m) (ndI 0 us) d B (ndc Q (jnK d B sg))/\RNd fB Q (jnK d B sg))
 case first=>
  cases aS:d.leaf with
  |true=>
   rw[aS]at hq;have a8:Hid (JSt w c6 w.1.size Z ak f (nv i) (nv n) (nv m) (ndI 0 us) d B (ndc ⟨F,I,G,J,H,K,af,ag⟩ (jnK d B sg))/\RNd c6 ⟨F,I,G,J,H,K,af,ag⟩ (jnK d B sg)):=by
    refine⟨?_,?_,?_,?_,?_⟩
    ·have:=eV.out;have e:ndc ⟨F,I,G,J,H,K,af,ag⟩ (jnK d B sg)=[.int .i64 0,.bool d.leaf,.slice F (d.keys.length+B.keys.length) I,.slice G (d.vals.length+B.vals.length) J,.slice H (d.kids.length+B.kids.length) K,.slice af d.signs.length ag]:=by simp[ndc,jnK,aS]
     rw[e];exact this
    ·have:=dI.out;simp only[jnK,u7];rwa [jm]at this
    ·have:=dS.out;simp only[jnK,u7];rwa [jm]at this
    ·have:=dE.out;simp only[jnK,u7];rwa [fv]at this
    ·have:=Own1.r1 dD.out (dR _);simp only[jnK,aS,if_true];exact this
   clear aS;go_wp2_with fail
   go_meet
   case rel=>exact⟨_,a8.out⟩
  |false=>
   rw[aS]at hq;have hK:Hid _:=aS;clear aS;go_upto_region 20 with fail
   have M:=bDr c6;have l:=eV.out.below M;have kF:=Own1.below dD.out M;have kT:=l.rN.signs;have a7:q< (us.tail.map (·.1)).length:=by have:=R.out.2;omega
   obtain⟨c0,c1,c8,cp⟩:=kT.get (i:=q) a7;have hi:Hid (br.1.size<=c6.drew.1.size):=f2.out;have dF:=t6 (dI.out.below M) (u2 (dS.out.below M) (dE.out.below M));refine az (fun u=>u.cell? ⟨f,5,none⟩=some (.slice af d.signs.length ag)/\u.cell? ⟨w.1.size,5,none⟩=some (.slice (some ⟨c0,c1,none⟩) (us.tail.map (·.1)).length (nv i).sc)/\u.cell? ⟨c0,c1+q,none⟩=some (.string sg)/\u.cell? ⟨ak,5,none⟩=some (.slice (nv m).sa B.signs.length (nv m).sc)) (fun k=>decide (13<=k)) uA ?_;clear M cp;generalize c6.drew=r at*;have eU:Hid (∀u,Below br.1.size r u->u.cell? ⟨f,5,none⟩=some (.slice af d.signs.length ag)/\u.cell? ⟨w.1.size,5,none⟩=some (.slice (some ⟨c0,c1,none⟩) (us.tail.map (·.1)).length (nv i).sc)/\u.cell? ⟨c0,c1+q,none⟩=some (.string sg)/\u.cell? ⟨ak,5,none⟩=some (.slice (nv m).sa B.signs.length (nv m).sc)):=fun u bd=>by
    have fl:=bm.out.keepB l bd;refine⟨fl.kj.cell 5,?_,?_,fl.kb.cell 5⟩
    ·rw[<-c8];exact fl.kn.cell 5
    ·obtain⟨d1,m7,k3,k8⟩:=fl.rN.signs.get (i:=q) a7;have i1:=c8.symm.trans k3;cases i1;rw[k8];show some ((os (us.tail.map (·.1))).getD q undef)= _;rw[eh _ _ a7];exact B8 (fun x=>some (Value.string x)) dl.out.2.2.2.2
   have cs:=eU.out r t2;have lb:(q:Int)< ((us.tail.map (·.1)).length:Int):=t7;generalize (us.tail.map (·.1)).length=sl at*;refine ay 0 cs ?_;refine ay 1 cs ?_;refine ay 2 cs ?_;refine ay 3 cs ?_;refine ay 4 cs ?_;refine aM 5 (.int .i64 (q:Nat)) cs ?hsb5 ?_
   case hsb5=>exact fun u _=>by go_simp;first|done|exact ll _ t7 t7
   refine ay 6 cs ?_;refine ay 7 cs ?_;refine ay 10 cs ?_;refine ay 11 cs ?_;refine ah 8 fun c a=> ?_;refine bU _ _ _ rfl (v:= .slice (some ⟨r.1.size,0,none⟩) 1 1) (w':=r.alloc (.cells #[.string sg] 9)) ?bs8 ?_
   case bs8=>
    simp only[wa,vo,v6];exact ey bM (.string sg) rfl r
   refine a.out _ _ (fun _=>eU.out _ (t2.alloc hi.out _)) ?_;clear a c;refine ah 9 fun c a=> ?_;refine tN _ _ bM rfl br.1.size af d.signs.length ag (os d.signs) rfl kF (.string sg) rfl rfl t7 t7 hi.out ?_;intro m4 m5 m3 cg d2 k5;refine a.out _ _ (fun _=>eU.out _ d2) ?_;clear a c k5;have hb:=(bm.out.keepB l d2).rB.signs;refine ah 12 fun c a=> ?_;refine iN _ _ bM rfl rfl cg rfl hb t7 t7 (u9 hi.out d2.size) ?_;intro b8 ca ho kE hY k7;have L:=d2.trans hY;refine a.out _ _ (fun _=>eU.out _ L) ?_;clear a c k7;have fd:=bm.out.keepB l L;have W:ho.cell? ⟨f,5,none⟩=some (.slice af d.signs.length ag):=fd.kj.cell 5;have bx:=fd.kj.free 5;obtain⟨ac,y⟩:=fd.set 5 (.slice b8 (d.signs.length+1+B.signs.length) ca);have a8:Hid (JSt w (ho.setCell ⟨f,5,none⟩ (.slice b8 (d.signs.length+1+B.signs.length) ca)) w.1.size Z ak f (nv i) (nv n) (nv m) (ndI 0 us) d B (ndc ⟨F,I,G,J,H,K,b8,ca⟩ (jnK d B sg))/\RNd (ho.setCell ⟨f,5,none⟩ (.slice b8 (d.signs.length+1+B.signs.length) ca)) ⟨F,I,G,J,H,K,b8,ca⟩ (jnK d B sg)):=by
    have ju:(jnK d B sg).signs=d.signs++sg::B.signs:=by simp only[jnK];rw[hK.out];rfl
    have gm:(jnK d B sg).signs.length=d.signs.length+1+B.signs.length:=by rw[ju];simp;omega
    refine⟨?_,?_,?_,?_,?_⟩
    ·have e:ndc ⟨F,I,G,J,H,K,b8,ca⟩ (jnK d B sg)=[.int .i64 0,.bool d.leaf,.slice F (d.keys.length+B.keys.length) I,.slice G (d.vals.length+B.vals.length) J,.slice H (d.kids.length+B.kids.length) K,.slice b8 (d.signs.length+1+B.signs.length) ca]:=by
      unfold ndc;rw[gm];simp[jnK]
     rw[e];exact ac
    ·have:=(b6.out.keepB dF.out.1 L).keep (y _ uv);simp only[jnK,u7];rwa [jm]at this
    ·have:=(dP.out.keepB dF.out.2.1 L).keep (y _ uv);simp only[jnK,u7];rwa [jm]at this
    ·have:=(hl.out.keepB dF.out.2.2 L).keep (y _ uv);simp only[jnK,u7];rwa [fv]at this
    ·have T:=kE.keep (y _ uv);rw[gm,ju];have e:os d.signs++[Value.string sg]++os B.signs=os (d.signs++sg::B.signs):=by simp[os]
     rw[e]at T;exact Own1.r1 T (dR _)
   clear ac y fd kE hY L cg d2 hb l kF kT;refine ah 13 fun c a=> ?_;go_wp2_with fail;refine ao a ?_ (fun T=>absurd T uv);clear a c;refine ah 14 fun c a=> ?_;go_wp2_with fail;refine aU a ?_ (fun T=>absurd T uv);clear a c;go_wp2_with fail
   go_meet
   case rel=>exact⟨_,a8.out⟩
 case rest=>
 obtain⟨Q,d9,kN⟩:=hcut;obtain⟨lk,kr⟩:=aa wc;subst kr;have ck:Hid ((jnK d B sg).keys=(X++Y).map (·.1)/\(jnK d B sg).vals=(X++Y).map (·.2)/\lSz (X++Y)<=1000000/\aH (jnK d B sg).signs<=1000000):=⟨by simp only[jnK];rw[an.out.1,an.out.2.2.1,zz],by simp only[jnK];rw[an.out.2.1,an.out.2.2.2.1,zz],an.out.2.2.2.2.1,an.out.2.2.2.2.2⟩;have cl:Hid _:=(rfl:jnK d B sg=jnK d B sg);generalize gc:jnK d B sg=C at*;clear cl;have cl:Hid _:=gc;have stV:=a6.out.below d9.hb;have kt:=d9.kj;have c4:Hid _:=d9;have ls:=d9.le;clear b6 dP hl dI dS dE dD f2 eV bm hP hO hN hq d9 gc an kb kc aT j1 jT;have hw:(some ⟨b,0,none⟩:Option Addr)≠some ⟨f,0,none⟩:=fun e=>by cases e;omega
 have cn:Hid (∀(u:World)(k:Nat)(v:NdV)(hG:NdK),Blk u 176 k (ndc v hG)->(Instr.loadAt 176 (.pointer (some ⟨k,0,none⟩))).run prog u= .ok (.agg (ndc v hG).toArray) u):=fun u k v hG bd=>jI u k v hG bd;go_wp2_with fail;have d4:=bDr lk;have bW:=stV.below d4;have fm:=kt.below d4;have kR:=kN.below d4;refine az (fun u=>u.cell? ⟨g,0,none⟩=some (.slice (some ⟨b,0,none⟩) ns.length nc)/\(Instr.loadAt 176 (.pointer (some ⟨f,0,none⟩))).run prog u= .ok (.agg (ndc Q C).toArray) u) (fun k=>decide (8<=k)) uA ?_;generalize lk.drew=a2 at*;have cs:a2.cell? ⟨g,0,none⟩=some (.slice (some ⟨b,0,none⟩) ns.length nc)/\(Instr.loadAt 176 (.pointer (some ⟨f,0,none⟩))).run prog a2= .ok (.agg (ndc Q C).toArray) a2:=⟨bW.blk.cell 0,cn.out _ _ _ _ fm⟩;have ft:=bAl a2 (.cells (ndc Q C).toArray 176);have i0:(a2.alloc (.cells (ndc Q C).toArray 176)).cell? ⟨g,0,none⟩=some (.slice (some ⟨b,0,none⟩) ns.length nc)/\(Instr.loadAt 176 (.pointer (some ⟨f,0,none⟩))).run prog (a2.alloc (.cells (ndc Q C).toArray 176))= .ok (.agg (ndc Q C).toArray) (a2.alloc (.cells (ndc Q C).toArray 176)):=⟨(bW.below ft).blk.cell 0,cn.out _ _ _ _ (fm.below ft)⟩;have am:Hid _:=d4;have D:=t6 bW (u2 kR (fm.below ft));have jq:=bW.gB;clear d4 bW kR fm ft;refine aj 0 cs ?_;refine aj 1 cs ?_;refine aj 2 cs ?_;refine aj 3 cs ?_;refine aj 4 cs ?_;refine aM 5 (.agg (ndc Q C).toArray) cs ?hyp5 ?_
 case hyp5=>exact fun u ab=>bo (p:= .pointer (some ⟨f,0,none⟩)) rfl rfl ab.2
 refine ah 6 fun c a=> ?_;refine bU _ _ _ rfl (v:= .slice (some ⟨a2.1.size,0,none⟩) 1 1) (w':=(a2.alloc (.cells (ndc Q C).toArray 176))) ?bsp ?_
 case bsp=>
  simp only[wa,vo,v6];exact fq eY t7 (.agg (ndc Q C).toArray) (ndc Q C) rfl rfl a2
 refine ao a ?_;clear a c;refine ah 7 fun c a=> ?_;refine gW _ _ eY rfl B0 (some ⟨b,0,none⟩) ns.length nc (cd nv ns) rfl D.out.1.nodes (ndc Q C) rfl (eo _ _) rfl t7 t7 jq ?_;intro aB b9 a1 ex ba bA f5;have bE:Blk a1 176 f (ndc Q C):=(bA.block f D.out.2.2.lt (rK D.out.1.nodes hw).symm).trans D.out.2.2;have aX:Blk a1 116 g _:=D.out.1.blk.keepT ((aV (bAl _ _)).trans (bD (bQ D.out.1.nodes (bAl _ _)) bA uv));have d3:a1.cell? ⟨g,0,none⟩=some (.slice (some ⟨b,0,none⟩) ns.length nc):=aX.cell 0;refine a.out _ _ (fun _=>⟨d3,cn.out _ _ _ _ bE⟩) ?_;clear a c;have hf:=D.out.1.push D.out.2.1 ex ba bA;have i5:=UFr.push (u:= .slice (some ⟨aB,0,none⟩) (ns.length+1) b9) D.out.1 bA;have g7:=ax a1 g 0 (.slice (some ⟨aB,0,none⟩) (ns.length+1) b9);have g2:=bE.only g7 (fun e=>by have:=aX;rw[<-e]at this;unfold Blk at this bE;rw[bE]at this;cases this);have jj:=aX.free 0;have bk:=t6 hf (u2 i5 (u2 f5 g2));clear hf i5 aX ex ba bA f5 i0 bE g2 g7;refine ah 8 fun c a=> ?_;go_wp2_with fail;refine ao a ?_;clear a c;refine ah 9 fun c a=> ?_;go_wp2_with fail;refine ao a ?_;clear a c;refine ah 10 fun c a=> ?_;go_wp2_with fail;refine aU a ?_;clear a c d3 jj cs;have c2:=bk.out.1;have cf:=(c4.out.kn.below am.out);have g4:=cf.onlyS bk.out.2.1 (fun aT=>by
  rcases aT with aT|aT
  ·have bc:=D.out.1.blk;rw[<-aT]at bc;have a4:=cf;unfold Blk at bc a4;rw[a4]at bc;cases bc
  ·cases aT;omega)
 have hc:=c4.out.rN.keep ((aV am.out).trans (D.out.1.keepT bk.out.2.1 uv uv)) ((aV am.out).trans (D.out.1.keepT bk.out.2.1 uv uv));have i6:UFr g (some ⟨b,0,none⟩) w (a1.setCell ⟨g,0,none⟩ (.slice (some ⟨aB,0,none⟩) (ns.length+1) b9)):=(OnlyS.ofBelow c4.out.hb).trans ((OnlyS.ofBelow am.out).trans bk.out.2.1);have gw:(some ⟨aB,0,none⟩:Option Addr)=some ⟨b,0,none⟩\/∃k,(some ⟨aB,0,none⟩:Option Addr)=some ⟨k,0,none⟩/\w.1.size<=k:=by
  rcases bk.out.2.2.1 with e|e
  ·exact u5 e.symm
  ·refine u4 ⟨aB,rfl,?_⟩;have bc:=c4.out.hb.size;have a4:=am.out.size;omega
 have ek:aB≠w.1.size:=by
  rcases bk.out.2.2.1 with e|e
  ·cases e;omega
  ·have bc:=c4.out.kn.lt;have a4:=am.out.size;omega
 have b1:=t6 g4 (u2 hc (u2 i6 (u2 gw ek)));clear g4 hc i6 gw ek cf;generalize a1.setCell ⟨g,0,none⟩ (.slice (some ⟨aB,0,none⟩) (ns.length+1) b9)=hG at*;have d3:hG.cell? ⟨g,0,none⟩=some (.slice (some ⟨aB,0,none⟩) (ns++[C]).length b9):=c2.blk.cell 0;rw[u7,x2]at d3;have gs:(ns++[C])[ns.length]?=some C:=by simp
 have dU:=mD c2 gs (X++Y) ck.out.1 ck.out.2.1 ck.out.2.2.1 ck.out.2.2.2 (by simp;omega);have fZ:Hid _:=c2;generalize gj:cM (X++Y) C=dV at*;have f0:Hid _:=gj;clear gj;clear c2 D bk am kN kt stV c4;go_wp2_with fail;refine dU.mono ?_;rintro e P ⟨rfl,aA⟩;clear dU d3;have N:=t6 (fZ.out.below aA) (u2 (b1.out.1.below aA) (u2 (b1.out.2.1.below aA) (b1.out.2.2.1.trans (OnlyS.ofBelow aA))));clear aA;by_cases cb:240<dV
 ·have e8:¬(dV:Int)<=240:=t7;have hh:Hid _:=cb;go_wp2_with fail;refine BB (results_none rfl _ _ _) rfl ?_;rw[cl.out,f0.out,mjL,BC hh.out];exact⟨rfl,N.out.1.uq N.out.2.2.2 b1.out.2.2.2.1⟩
 ·have e8:(dV:Int)<=240:=t7;have hh:Hid _:=cb;clear cb;have kS:R1 3 P (nv i).da us.length (nv i).dc (on (us.map (·.2))):=by have:=N.out.2.2.1.kids;rwa [show(ndI 0 us).kids.length=us.length from R.out.1]at this
  have hj:=wh _ _ _ _ (q+1) 0 P kS em t7;have km:Hid (((q+1:Nat):Int)=(q:Int)+1):=by show _= _;omega
  rw[km.out]at hj;have e5:P.cell? ⟨w.1.size,4,none⟩=some (.slice (nv i).da us.length (nv i).dc):=by rw[<-R.out.1];exact N.out.2.1.cell 4
  obtain⟨gt,gv⟩:=FT em (us.getD q (strOfNums [],0)).1 (ns.length:Int);generalize gn:(us.set q ((us.getD q (strOfNums [],0)).1,(ns.length:Int))).eraseIdx (q+1)=ap at*;have bl:=t6 gt (u2 gv gn);clear kS gt gv gn;go_wp2_with fail;refine hj.mono ?_;rintro e hF ⟨hp,bb,rfl,e3,kB⟩;have dc:=N.out.2.1.below e3;have h2:hF.cell? ⟨w.1.size,4,none⟩=some (.slice (nv i).da (ndI 0 us).kids.length (nv i).dc):=dc.cell 4;have i3:=dc.free 4;have fs:=ax hF w.1.size 4 (.slice hp (us.length-1) bb);have hB:=dc.set 4 (.slice hp (us.length-1) bb);have g5:=aw (t:=9) fs dc uv;have ev:=aw (t:=3) fs dc uv;have a0:=(Below.onlyB e3 w.1.size).trans fs;have bf:=kB.keep ev;have fz:=(N.out.2.2.1.below e3).keep g5 ev;clear hj kB e3 dc fs g5 ev e5;go_upto_region 25 with fail
  clear h2 i3;generalize hF.setCell ⟨w.1.size,4,none⟩ (.slice hp (us.length-1) bb)=eR at*;obtain⟨S,rfl,ka,E,⟨k2,cB⟩,gp⟩:=Own1.at_ bf t7;have h3:eR.cell? ⟨w.1.size,4,none⟩=some (.slice (some ⟨S,0,none⟩) (us.length-1) bb):=hB.cell 4;have ic:=gp q t7;have jh:=Own1.free bf q;have bR:=ax eR S q (.int .i64 (ns.length:Int));have ch:=Own1.set bf q (.int .i64 (ns.length:Int));rw[tS]at ch;have kg:S≠w.1.size:=by have:=N.out.2.1.lt;omega
  have ks:=hB.only bR (DX kg);have cS:=cx (t:=9) bR cB uv;have he:R1 9 (eR.setCell ⟨S,q,none⟩ (.int .i64 (ns.length:Int))) (nv i).sa (us.tail.map (·.1)).length (nv i).sc (os (us.tail.map (·.1))):=fz.signs.keep cS;have eM:=u2 (fz.keys.keep cS) (fz.vals.keep cS);have g8:OnlyB w.1.size P (eR.setCell ⟨S,q,none⟩ (.int .i64 (ns.length:Int))):=⟨bR.os.trans a0.os,bR.tape.trans a0.tape,bR.output.trans a0.output,u9 a0.size bR.size,fun k da hv=>(bR.block k (ws da a0.size) t7).trans (a0.block k da hv)⟩;have l3:(q:Int)< ((us.length-1:Nat):Int):=t7;have b0:=t6 ks (u2 ch (u2 he (u2 eM g8)));clear bf fz a0 gp cB bR ch ks cS he eM g8 hB ka;go_upto_region 26 with fail
  clear h3 ic jh;generalize eR.setCell ⟨S,q,none⟩ (.int .i64 (ns.length:Int))=kV at*;generalize a7:(us.tail.map (·.1)).length=sl at*;have ds:Hid _:=a7;have eq:=R.out.2;have en:q<sl:=t7;have hM:Hid _:=eq;clear a7 eq;have h4:kV.cell? ⟨w.1.size,5,none⟩=some (.slice (nv i).sa sl (nv i).sc):=by rw[<-ds.out];exact b0.out.1.cell 5
  have hQ:=kz _ _ _ _ q kV b0.out.2.2.1 en (by have:=hM.out;omega);go_wp2_with fail;refine hQ.mono ?_;rintro e a1 ⟨a9,V,rfl,ba,ex⟩;have aX:=b0.out.1.below ba;have h5:a1.cell? ⟨w.1.size,5,none⟩=some (.slice (nv i).sa (ndI 0 us).signs.length (nv i).sc):=aX.cell 5;have i4:=aX.free 5;have cg:=ax a1 w.1.size 5 (.slice a9 (sl-1) V);have hC:=aX.set 5 (.slice a9 (sl-1) V);have cT:=aw (t:=9) cg aX uv;have g3:=aw (t:=3) cg aX uv;have ef:(ap.map (·.2)).length=us.length-1:=by rw[bl.out.1,A1,ky (by rw[x7];exact em),x7]
  have ej:(ap.tail.map (·.1)).length=sl-1:=by rw[bl.out.2.1,ky (by rw[ds.out];exact en),ds.out]
  have i2:((ndc (nv i) (ndI 0 us)).set 4 (.slice (some ⟨S,0,none⟩) (us.length-1) bb)).set 5 (.slice a9 (sl-1) V)=ndc ⟨(nv i).ka,(nv i).kc,(nv i).va,(nv i).vc,some ⟨S,0,none⟩,bb,a9,V⟩ (ndI 0 ap):=by
   show [_,_,_,_,_,_]=[_,_,_,_,Value.slice _ (ap.map (·.2)).length bb,Value.slice a9 (ap.tail.map (·.1)).length V];rw[ef,ej]
   rfl
  rw[i2]at hC;have kH:RNd (a1.setCell ⟨w.1.size,5,none⟩ (.slice a9 (sl-1) V)) ⟨(nv i).ka,(nv i).kc,(nv i).va,(nv i).vc,some ⟨S,0,none⟩,bb,a9,V⟩ (ndI 0 ap):=by
   have a4:=(ex.r1 (dR _)).keep cT;have jk:=(Own1.r1 (Own1.below b0.out.2.1 ba) (fw _)).keep g3;have jl:=b0.out.2.2.2.1;rw[<-bl.out.2.1]at a4;rw[<-bl.out.1]at jk;refine⟨(jl.1.below ba).keep cT,(jl.2.below ba).keep cT,?_,?_⟩
   ·show R1 _ _ _ (ap.map (·.2)).length _ (on (ap.map (·.2)));rw[ef];exact jk
   ·show R1 _ _ _ (ap.tail.map (·.1)).length _ (os (ap.tail.map (·.1)));rw[ej];exact a4
  have g9:=b0.out.2.2.2.2.trans ((Below.onlyB ba w.1.size).trans cg);have a8:=t6 hC (u2 kH g9);clear hQ ex ba aX cg hC cT g3 i2 kH g9 ef ej h4 b0;go_upto_region 27 with fail
  clear h5 i4;generalize a1.setCell ⟨w.1.size,5,none⟩ (.slice a9 (sl-1) V)=hn at*;generalize (⟨(nv i).ka,(nv i).kc,(nv i).va,(nv i).vc,some ⟨S,0,none⟩,bb,a9,V⟩:NdV)=vL at*;generalize gf:ndI 0 ap=eW at*;have hJ:Hid _:=gf;have gT:=a8.out.1;have kP:=a8.out.2.1;have stV:=N.out.1.only a8.out.2.2 N.out.2.1 (fun e=>by cases e;exact b1.out.2.2.2.2 rfl);have jd:UFr g (some ⟨b,0,none⟩) w hn:=N.out.2.2.2.transN (OnlyS.ofB a8.out.2.2) (fun j k9 aT=>by omega);have j3:i< (ns++[C]).length:=by simp;omega
  have hI:Hid _:=jd;have dq:Hid _:=(rfl:ns++[C]=ns++[C]);generalize gg:ns++[C]=hk at*;clear dq;have dq:Hid _:=gg;clear gf gg jd a8 N fZ gs;have d5:=bDr hn;have gY:=gT.below d5;have eK:=kP.below d5;have cj:=stV.below d5;have hH:Hid _:=d5;refine az (fun u=>u.cell? ⟨g,0,none⟩=some (.slice (some ⟨aB,0,none⟩) hk.length b9)/\(Instr.loadAt 176 (.pointer (some ⟨w.1.size,0,none⟩))).run prog u= .ok (.agg (ndc vL eW).toArray) u) (fun k=>decide (7<=k)) uA ?_;clear d5 gT kP;generalize hn.drew=hm at*;have cs:hm.cell? ⟨g,0,none⟩=some (.slice (some ⟨aB,0,none⟩) hk.length b9)/\(Instr.loadAt 176 (.pointer (some ⟨w.1.size,0,none⟩))).run prog hm= .ok (.agg (ndc vL eW).toArray) hm:=⟨cj.blk.cell 0,cn.out _ _ _ _ gY⟩;refine aj 0 cs ?_;refine aj 1 cs ?_;refine aj 2 cs ?_;refine aj 3 cs ?_;refine aj 4 cs ?_;refine aM 5 (.agg (ndc vL eW).toArray) cs ?hy5 ?_
  case hy5=>exact fun u ab=>bo (p:= .pointer (some ⟨w.1.size,0,none⟩)) rfl rfl ab.2
  refine aj 6 cs ?_;refine ah 7 fun c a=> ?_;refine iY cj eK j3 rfl rfl rfl ?_;intro k1 eN g6;refine aU a ?_;clear a c cs;have kZ:Hid (UQ B0 g rest rt (some ⟨b,0,none⟩) w k1 (hk.set i eW)):=eN.uq ((hI.out.trans (OnlyS.ofBelow hH.out)).transN (OnlyS.ofB g6) (fun j k9 aT=>by
   rcases b1.out.2.2.2.1 with e|⟨db,e,hk1⟩
   ·cases e;exact u4 (by rw[aT])
   ·cases e;omega)) b1.out.2.2.2.1
  clear eN cj g6 gY eK stV;go_wp2_with fail
  go_end0
  rw[cl.out,f0.out,mjL,BX hh.out,bl.out.2.2,hJ.out,dq.out];exact⟨rfl,kZ.out⟩
end
section
variable {ns ms:List NdK}
def wfb(n:Nat)(t:Tr):Prop:=wf n t\/(n=0/\t= .leaf 0 [])\/∃m,n=m+1/\t= .node 0 (kds [])
theorem FY{n t}(a:wfb n t):(∃id es,n=0/\t= .leaf id es/\(∀e∈es,eOk e)/\lSz es<=240)\/∃id L m,n=m+1/\t= .node id (kds L)/\(∀x∈L,wf m x.2)/\(∀s∈sgs L,eQ s)/\nSz (sgs L)<=240:=by
 rcases a with a|⟨rfl,rfl⟩|⟨m,rfl,rfl⟩
 ·rcases aO a with⟨id,es,rfl,rfl⟩|⟨id,L,m,rfl,rfl⟩
  ·exact u5 ⟨id,es,rfl,rfl,(dA.1 a).2.1,(dA.1 a).2.2⟩
  ·exact u4 ⟨id,L,m,rfl,rfl,(bq.1 a).2⟩
 ·exact u5 ⟨0,[],rfl,rfl,uB,by simp[lSz]⟩
 ·exact u4 ⟨0,[],m,rfl,rfl,uB,by simp[sgs],by simp[sgs,nSz]⟩
structure RtN(ns:List NdK)(t:Tr)(v:Int)(p:Nat)(K:NdK)(es:List En):Prop where
 pl:v=(p:Int)
 nd:ns[p]?=some K
 keys:K.keys=es.map (·.1)
 vals:K.vals=es.map (·.2)
 sz:kSz es K=szT t
 bare:bare t=true↔K.keys=[]/\K.kids=[]
 lsz:lSz es<=240
 gsz:aH K.signs<=240
 small:K.keys.length+K.vals.length+K.kids.length+K.signs.length<=1000
theorem SRep.rt{n t P v}(e:SRep ns t P [(strOfNums [],v)])(q:wfb n t):∃p K es,RtN ns t v p K es:=by
 rcases FY q with⟨id,es,_,rfl,i,g⟩|⟨id,L,m,_,rfl,i,g,j⟩
 ·rw[SRep]at e;obtain⟨p,rfl,d,b⟩:=e;cases d;have k:=im es;refine⟨p,_,es,rfl,b,rfl,rfl,by simp[kSz,ndL,aH,szT],?_,g,by simp[ndL,aH],by simp[ndL];omega⟩;simp[Go.Proofs.YtglbanolhhjjiaaGreatDoor.bare,ndL,List.isEmpty_iff]
 ·rw[SRep]at e;obtain⟨p,us,G,rfl,d,b,h⟩:=e;cases d;have a:=h.sgs;have c:=h.len;rw[dm]at j;have k:=gQ (Go.Proofs.YtglbanolhhjjiaaGreatDoor.sgs L);have l:=gC L;refine⟨p,_,[],rfl,b,rfl,rfl,?_,?_,by simp[lSz],?_,?_⟩
  ·simp only[kSz,ndI,a,szT,ct,dm];simp[lSz];omega
  ·simp only[Go.Proofs.YtglbanolhhjjiaaGreatDoor.bare,ct,ndI,List.isEmpty_iff];constructor
   ·rintro rfl;have:=x8 c;simp[this]
   ·rintro⟨_,e⟩;have f:=B8 List.length e;simp at f;rw[f]at c;exact x8 c.symm
  ·simp only[ndI,a];omega
  ·have o:(us.tail.map (·.1)).length=L.length-1:=by rw[a,l]
   simp only[ndI,x7,zP]at o ⊢;omega
theorem FZ{n a c l o S T ag B}{s t:Nat}{sg}(N:wf n a)(H:wf n c)(hA:SRep ns a l [(strOfNums [],S)])(r:SRep ns c o [(strOfNums [],T)])(ak:S=(s:Int))(am:T=(t:Int))(d:ns[s]?=some ag)(f:ns[t]?=some B)(P:(l++o).Nodup)(O:∀j,j∈l++o->ms[j]?=ns[j]?){q}(Q:ms[q]?=some (jnK ag B sg))(an:ns.length<=q):∃V,SRep ms (dL a sg c) V [(strOfNums [],(q:Int))]/\V.Nodup/\(∀j∈V,j∈l++o\/j=q):=by
 rcases aO N with⟨id,es,rfl,rfl⟩|⟨id,L,m,rfl,rfl⟩
 ·rcases aO H with⟨i,K,_,rfl⟩|⟨i,L,m,e,_⟩
  ·rw[SRep]at hA r;obtain⟨I,rfl,A,F⟩:=hA;obtain⟨J,rfl,C,G⟩:=r;cases A;cases C;have D:s=I:=t7;have E:t=J:=t7;subst D;subst E;rw[F]at d;rw[G]at f;cases d;cases f;refine⟨[q],?_,uB,fun j b=>by simp at b;exact u4 b⟩;rw[dL,SRep];refine⟨q,rfl,rfl,?_⟩;rw[Q];simp[jnK,ndL]
  ·omega
 ·rcases aO H with⟨i,K,e,_⟩|⟨i,M,aA,e,rfl⟩
  ·omega
  ·rw[SRep]at hA r;obtain⟨I,u1,U,rfl,A,F,g⟩:=hA;obtain⟨J,aB,ap,rfl,C,G,u⟩:=r;cases A;cases C;have D:s=I:=t7;have E:t=J:=t7;subst D;subst E;rw[F]at d;rw[G]at f;cases d;cases f;have X:=(bq.1 H).1;have W:=(bq.1 N).1;have Z:=g.keep (ms:=ms) (fun j b=>O j (by simp[b]));have ab:=u.keep (ms:=ms) (fun j b=>O j (by simp[b]));cases M with
   |nil=>exact absurd rfl X
   |cons x M=>
    obtain⟨v,k,w,z,rfl,rfl,ac,ad⟩:=er.1 ab;have ae:SRep ms (kds ((sg,x.2)::M)) (w++z) ((sg,v)::k):=er.2 ⟨v,k,w,z,rfl,rfl,ac,ad⟩;have af:=ae.cat Z;have R:u1≠[]:=fun e=>by
     have:=g.len;rw[e]at this;exact W (x8 this.symm)
    refine⟨q::(U++(w++z)),?_,?_,fun j b=> ?_⟩
    ·rw[dL,ct,ct,SRep];refine⟨q,u1++(sg,v)::k,_,rfl,rfl,?_,af⟩;rw[Q];cases u1 with
     |nil=>exact absurd rfl R
     |cons y u1=>simp[jnK,ndI]
    ·refine y1.2 ⟨fun h=> ?_,?_⟩
     ·rcases wE.1 h with h|h
      ·have:=g.lt q h;omega
      ·have:=u.lt q h;omega
     ·have p:=P;rw[zd]at p ⊢;exact⟨(y1.1 p.1).2,(y1.1 p.2.1).2,fun x hx y Y=>p.2.2 x (by simp[hx]) y (zs _ Y)⟩
    ·rcases wA.1 b with rfl|b
     ·exact u4 rfl
     ·left;rcases wE.1 b with b|b
      ·simp[b]
      ·exact List.mem_append_right _ (zs _ b)
end
