import Derived.Test.YtglbanolhhjjiaaGreatDoorFo30
namespace Go.Proofs.YtglbanolhhjjiaaGreatDoor
open Go.Proofs.Tryz
open Go.RowKit
set_option linter.unusedVariables false
set_option maxRecDepth 100000
set_option maxHeartbeats 32000000
section
variable {B0 g:Nat} {rest:List Value} {rt:Int} {w:World} {ns:List NdK} {nv:Nat->NdV} {na:Option Addr} {nc:Nat}
theorem FW(dd:USt B0 g rest rt w ns nv na nc){i p pc:Nat}{us bg}(a:ns[i]?=some (ndI 0 us))(e9:p<us.length)(fa:(us.map (·.2)).getD p 0=(pc:Int))(hu:ns[pc]?=some bg)(mB:us.length<=1000)(lt:ns.length<=1048575)(es)(da:bg.keys=es.map (·.1))(gB:bg.vals=es.map (·.2))(aT:lSz es<=1000000)(j1:aH bg.signs<=1000000)(jT:bg.kids.length<=1000000)(ke:bg.keys.length+bg.kids.length≠0)(ms:cM es bg<60){q o n:Nat}(kk:q+1=max p 1)(em:q+1<us.length){d B}(cD:(us.map (·.2)).getD q 0=(o:Int))(cL:(us.map (·.2)).getD (q+1) 0=(n:Int))(hA:ns[o]?=some d)(c9:ns[n]?=some B)(kb:d.keys.length+d.vals.length+d.kids.length+d.signs.length<=1000)(kc:B.keys.length+B.vals.length+B.kids.length+B.signs.length<=1000){sg}(gA:(us.tail.map (·.1)).getD q (strOfNums [])=sg){X Y}(f8:d.keys=X.map (·.1))(f9:d.vals=X.map (·.2))(ga:B.keys=Y.map (·.1))(gb:B.vals=Y.map (·.2))(gS:lSz (X++Y)<=1000000)(gr:aH (jnK d B sg).signs<=1000000):
 Calls prog 160 #[.pointer (some ⟨g,0,none⟩),.int .i64 (i:Nat),.int .i64 (p:Nat)] w fun e w'=>e= .returned (.tuple #[])/\UQ B0 g rest rt na w w' (mjL ns i q us (jnK d B sg) (cM (X++Y) (jnK d B sg))):=by
 have ln:=im es;have an:=t6 f8 (vk f9 (vk ga (vk gb (vk gS gr))));clear f8 f9 ga gb gS gr;have la:bg.keys.length<=1000000:=by rw[da,y0];omega
 have a6:Hid _:=dd;have cm:=t6 a hu;obtain⟨b,rfl,cA,js,mp⟩:=dd.cells a;obtain⟨_,k4,_,gi,mm⟩:=dd.cells hu;clear k4;have h9:w.cell? ⟨g,0,none⟩=some (.slice (some ⟨b,0,none⟩) ns.length nc):=dd.blk.cell 0;have S:Hid ((ndI 0 us).kids.length=us.length/\(us.tail.map (·.1)).length+1=us.length):=by
  refine⟨by simp[ndI],?_⟩;simp;omega
 have eC:=bAl w (.cells (ndc (nv i) (ndI 0 us)).toArray 176);have kv:=aq w 176 (ndc (nv i) (ndI 0 us)).toArray;have hR:=js.below eC;have f3:=gi.below eC;have kU:(prog.info? 176).map (·.size)=some (ndc (nv i) (ndI 0 us)).length:=aD;go_enter func160,ntmps160;go_upto_region 1 with(first|(refine dG rfl 176 _ rfl b (i*6) rfl (ndc (nv i) (ndI 0 us)) _ cA underlying176 rfl kU ?_)|(refine bt rfl 176 _ _ rfl w (ndc aF nd0).toArray (ndc (nv i) (ndI 0 us)).toArray 176 rfl rfl aD rfl (cy _ _) ?_))
 change Code.wp _ _ _ _ (w.alloc (.cells (ndc (nv i) (ndI 0 us)).toArray 176));generalize w.alloc (.cells (ndc (nv i) (ndI 0 us)).toArray 176)=kX at*;have g1:Blk kX 176 w.1.size (ndc (nv i) (ndI 0 us)):=kv;clear kv h9 cA js gi;have d6:=bDr kX;have e4:=eC.trans (d6.mono eC.size);have db:=g1.below d6;have hE:=hR.below d6;have kJ:=f3.below d6;have bT:=dd.below e4;have bB:=db.cell 4;have cV:R1 3 kX.drew (nv i).da us.length (nv i).dc (on (us.map (·.2))):=by have:=hE.kids;rwa [show(ndI 0 us).kids.length=us.length from S.out.1]at this
 obtain⟨a5,fo,hr,e6⟩:=cV.get e9;rw[cF _ _ (by simpa using e9),fa]at e6;refine az (fun u=>u.cell? ⟨g,0,none⟩=some (.slice (some ⟨b,0,none⟩) ns.length nc)/\u.cell? ⟨w.1.size,4,none⟩=some (.slice (some ⟨a5,fo,none⟩) us.length (nv i).dc)/\u.cell? ⟨a5,fo+p,none⟩=some (.int .i64 (pc:Nat))/\(Instr.loadAt 176 (.pointer (some ⟨b,pc*6,none⟩))).run prog u= .ok (.agg (ndc (nv pc) bg).toArray) u) (fun k=>decide (12<=k)) uA ?_;clear d6 g1 hR f3 eC kU dd a hu bB;generalize kX.drew=dX at*;have bB:dX.cell? ⟨w.1.size,4,none⟩=some (.slice (some ⟨a5,fo,none⟩) us.length (nv i).dc):=by rw[<-hr,<-S.out.1];exact db.cell 4
 have cs:=vk (bT.blk.cell 0) (vk bB (vk e6 (bT.loadNd cm.out.2)));have F:a5<dX.1.size:=by
  obtain⟨hX,kA,bv,⟨f6,f7,eb⟩,_⟩:=cV.at_ t7;rw[hr]at bv;cases bv;exact(ws.1 eb).1
 refine ay 0 cs ?_;refine ay 1 cs ?_;refine ay 2 cs ?_;refine ay 3 cs ?_;refine ay 4 cs ?_;refine ay 5 cs ?_;refine ay 6 cs ?_;refine ay 7 cs ?_;refine ay 8 cs ?_;refine ay 9 cs ?_;refine aM 10 (.agg (ndc (nv pc) bg).toArray) cs ?hy10 ?_
 case hy10=>exact fun u ab=>bo (p:= .pointer (some ⟨b,pc*6,none⟩)) rfl rfl ab.2.2.2
 refine ah 11 fun c a=> ?_;go_wp2_with fail;have A:=bAl dX (.cells (ndc aF nd0).toArray 176);have bZ:=aq dX 176 (ndc aF nd0).toArray;have ad:=vk ((bT.below A).blk.cell 0) (vk (A.cell (p:=⟨w.1.size,4,none⟩) db.lt▸bB) (vk (A.cell (p:=⟨a5,fo+p,none⟩) F▸e6) ((bT.below A).loadNd cm.out.2)));refine ao a ?_ (fun _=>ad);clear a c ad;refine ah 12 fun c a=> ?_;refine bK (cs:=ndc (nv pc) bg) bZ rfl (eo _ _) aD rfl rfl rfl ?_;intro e1 hD kC;refine aU a ?_;clear a c bZ cs;have aA:=A.trans (kC.below t1 A.size);have hy:=db.below aA;have kG:=hE.below aA;have eL:=cV.below aA;have ea:=e4.trans (aA.mono e4.size);have lo:=(cE a6.out.nodes b (by simp[rb])).2;clear kC A aA db hE kJ cV e4 bT bB e6 hr F;generalize dX.1.size=ib at*;have hd:R1 9 e1 (nv i).sa (us.tail.map (·.1)).length (nv i).sc (os (us.tail.map (·.1))):=kG.signs;have hZ:e1.cell? ⟨ib,2,none⟩=some (.slice (nv pc).ka bg.keys.length (nv pc).kc):=hD.cell 2;have h0:e1.cell? ⟨ib,4,none⟩=some (.slice (nv pc).da bg.kids.length (nv pc).dc):=hD.cell 4;have e5:e1.cell? ⟨w.1.size,4,none⟩=some (.slice (nv i).da us.length (nv i).dc):=by rw[<-S.out.1];exact hy.cell 4
 have dU:=mD (a6.out.below ea) cm.out.2 es da gB aT j1 t7;obtain⟨mN,m0,c8,cp⟩:=eL.get e9;rw[cF _ _ (by simpa using e9),fa]at cp;rw[c8]at e5;have le:((bg.keys.length:Int)+(bg.kids.length:Int)==0)=false:=by rw[D0];omega
 have dk:=t6 hy (vk ea (vk c8 (vk eL hd)));have lc:¬(60:Int)<=(cM es bg:Int):=t7;generalize cM es bg=m2 at*;have lf:¬(us.length:Int)<2:=t7;have dl:=t6 cD (vk cL (vk hA (vk c9 gA)));have hL:Hid _:=kk;have m1:Hid _:=fa;clear hy kG hd ea hD eL c8 da gB ke fa cD cL gA kk;go_wp2_with fail;refine dU.mono ?_;rintro e e2 ⟨rfl,d1⟩;have hz:=dk.out.1.below d1;have fD:Hid _:=dk.out.2.1.trans (d1.mono dk.out.2.1.size);have fP:=t6 hz (dk.out.2.2.2.1.below d1);have h1:e2.cell? ⟨w.1.size,4,none⟩=some (.slice (nv i).da us.length (nv i).dc):=by rw[<-S.out.1];exact hz.cell 4
 clear dU e5 hZ h0 cp d1 dk hz;go_upto_if 81 with fail
 go_cut [2] (fun s fB=>s= .int .i64 ((q:Int)+1)/\fB=e2)
 case first=>
  by_cases kj:p=0
  ·subst kj;have dr:Hid (q=0):=by show q=0;have:=hL.out;omega
   go_wp2_with fail
   go_meet
   case rel=>exact⟨by rw[dr.out];rfl,rfl⟩
  ·have l1:¬(p:Int)=0:=t7;have dr:Hid ((q:Int)+1=(p:Int)):=by show _= _;have:=hL.out;omega
   go_wp2_with fail
   go_meet
   case rel=>exact⟨by rw[dr.out],rfl⟩
 case rest=>
 obtain⟨rfl,gG⟩:=hcut;obtain rfl:=gG.symm;clear gG h1;have b2:Hid _:=fD.out;have b4:Hid _:=fP.out;have cD:=dl.out.1;have cL:=dl.out.2.1;have hA:=dl.out.2.2.1;have c9:=dl.out.2.2.2.1;have l2:q<us.length:=t7;have mb:=(wA.1 hA).1;have md:=(wA.1 c9).1;go_wp2_with fail;have e7:=bDr e2;have cv:=b2.out.trans (e7.mono b2.out.size);have fn:=b4.out.1.below e7;have cW:=b4.out.2.below e7;have bX:=a6.out.below cv;obtain⟨bF,cP,hs,cq⟩:=cW.get (i:=q) t7;rw[cF _ _ (by rw[y0];omega),cD]at cq;refine az (fun u=>u.cell? ⟨g,0,none⟩=some (.slice (some ⟨b,0,none⟩) ns.length nc)/\u.cell? ⟨w.1.size,4,none⟩=some (.slice (some ⟨bF,cP,none⟩) us.length (nv i).dc)/\u.cell? ⟨bF,cP+(q),none⟩=some (.int .i64 (o:Nat))/\(Instr.loadAt 176 (.pointer (some ⟨b,o*6,none⟩))).run prog u= .ok (.agg (ndc (nv o) d).toArray) u) (fun k=>decide (13<=k)) uA ?_;clear e7;generalize e2.drew=dW at*;have cc:dW.cell? ⟨w.1.size,4,none⟩=some (.slice (some ⟨bF,cP,none⟩) us.length (nv i).dc):=by rw[<-hs,<-S.out.1];exact fn.cell 4
 have cs:=vk (bX.blk.cell 0) (vk cc (vk cq (bX.loadNd hA)));have F:bF<dW.1.size:=by
  obtain⟨hX,kA,bv,⟨f6,f7,eb⟩,_⟩:=cW.at_ t7;rw[hs]at bv;cases bv;exact(ws.1 eb).1
 refine ay 0 cs ?_;refine ay 1 cs ?_;refine ay 2 cs ?_;refine ay 3 cs ?_;refine ay 4 cs ?_;refine ay 5 cs ?_;refine ay 6 cs ?_;refine aM 7 (.int .i64 (q:Nat)) cs ?hsuba ?_
 case hsuba=>exact fun u _=>by go_simp;first|done|exact ll _ t7 t7
 refine ay 8 cs ?_;refine ay 9 cs ?_;refine ay 10 cs ?_;refine aM 11 (.agg (ndc (nv o) d).toArray) cs ?hlda ?_
 case hlda=>exact fun u ab=>bo (p:= .pointer (some ⟨b,o*6,none⟩)) rfl rfl ab.2.2.2
 refine ah 12 fun c a=> ?_;go_wp2_with fail;have A:=bAl dW (.cells (ndc aF nd0).toArray 176);have bZ:=aq dW 176 (ndc aF nd0).toArray;have ad:=vk ((bX.below A).blk.cell 0) (vk (A.cell (p:=⟨w.1.size,4,none⟩) fn.lt▸cc) (vk (A.cell (p:=⟨bF,cP+(q),none⟩) F▸cq) ((bX.below A).loadNd hA)));refine ao a ?_ (fun _=>ad);clear a c ad;refine ah 13 fun c a=> ?_;refine bK (cs:=ndc (nv o) d) bZ rfl (eo _ _) aD rfl rfl rfl ?_;intro hS et eB;refine aU a ?_;clear a c bZ cs;have a3:=A.trans (eB.below t1 A.size);have b5:=t6 (fn.below a3) (cW.below a3);have b3:Hid _:=cv.trans (a3.mono cv.size);have fV:Hid _:=et;clear cv fn cW bX hs cq cc F A eB a3 et fP fD;generalize j2:dW.1.size=Z at*;clear j2;have ko:(q:Int)+1< (us.length:Int):=t7;have kn:((q:Int)+1).toNat=q+1:=t7;have kp:(0:Int)<=(q:Int)+1:=t7;go_wp2_with fail;have d7:=bDr hS;have cz:=b3.out.trans (d7.mono b3.out.size);have a5:=b5.out.1.below d7;have cX:=b5.out.2.below d7;have bY:=a6.out.below cz;obtain⟨bP,cR,ht,cr⟩:=cX.get (i:=q+1) t7;rw[cF _ _ (by rw[y0];omega),cL]at cr;refine az (fun u=>u.cell? ⟨g,0,none⟩=some (.slice (some ⟨b,0,none⟩) ns.length nc)/\u.cell? ⟨w.1.size,4,none⟩=some (.slice (some ⟨bP,cR,none⟩) us.length (nv i).dc)/\u.cell? ⟨bP,cR+(q+1),none⟩=some (.int .i64 (n:Nat))/\(Instr.loadAt 176 (.pointer (some ⟨b,n*6,none⟩))).run prog u= .ok (.agg (ndc (nv n) B).toArray) u) (fun k=>decide (12<=k)) uA ?_;have fM:Hid _:=d7;clear d7;generalize hS.drew=c5 at*;have ce:c5.cell? ⟨w.1.size,4,none⟩=some (.slice (some ⟨bP,cR,none⟩) us.length (nv i).dc):=by rw[<-ht,<-S.out.1];exact a5.cell 4
 have cs:=vk (bY.blk.cell 0) (vk ce (vk cr (bY.loadNd c9)));have F:bP<c5.1.size:=by
  obtain⟨hX,kA,bv,⟨f6,f7,eb⟩,_⟩:=cX.at_ t7;rw[ht]at bv;cases bv;exact(ws.1 eb).1
 refine ay 0 cs ?_;refine ay 1 cs ?_;refine ay 2 cs ?_;refine ay 3 cs ?_;refine ay 4 cs ?_;refine ay 5 cs ?_;refine ay 6 cs ?_;refine ay 7 cs ?_;refine ay 8 cs ?_;refine ay 9 cs ?_;refine aM 10 (.agg (ndc (nv n) B).toArray) cs ?hldb ?_
 case hldb=>exact fun u ab=>bo (p:= .pointer (some ⟨b,n*6,none⟩)) rfl rfl ab.2.2.2
 refine ah 11 fun c a=> ?_;go_wp2_with fail;have A:=bAl c5 (.cells (ndc aF nd0).toArray 176);have bZ:=aq c5 176 (ndc aF nd0).toArray;have ad:=vk ((bY.below A).blk.cell 0) (vk (A.cell (p:=⟨w.1.size,4,none⟩) a5.lt▸ce) (vk (A.cell (p:=⟨bP,cR+(q+1),none⟩) F▸cr) ((bY.below A).loadNd c9)));refine ao a ?_ (fun _=>ad);clear a c ad;refine ah 12 fun c a=> ?_;refine bK (cs:=ndc (nv n) B) bZ rfl (eo _ _) aD rfl rfl rfl ?_;intro U et eB;refine aU a ?_;clear a c bZ cs;have a3:=A.trans (eB.below t1 A.size);have dp:=t6 (a5.below a3) (cX.below a3);have hg:Hid _:=cz.trans (a3.mono cz.size);have g0:=Blk.below fV.out fM.out;have ae:Hid (Below w.1.size w U/\Blk U 176 w.1.size (ndc (nv i) (ndI 0 us))/\Blk U 176 Z (ndc (nv o) d)/\Blk U 176 c5.1.size (ndc (nv n) B)):=⟨hg.out,dp.out.1,g0.below a3,et⟩;clear cz a5 cX bY ht cr ce F A eB a3 et b5 b3 b4 b2 dp fV g0 fM;generalize c5.1.size=ak at*;have h6:U.cell? ⟨Z,1,none⟩=some (.bool d.leaf):=ae.out.2.2.1.cell 1;go_upto_region 15 with(first|(refine Ak rfl _ _ rfl (by simp only[wz,wg,wv];exact FU d.leaf) ?_)|(refine bt rfl 176 _ _ rfl U (ndc aF nd0).toArray (ndc aF ⟨0,d.leaf,[],[],[],[]⟩).toArray 176 rfl rfl aD rfl (cy _ _) ?_))
 have bC:=(BX U.1.size U).alloc t1 (.cells (ndc aF ⟨0,d.leaf,[],[],[],[]⟩).toArray 176);have c3:=(a6.out.below ae.out.1);have hN:Hid (JSt w (U.alloc (.cells (ndc aF ⟨0,d.leaf,[],[],[],[]⟩).toArray 176)) w.1.size Z ak U.1.size (nv i) (nv o) (nv n) (ndI 0 us) d B (ndc aF ⟨0,d.leaf,[],[],[],[]⟩)):=by
  obtain⟨_,_,_,hv,_⟩:=c3.cells cm.out.1;obtain⟨_,_,_,bc,_⟩:=c3.cells hA;obtain⟨_,_,_,a4,_⟩:=c3.cells c9;exact⟨ae.out.1.trans (bC.mono ae.out.1.size),ae.out.2.1.below bC,ae.out.2.2.1.below bC,ae.out.2.2.2.below bC,aq U _ _,hv.below bC,bc.below bC,a4.below bC,ae.out.1.size,(by have:=ae.out.2.1.lt;omega),(by have:=ae.out.2.2.1.lt;omega),(by have:=ae.out.2.2.2.lt;omega)⟩
 change Code.wp _ _ _ _ (U.alloc (.cells (ndc aF ⟨0,d.leaf,[],[],[],[]⟩).toArray 176));clear bC c3 h6 ae;generalize U.alloc (.cells (ndc aF ⟨0,d.leaf,[],[],[],[]⟩).toArray 176)=hT at*;generalize U.1.size=f at*;clear kp kn ko;have N:=bDr hT;have m:=hN.out.below N;refine az (fun u=>u.cell? ⟨f,2,none⟩=some (.slice none 0 0)/\u.cell? ⟨Z,2,none⟩=some (.slice (nv o).ka d.keys.length (nv o).kc)/\u.cell? ⟨ak,2,none⟩=some (.slice (nv n).ka B.keys.length (nv n).kc)) (fun k=>decide (8<=k)) uA ?_;clear N;generalize hT.drew=y at*;have cs:y.cell? ⟨f,2,none⟩=some (.slice none 0 0)/\y.cell? ⟨Z,2,none⟩=some (.slice (nv o).ka d.keys.length (nv o).kc)/\y.cell? ⟨ak,2,none⟩=some (.slice (nv n).ka B.keys.length (nv n).kc):=⟨m.kj.cell 2,m.ka.cell 2,m.kb.cell 2⟩;refine au 0 cs ?_;refine au 1 cs ?_;refine au 2 cs ?_;refine au 3 cs ?_;refine au 5 cs ?_;refine au 6 cs ?_;refine ah 4 fun c a=> ?_;refine iN _ _ bM rfl rfl (cQ 9 y.1.size y) rfl m.rA.keys t7 t7 t1 ?_;intro hW ia b7 P C bz;rw[wB,xb]at P;rw[wB];have r:=m.below C;refine a.out _ _ (fun _=>⟨r.kj.cell 2,r.ka.cell 2,r.kb.cell 2⟩) ?_;clear a c;refine ah 7 fun c a=> ?_;refine iN _ _ bM rfl rfl P rfl r.rB.keys t7 t7 C.size ?_;intro G J Q bS bs d8;have M:=C.trans bs;have l:=m.below M;have W:=l.kj.cell 2;have bx:=l.kj.free 2;refine a.out _ _ (fun _=>⟨W,l.ka.cell 2,l.kb.cell 2⟩) ?_;clear a c;refine ah 8 fun c a=> ?_;go_wp2_with fail;refine ao a ?_ (fun h=>absurd h uv);clear a c;refine ah 9 fun c a=> ?_;have bu:Q.cell? ⟨f,2,none⟩=some (.slice none 0 0):=W;go_wp2_with fail;refine aU a ?_ (fun h=>absurd h uv);clear a c;obtain⟨ac,z⟩:=l.set 2 (.slice G (d.keys.length+B.keys.length) J);have hO:Hid _:=ac;have b6:Hid (R1 9 (Q.setCell ⟨f,2,none⟩ (.slice G (d.keys.length+B.keys.length) J)) G (d.keys.length+B.keys.length) J (os d.keys++os B.keys)):=(bS.r1 (fun u bd=>by rcases w4.1 bd with h|h;exact dR _ u h;exact dR _ u h)).keep (z _ uv);clear ac z bS bs d8 M l r m P C bz W bx bu cs;generalize Q.setCell ⟨f,2,none⟩ (.slice G (d.keys.length+B.keys.length) J)=hU at*;go_upto_region 16 with fail
 have N:=bDr hU;have m:=hO.out.below N;have bn:=b6.out.below N;refine az (fun u=>u.cell? ⟨f,3,none⟩=some (.slice none 0 0)/\u.cell? ⟨Z,3,none⟩=some (.slice (nv o).va d.vals.length (nv o).vc)/\u.cell? ⟨ak,3,none⟩=some (.slice (nv n).va B.vals.length (nv n).vc)) (fun k=>decide (8<=k)) uA ?_;clear N;generalize hU.drew=y at*;have cs:y.cell? ⟨f,3,none⟩=some (.slice none 0 0)/\y.cell? ⟨Z,3,none⟩=some (.slice (nv o).va d.vals.length (nv o).vc)/\y.cell? ⟨ak,3,none⟩=some (.slice (nv n).va B.vals.length (nv n).vc):=⟨m.kj.cell 3,m.ka.cell 3,m.kb.cell 3⟩;refine au 0 cs ?_;refine au 1 cs ?_;refine au 2 cs ?_;refine au 3 cs ?_;refine au 5 cs ?_;refine au 6 cs ?_;refine ah 4 fun c a=> ?_;refine iN _ _ bM rfl rfl (cQ 9 y.1.size y) rfl m.rA.vals t7 t7 t1 ?_;intro hW ia b7 P C bz;rw[wB,xb]at P;rw[wB];have r:=m.below C;refine a.out _ _ (fun _=>⟨r.kj.cell 3,r.ka.cell 3,r.kb.cell 3⟩) ?_;clear a c;refine ah 7 fun c a=> ?_;refine iN _ _ bM rfl rfl P rfl r.rB.vals t7 t7 C.size ?_;intro H K Q bS bs d8;have M:=C.trans bs;have l:=m.below M;have W:=l.kj.cell 3;have bx:=l.kj.free 3;refine a.out _ _ (fun _=>⟨W,l.ka.cell 3,l.kb.cell 3⟩) ?_;clear a c;refine ah 8 fun c a=> ?_;go_wp2_with fail;refine ao a ?_ (fun h=>absurd h uv);clear a c;refine ah 9 fun c a=> ?_;have bu:Q.cell? ⟨f,3,none⟩=some (.slice none 0 0):=W;go_wp2_with fail;refine aU a ?_ (fun h=>absurd h uv);clear a c;obtain⟨ac,z⟩:=l.set 3 (.slice H (d.vals.length+B.vals.length) K);have hP:Hid _:=ac;have dP:Hid (R1 9 (Q.setCell ⟨f,3,none⟩ (.slice H (d.vals.length+B.vals.length) K)) H (d.vals.length+B.vals.length) K (os d.vals++os B.vals)):=(bS.r1 (fun u bd=>by rcases w4.1 bd with h|h;exact dR _ u h;exact dR _ u h)).keep (z _ uv);replace b6:Hid _:=(bn.below M).keep (z _ uv);clear ac z bS bs d8 M l r m P C bz W bx bu cs;generalize Q.setCell ⟨f,3,none⟩ (.slice H (d.vals.length+B.vals.length) K)=hV at*;clear bn;go_upto_region 17 with fail
 have N:=bDr hV;have m:=hP.out.below N;have bn:=b6.out.below N;have f4:=dP.out.below N;refine az (fun u=>u.cell? ⟨f,4,none⟩=some (.slice none 0 0)/\u.cell? ⟨Z,4,none⟩=some (.slice (nv o).da d.kids.length (nv o).dc)/\u.cell? ⟨ak,4,none⟩=some (.slice (nv n).da B.kids.length (nv n).dc)) (fun k=>decide (8<=k)) uA ?_;clear N;generalize hV.drew=y at*;have cs:y.cell? ⟨f,4,none⟩=some (.slice none 0 0)/\y.cell? ⟨Z,4,none⟩=some (.slice (nv o).da d.kids.length (nv o).dc)/\y.cell? ⟨ak,4,none⟩=some (.slice (nv n).da B.kids.length (nv n).dc):=⟨m.kj.cell 4,m.ka.cell 4,m.kb.cell 4⟩;refine au 0 cs ?_;refine au 1 cs ?_;refine au 2 cs ?_;refine au 3 cs ?_;refine au 5 cs ?_;refine au 6 cs ?_;refine ah 4 fun c a=> ?_;refine iN _ _ co rfl rfl (cQ 3 y.1.size y) rfl m.rA.kids t7 t7 t1 ?_;intro hW ia b7 P C bz;rw[wB,xb]at P;rw[wB];have r:=m.below C;refine a.out _ _ (fun _=>⟨r.kj.cell 4,r.ka.cell 4,r.kb.cell 4⟩) ?_;clear a c;refine ah 7 fun c a=> ?_;refine iN _ _ co rfl rfl P rfl r.rB.kids t7 t7 C.size ?_;intro I L Q bS bs d8;have M:=C.trans bs;have l:=m.below M;have W:=l.kj.cell 4;have bx:=l.kj.free 4;refine a.out _ _ (fun _=>⟨W,l.ka.cell 4,l.kb.cell 4⟩) ?_;clear a c;refine ah 8 fun c a=> ?_;go_wp2_with fail;refine ao a ?_ (fun h=>absurd h uv);clear a c;refine ah 9 fun c a=> ?_;have bu:Q.cell? ⟨f,4,none⟩=some (.slice none 0 0):=W;go_wp2_with fail;refine aU a ?_ (fun h=>absurd h uv);clear a c;obtain⟨ac,z⟩:=l.set 4 (.slice I (d.kids.length+B.kids.length) L);have bm:Hid _:=ac;have hl:Hid (R1 3 (Q.setCell ⟨f,4,none⟩ (.slice I (d.kids.length+B.kids.length) L)) I (d.kids.length+B.kids.length) L (on d.kids++on B.kids)):=(bS.r1 (fun u bd=>by rcases w4.1 bd with h|h;exact fw _ u h;exact fw _ u h)).keep (z _ uv);replace b6:Hid _:=(bn.below M).keep (z _ uv);replace dP:Hid _:=(f4.below M).keep (z _ uv);clear ac z bS bs d8 M l r m P C bz W bx bu cs;generalize Q.setCell ⟨f,4,none⟩ (.slice I (d.kids.length+B.kids.length) L)=br at*;clear bn;clear f4;have h7:br.cell? ⟨f,5,none⟩=some (.slice none 0 0):=bm.out.kj.cell 5;have h8:br.cell? ⟨Z,5,none⟩=some (.slice (nv o).sa d.signs.length (nv o).sc):=bm.out.ka.cell 5;have ha:=bm.out.rA.signs;go_upto_region 19 with(at_builtin;refine ir bM (cQ 9 br.1.size br) ha t7 t7 t1 rfl rfl rfl rfl ?_)
 intro af ag b7 kD c7 k6;have fc:=bm.out.below c7;have W:b7.cell? ⟨f,5,none⟩=some (.slice none 0 0):=fc.kj.cell 5;have bx:=fc.kj.free 5;obtain⟨ac,z⟩:=fc.set 5 (.slice af d.signs.length ag);have eV:Hid _:=ac;have dI:Hid _:=(b6.out.below c7).keep (z _ uv);have dS:Hid _:=(dP.out.below c7).keep (z _ uv);have dE:Hid _:=(hl.out.below c7).keep (z _ uv);have dD:Hid _:=kD.keep (z _ uv);have f2:Hid (br.1.size<=(b7.setCell ⟨f,5,none⟩ (.slice af d.signs.length ag)).1.size):=by have bc:=c7.size;have a4:=(ax b7 f 5 (.slice af d.signs.length ag)).size;show _<=_;omega
 clear ac z fc kD c7 k6 h7 h8 ha;go_upto_region 19 with fail
 clear W bx;generalize b7.setCell ⟨f,5,none⟩ (.slice af d.signs.length ag)=c6 at*;have hq:c6.cell? ⟨Z,1,none⟩=some (.bool d.leaf):=eV.out.ka.cell 1;go_upto_if 143 with fail
 go_cut [] (fun fB=> ∃R,JSt w fB w.1.size Z ak f (nv i) (nv o) (nv n) (ndI 0 us) d B (ndc R (jnK d B sg))/\RNd fB R (jnK d B sg))
 case first=>
  cases aS:d.leaf with
  |true=>
   rw[aS]at hq;have a8:Hid (JSt w c6 w.1.size Z ak f (nv i) (nv o) (nv n) (ndI 0 us) d B (ndc ⟨G,J,H,K,I,L,af,ag⟩ (jnK d B sg))/\RNd c6 ⟨G,J,H,K,I,L,af,ag⟩ (jnK d B sg)):=by
    refine⟨?_,?_,?_,?_,?_⟩
    ·have:=eV.out;have e:ndc ⟨G,J,H,K,I,L,af,ag⟩ (jnK d B sg)=[.int .i64 0,.bool d.leaf,.slice G (d.keys.length+B.keys.length) J,.slice H (d.vals.length+B.vals.length) K,.slice I (d.kids.length+B.kids.length) L,.slice af d.signs.length ag]:=by simp[ndc,jnK,aS]
     rw[e];exact this
    ·have:=dI.out;simp only[jnK,v7];rwa [jm]at this
    ·have:=dS.out;simp only[jnK,v7];rwa [jm]at this
    ·have:=dE.out;simp only[jnK,v7];rwa [fv]at this
    ·have:=Own1.r1 dD.out (dR _);simp only[jnK,aS,if_true];exact this
   clear aS;go_wp2_with fail
   go_meet
   case rel=>exact⟨_,a8.out⟩
  |false=>
   rw[aS]at hq;have hK:Hid _:=aS;clear aS;go_upto_region 20 with fail
   have N:=bDr c6;have m:=eV.out.below N;have kF:=Own1.below dD.out N;have kT:=m.rN.signs;have a7:q< (us.tail.map (·.1)).length:=by have:=S.out.2;omega
   obtain⟨c0,c1,c8,cp⟩:=kT.get (i:=q) a7;have hi:Hid (br.1.size<=c6.drew.1.size):=f2.out;have dF:=t6 (dI.out.below N) (vk (dS.out.below N) (dE.out.below N));refine az (fun u=>u.cell? ⟨f,5,none⟩=some (.slice af d.signs.length ag)/\u.cell? ⟨w.1.size,5,none⟩=some (.slice (some ⟨c0,c1,none⟩) (us.tail.map (·.1)).length (nv i).sc)/\u.cell? ⟨c0,c1+q,none⟩=some (.string sg)/\u.cell? ⟨ak,5,none⟩=some (.slice (nv n).sa B.signs.length (nv n).sc)) (fun k=>decide (13<=k)) uA ?_;clear N cp;generalize c6.drew=y at*;have eU:Hid (∀u,Below br.1.size y u->u.cell? ⟨f,5,none⟩=some (.slice af d.signs.length ag)/\u.cell? ⟨w.1.size,5,none⟩=some (.slice (some ⟨c0,c1,none⟩) (us.tail.map (·.1)).length (nv i).sc)/\u.cell? ⟨c0,c1+q,none⟩=some (.string sg)/\u.cell? ⟨ak,5,none⟩=some (.slice (nv n).sa B.signs.length (nv n).sc)):=fun u bd=>by
    have fl:=bm.out.keepB m bd;refine⟨fl.kj.cell 5,?_,?_,fl.kb.cell 5⟩
    ·rw[<-c8];exact fl.kn.cell 5
    ·obtain⟨d1,m7,k3,k8⟩:=fl.rN.signs.get (i:=q) a7;have i1:=c8.symm.trans k3;cases i1;rw[k8];show some ((os (us.tail.map (·.1))).getD q undef)= _;rw[eh _ _ a7];exact CV (fun x=>some (Value.string x)) dl.out.2.2.2.2
   have cs:=eU.out y t2;have lb:(q:Int)< ((us.tail.map (·.1)).length:Int):=t7;generalize (us.tail.map (·.1)).length=sl at*;refine ay 0 cs ?_;refine ay 1 cs ?_;refine ay 2 cs ?_;refine ay 3 cs ?_;refine ay 4 cs ?_;refine aM 5 (.int .i64 (q:Nat)) cs ?hsb5 ?_
   case hsb5=>exact fun u _=>by go_simp;first|done|exact ll _ t7 t7
   refine ay 6 cs ?_;refine ay 7 cs ?_;refine ay 10 cs ?_;refine ay 11 cs ?_;refine ah 8 fun c a=> ?_;refine bU _ _ _ rfl (v:= .slice (some ⟨y.1.size,0,none⟩) 1 1) (w':=y.alloc (.cells #[.string sg] 9)) ?bs8 ?_
   case bs8=>
    simp only[wz,wg,wv];exact ey bM (.string sg) rfl y
   refine a.out _ _ (fun _=>eU.out _ (t2.alloc hi.out _)) ?_;clear a c;refine ah 9 fun c a=> ?_;refine tN _ _ bM rfl br.1.size af d.signs.length ag (os d.signs) rfl kF (.string sg) rfl rfl t7 t7 hi.out ?_;intro m4 m5 m3 cg d2 k5;refine a.out _ _ (fun _=>eU.out _ d2) ?_;clear a c k5;have hb:=(bm.out.keepB m d2).rB.signs;refine ah 12 fun c a=> ?_;refine iN _ _ bM rfl rfl cg rfl hb t7 t7 (wa hi.out d2.size) ?_;intro b8 ca ho kE hY k7;have M:=d2.trans hY;refine a.out _ _ (fun _=>eU.out _ M) ?_;clear a c k7;have fd:=bm.out.keepB m M;have W:ho.cell? ⟨f,5,none⟩=some (.slice af d.signs.length ag):=fd.kj.cell 5;have bx:=fd.kj.free 5;obtain⟨ac,z⟩:=fd.set 5 (.slice b8 (d.signs.length+1+B.signs.length) ca);have a8:Hid (JSt w (ho.setCell ⟨f,5,none⟩ (.slice b8 (d.signs.length+1+B.signs.length) ca)) w.1.size Z ak f (nv i) (nv o) (nv n) (ndI 0 us) d B (ndc ⟨G,J,H,K,I,L,b8,ca⟩ (jnK d B sg))/\RNd (ho.setCell ⟨f,5,none⟩ (.slice b8 (d.signs.length+1+B.signs.length) ca)) ⟨G,J,H,K,I,L,b8,ca⟩ (jnK d B sg)):=by
    have ju:(jnK d B sg).signs=d.signs++sg::B.signs:=by simp only[jnK];rw[hK.out];rfl
    have gm:(jnK d B sg).signs.length=d.signs.length+1+B.signs.length:=by rw[ju];simp;omega
    refine⟨?_,?_,?_,?_,?_⟩
    ·have e:ndc ⟨G,J,H,K,I,L,b8,ca⟩ (jnK d B sg)=[.int .i64 0,.bool d.leaf,.slice G (d.keys.length+B.keys.length) J,.slice H (d.vals.length+B.vals.length) K,.slice I (d.kids.length+B.kids.length) L,.slice b8 (d.signs.length+1+B.signs.length) ca]:=by
      unfold ndc;rw[gm];simp[jnK]
     rw[e];exact ac
    ·have:=(b6.out.keepB dF.out.1 M).keep (z _ uv);simp only[jnK,v7];rwa [jm]at this
    ·have:=(dP.out.keepB dF.out.2.1 M).keep (z _ uv);simp only[jnK,v7];rwa [jm]at this
    ·have:=(hl.out.keepB dF.out.2.2 M).keep (z _ uv);simp only[jnK,v7];rwa [fv]at this
    ·have h:=kE.keep (z _ uv);rw[gm,ju];have e:os d.signs++[Value.string sg]++os B.signs=os (d.signs++sg::B.signs):=by simp[os]
     rw[e]at h;exact Own1.r1 h (dR _)
   clear ac z fd kE hY M cg d2 hb m kF kT;refine ah 13 fun c a=> ?_;go_wp2_with fail;refine ao a ?_ (fun h=>absurd h uv);clear a c;refine ah 14 fun c a=> ?_;go_wp2_with fail;refine aU a ?_ (fun h=>absurd h uv);clear a c;go_wp2_with fail
   go_meet
   case rel=>exact⟨_,a8.out⟩
 case rest=>
 obtain⟨R,d9,kN⟩:=hcut;obtain⟨lk,kr⟩:=aa wc;subst kr;have ck:Hid ((jnK d B sg).keys=(X++Y).map (·.1)/\(jnK d B sg).vals=(X++Y).map (·.2)/\lSz (X++Y)<=1000000/\aH (jnK d B sg).signs<=1000000):=⟨by simp only[jnK];rw[an.out.1,an.out.2.2.1,z8],by simp only[jnK];rw[an.out.2.1,an.out.2.2.2.1,z8],an.out.2.2.2.2.1,an.out.2.2.2.2.2⟩;have cl:Hid _:=(rfl:jnK d B sg=jnK d B sg);generalize gc:jnK d B sg=D at*;clear cl;have cl:Hid _:=gc;have stV:=a6.out.below d9.hb;have kt:=d9.kj;have c4:Hid _:=d9;have ls:=d9.le;clear b6 dP hl dI dS dE dD f2 eV bm hP hO hN hq d9 gc an kb kc aT j1 jT;have hw:(some ⟨b,0,none⟩:Option Addr)≠some ⟨f,0,none⟩:=fun e=>by cases e;omega
 have cn:Hid (∀(u:World)(k:Nat)(v:NdV)(hG:NdK),Blk u 176 k (ndc v hG)->(Instr.loadAt 176 (.pointer (some ⟨k,0,none⟩))).run prog u= .ok (.agg (ndc v hG).toArray) u):=fun u k v hG bd=>jI u k v hG bd;go_wp2_with fail;have d4:=bDr lk;have bW:=stV.below d4;have fm:=kt.below d4;have kR:=kN.below d4;refine az (fun u=>u.cell? ⟨g,0,none⟩=some (.slice (some ⟨b,0,none⟩) ns.length nc)/\(Instr.loadAt 176 (.pointer (some ⟨f,0,none⟩))).run prog u= .ok (.agg (ndc R D).toArray) u) (fun k=>decide (8<=k)) uA ?_;generalize lk.drew=a2 at*;have cs:a2.cell? ⟨g,0,none⟩=some (.slice (some ⟨b,0,none⟩) ns.length nc)/\(Instr.loadAt 176 (.pointer (some ⟨f,0,none⟩))).run prog a2= .ok (.agg (ndc R D).toArray) a2:=⟨bW.blk.cell 0,cn.out _ _ _ _ fm⟩;have ft:=bAl a2 (.cells (ndc R D).toArray 176);have i0:(a2.alloc (.cells (ndc R D).toArray 176)).cell? ⟨g,0,none⟩=some (.slice (some ⟨b,0,none⟩) ns.length nc)/\(Instr.loadAt 176 (.pointer (some ⟨f,0,none⟩))).run prog (a2.alloc (.cells (ndc R D).toArray 176))= .ok (.agg (ndc R D).toArray) (a2.alloc (.cells (ndc R D).toArray 176)):=⟨(bW.below ft).blk.cell 0,cn.out _ _ _ _ (fm.below ft)⟩;have am:Hid _:=d4;have E:=t6 bW (vk kR (fm.below ft));have jq:=bW.gB;clear d4 bW kR fm ft;refine aj 0 cs ?_;refine aj 1 cs ?_;refine aj 2 cs ?_;refine aj 3 cs ?_;refine aj 4 cs ?_;refine aM 5 (.agg (ndc R D).toArray) cs ?hyp5 ?_
 case hyp5=>exact fun u ab=>bo (p:= .pointer (some ⟨f,0,none⟩)) rfl rfl ab.2
 refine ah 6 fun c a=> ?_;refine bU _ _ _ rfl (v:= .slice (some ⟨a2.1.size,0,none⟩) 1 1) (w':=(a2.alloc (.cells (ndc R D).toArray 176))) ?bsp ?_
 case bsp=>
  simp only[wz,wg,wv];exact fq eY t7 (.agg (ndc R D).toArray) (ndc R D) rfl rfl a2
 refine ao a ?_;clear a c;refine ah 7 fun c a=> ?_;refine gW _ _ eY rfl B0 (some ⟨b,0,none⟩) ns.length nc (cd nv ns) rfl E.out.1.nodes (ndc R D) rfl (eo _ _) rfl t7 t7 jq ?_;intro aB b9 a1 ex ba bA f5;have bE:Blk a1 176 f (ndc R D):=(bA.block f E.out.2.2.lt (rK E.out.1.nodes hw).symm).trans E.out.2.2;have aX:Blk a1 116 g _:=E.out.1.blk.keepT ((aV (bAl _ _)).trans (bD (bQ E.out.1.nodes (bAl _ _)) bA uv));have d3:a1.cell? ⟨g,0,none⟩=some (.slice (some ⟨b,0,none⟩) ns.length nc):=aX.cell 0;refine a.out _ _ (fun _=>⟨d3,cn.out _ _ _ _ bE⟩) ?_;clear a c;have hf:=E.out.1.push E.out.2.1 ex ba bA;have i5:=UFr.push (u:= .slice (some ⟨aB,0,none⟩) (ns.length+1) b9) E.out.1 bA;have g7:=ax a1 g 0 (.slice (some ⟨aB,0,none⟩) (ns.length+1) b9);have g2:=bE.only g7 (fun e=>by have:=aX;rw[<-e]at this;unfold Blk at this bE;rw[bE]at this;cases this);have jj:=aX.free 0;have bk:=t6 hf (vk i5 (vk f5 g2));clear hf i5 aX ex ba bA f5 i0 bE g2 g7;refine ah 8 fun c a=> ?_;go_wp2_with fail;refine ao a ?_;clear a c;refine ah 9 fun c a=> ?_;go_wp2_with fail;refine ao a ?_;clear a c;refine ah 10 fun c a=> ?_;go_wp2_with fail;refine aU a ?_;clear a c d3 jj cs;have c2:=bk.out.1;have cf:=(c4.out.kn.below am.out);have g4:=cf.onlyS bk.out.2.1 (fun aT=>by
  rcases aT with aT|aT
  ·have bc:=E.out.1.blk;rw[<-aT]at bc;have a4:=cf;unfold Blk at bc a4;rw[a4]at bc;cases bc
  ·cases aT;omega)
 have hc:=c4.out.rN.keep ((aV am.out).trans (E.out.1.keepT bk.out.2.1 uv uv)) ((aV am.out).trans (E.out.1.keepT bk.out.2.1 uv uv));have i6:UFr g (some ⟨b,0,none⟩) w (a1.setCell ⟨g,0,none⟩ (.slice (some ⟨aB,0,none⟩) (ns.length+1) b9)):=(OnlyS.ofBelow c4.out.hb).trans ((OnlyS.ofBelow am.out).trans bk.out.2.1);have gw:(some ⟨aB,0,none⟩:Option Addr)=some ⟨b,0,none⟩\/∃k,(some ⟨aB,0,none⟩:Option Addr)=some ⟨k,0,none⟩/\w.1.size<=k:=by
  rcases bk.out.2.2.1 with e|e
  ·exact vR e.symm
  ·refine vJ ⟨aB,rfl,?_⟩;have bc:=c4.out.hb.size;have a4:=am.out.size;omega
 have ek:aB≠w.1.size:=by
  rcases bk.out.2.2.1 with e|e
  ·cases e;omega
  ·have bc:=c4.out.kn.lt;have a4:=am.out.size;omega
 have b1:=t6 g4 (vk hc (vk i6 (vk gw ek)));clear g4 hc i6 gw ek cf;generalize a1.setCell ⟨g,0,none⟩ (.slice (some ⟨aB,0,none⟩) (ns.length+1) b9)=hG at*;have d3:hG.cell? ⟨g,0,none⟩=some (.slice (some ⟨aB,0,none⟩) (ns++[D]).length b9):=c2.blk.cell 0;rw[v7,x9]at d3;have gs:(ns++[D])[ns.length]?=some D:=by simp
 have dU:=mD c2 gs (X++Y) ck.out.1 ck.out.2.1 ck.out.2.2.1 ck.out.2.2.2 (by simp;omega);have fZ:Hid _:=c2;generalize gj:cM (X++Y) D=dV at*;have f0:Hid _:=gj;clear gj;clear c2 E bk am kN kt stV c4;go_wp2_with fail;refine dU.mono ?_;rintro e Q ⟨rfl,aA⟩;clear dU d3;have O:=t6 (fZ.out.below aA) (vk (b1.out.1.below aA) (vk (b1.out.2.1.below aA) (b1.out.2.2.1.trans (OnlyS.ofBelow aA))));clear aA;by_cases cb:240<dV
 ·have e8:¬(dV:Int)<=240:=t7;have hh:Hid _:=cb;go_wp2_with fail;refine B1 (results_none rfl _ _ _) rfl ?_;rw[cl.out,f0.out,mjL,B2 hh.out];exact⟨rfl,O.out.1.uq O.out.2.2.2 b1.out.2.2.2.1⟩
 ·have e8:(dV:Int)<=240:=t7;have hh:Hid _:=cb;clear cb;have kS:R1 3 Q (nv i).da us.length (nv i).dc (on (us.map (·.2))):=by have:=O.out.2.2.1.kids;rwa [show(ndI 0 us).kids.length=us.length from S.out.1]at this
  have hj:=wh _ _ _ _ (q+1) 0 Q kS em t7;have km:Hid (((q+1:Nat):Int)=(q:Int)+1):=by show _= _;omega
  rw[km.out]at hj;have e5:Q.cell? ⟨w.1.size,4,none⟩=some (.slice (nv i).da us.length (nv i).dc):=by rw[<-S.out.1];exact O.out.2.1.cell 4
  obtain⟨gt,gv⟩:=FT em (us.getD q (strOfNums [],0)).1 (ns.length:Int);generalize gn:(us.set q ((us.getD q (strOfNums [],0)).1,(ns.length:Int))).eraseIdx (q+1)=ap at*;have bl:=t6 gt (vk gv gn);clear kS gt gv gn;go_wp2_with fail;refine hj.mono ?_;rintro e hF ⟨hp,bb,rfl,e3,kB⟩;have dc:=O.out.2.1.below e3;have h2:hF.cell? ⟨w.1.size,4,none⟩=some (.slice (nv i).da (ndI 0 us).kids.length (nv i).dc):=dc.cell 4;have i3:=dc.free 4;have fs:=ax hF w.1.size 4 (.slice hp (us.length-1) bb);have hB:=dc.set 4 (.slice hp (us.length-1) bb);have g5:=aw (t:=9) fs dc uv;have ev:=aw (t:=3) fs dc uv;have a0:=(Below.onlyB e3 w.1.size).trans fs;have bf:=kB.keep ev;have fz:=(O.out.2.2.1.below e3).keep g5 ev;clear hj kB e3 dc fs g5 ev e5;go_upto_region 25 with fail
  clear h2 i3;generalize hF.setCell ⟨w.1.size,4,none⟩ (.slice hp (us.length-1) bb)=eR at*;obtain⟨T,rfl,ka,F,⟨k2,cB⟩,gp⟩:=Own1.at_ bf t7;have h3:eR.cell? ⟨w.1.size,4,none⟩=some (.slice (some ⟨T,0,none⟩) (us.length-1) bb):=hB.cell 4;have ic:=gp q t7;have jh:=Own1.free bf q;have bR:=ax eR T q (.int .i64 (ns.length:Int));have ch:=Own1.set bf q (.int .i64 (ns.length:Int));rw[tS]at ch;have kg:T≠w.1.size:=by have:=O.out.2.1.lt;omega
  have ks:=hB.only bR (D7 kg);have cS:=cx (t:=9) bR cB uv;have he:R1 9 (eR.setCell ⟨T,q,none⟩ (.int .i64 (ns.length:Int))) (nv i).sa (us.tail.map (·.1)).length (nv i).sc (os (us.tail.map (·.1))):=fz.signs.keep cS;have eM:=vk (fz.keys.keep cS) (fz.vals.keep cS);have g8:OnlyB w.1.size Q (eR.setCell ⟨T,q,none⟩ (.int .i64 (ns.length:Int))):=⟨bR.os.trans a0.os,bR.tape.trans a0.tape,bR.output.trans a0.output,wa a0.size bR.size,fun k da hv=>(bR.block k (wE da a0.size) t7).trans (a0.block k da hv)⟩;have l3:(q:Int)< ((us.length-1:Nat):Int):=t7;have b0:=t6 ks (vk ch (vk he (vk eM g8)));clear bf fz a0 gp cB bR ch ks cS he eM g8 hB ka;go_upto_region 26 with fail
  clear h3 ic jh;generalize eR.setCell ⟨T,q,none⟩ (.int .i64 (ns.length:Int))=kV at*;generalize a7:(us.tail.map (·.1)).length=sl at*;have ds:Hid _:=a7;have eq:=S.out.2;have en:q<sl:=t7;have hM:Hid _:=eq;clear a7 eq;have h4:kV.cell? ⟨w.1.size,5,none⟩=some (.slice (nv i).sa sl (nv i).sc):=by rw[<-ds.out];exact b0.out.1.cell 5
  have hQ:=kz _ _ _ _ q kV b0.out.2.2.1 en (by have:=hM.out;omega);go_wp2_with fail;refine hQ.mono ?_;rintro e a1 ⟨a9,V,rfl,ba,ex⟩;have aX:=b0.out.1.below ba;have h5:a1.cell? ⟨w.1.size,5,none⟩=some (.slice (nv i).sa (ndI 0 us).signs.length (nv i).sc):=aX.cell 5;have i4:=aX.free 5;have cg:=ax a1 w.1.size 5 (.slice a9 (sl-1) V);have hC:=aX.set 5 (.slice a9 (sl-1) V);have cT:=aw (t:=9) cg aX uv;have g3:=aw (t:=3) cg aX uv;have ef:(ap.map (·.2)).length=us.length-1:=by rw[bl.out.1,BB,ky (by rw[y0];exact em),y0]
  have ej:(ap.tail.map (·.1)).length=sl-1:=by rw[bl.out.2.1,ky (by rw[ds.out];exact en),ds.out]
  have i2:((ndc (nv i) (ndI 0 us)).set 4 (.slice (some ⟨T,0,none⟩) (us.length-1) bb)).set 5 (.slice a9 (sl-1) V)=ndc ⟨(nv i).ka,(nv i).kc,(nv i).va,(nv i).vc,some ⟨T,0,none⟩,bb,a9,V⟩ (ndI 0 ap):=by
   show [_,_,_,_,_,_]=[_,_,_,_,Value.slice _ (ap.map (·.2)).length bb,Value.slice a9 (ap.tail.map (·.1)).length V];rw[ef,ej]
   rfl
  rw[i2]at hC;have kH:RNd (a1.setCell ⟨w.1.size,5,none⟩ (.slice a9 (sl-1) V)) ⟨(nv i).ka,(nv i).kc,(nv i).va,(nv i).vc,some ⟨T,0,none⟩,bb,a9,V⟩ (ndI 0 ap):=by
   have a4:=(ex.r1 (dR _)).keep cT;have jk:=(Own1.r1 (Own1.below b0.out.2.1 ba) (fw _)).keep g3;have jl:=b0.out.2.2.2.1;rw[<-bl.out.2.1]at a4;rw[<-bl.out.1]at jk;refine⟨(jl.1.below ba).keep cT,(jl.2.below ba).keep cT,?_,?_⟩
   ·show R1 _ _ _ (ap.map (·.2)).length _ (on (ap.map (·.2)));rw[ef];exact jk
   ·show R1 _ _ _ (ap.tail.map (·.1)).length _ (os (ap.tail.map (·.1)));rw[ej];exact a4
  have g9:=b0.out.2.2.2.2.trans ((Below.onlyB ba w.1.size).trans cg);have a8:=t6 hC (vk kH g9);clear hQ ex ba aX cg hC cT g3 i2 kH g9 ef ej h4 b0;go_upto_region 27 with fail
  clear h5 i4;generalize a1.setCell ⟨w.1.size,5,none⟩ (.slice a9 (sl-1) V)=hn at*;generalize (⟨(nv i).ka,(nv i).kc,(nv i).va,(nv i).vc,some ⟨T,0,none⟩,bb,a9,V⟩:NdV)=vL at*;generalize gf:ndI 0 ap=eW at*;have hJ:Hid _:=gf;have gT:=a8.out.1;have kP:=a8.out.2.1;have stV:=O.out.1.only a8.out.2.2 O.out.2.1 (fun e=>by cases e;exact b1.out.2.2.2.2 rfl);have jd:UFr g (some ⟨b,0,none⟩) w hn:=O.out.2.2.2.transN (OnlyS.ofB a8.out.2.2) (fun j k9 aT=>by omega);have j3:i< (ns++[D]).length:=by simp;omega
  have hI:Hid _:=jd;have dq:Hid _:=(rfl:ns++[D]=ns++[D]);generalize gg:ns++[D]=hk at*;clear dq;have dq:Hid _:=gg;clear gf gg jd a8 O fZ gs;have d5:=bDr hn;have gY:=gT.below d5;have eK:=kP.below d5;have cj:=stV.below d5;have hH:Hid _:=d5;refine az (fun u=>u.cell? ⟨g,0,none⟩=some (.slice (some ⟨aB,0,none⟩) hk.length b9)/\(Instr.loadAt 176 (.pointer (some ⟨w.1.size,0,none⟩))).run prog u= .ok (.agg (ndc vL eW).toArray) u) (fun k=>decide (7<=k)) uA ?_;clear d5 gT kP;generalize hn.drew=hm at*;have cs:hm.cell? ⟨g,0,none⟩=some (.slice (some ⟨aB,0,none⟩) hk.length b9)/\(Instr.loadAt 176 (.pointer (some ⟨w.1.size,0,none⟩))).run prog hm= .ok (.agg (ndc vL eW).toArray) hm:=⟨cj.blk.cell 0,cn.out _ _ _ _ gY⟩;refine aj 0 cs ?_;refine aj 1 cs ?_;refine aj 2 cs ?_;refine aj 3 cs ?_;refine aj 4 cs ?_;refine aM 5 (.agg (ndc vL eW).toArray) cs ?hy5 ?_
  case hy5=>exact fun u ab=>bo (p:= .pointer (some ⟨w.1.size,0,none⟩)) rfl rfl ab.2
  refine aj 6 cs ?_;refine ah 7 fun c a=> ?_;refine iY cj eK j3 rfl rfl rfl ?_;intro k1 eN g6;refine aU a ?_;clear a c cs;have kZ:Hid (UQ B0 g rest rt (some ⟨b,0,none⟩) w k1 (hk.set i eW)):=eN.uq ((hI.out.trans (OnlyS.ofBelow hH.out)).transN (OnlyS.ofB g6) (fun j k9 aT=>by
   rcases b1.out.2.2.2.1 with e|⟨db,e,hk1⟩
   ·cases e;exact vJ (by rw[aT])
   ·cases e;omega)) b1.out.2.2.2.1
  clear eN cj g6 gY eK stV;go_wp2_with fail
  go_end0
  rw[cl.out,f0.out,mjL,Ct hh.out,bl.out.2.2,hJ.out,dq.out];exact⟨rfl,kZ.out⟩
end
section
variable {ns ms:List NdK}
def wfb(n:Nat)(t:Tr):Prop:=wf n t\/(n=0/\t= .leaf 0 [])\/∃m,n=m+1/\t= .node 0 (kds [])
theorem FY{n t}(h:wfb n t):(∃id es,n=0/\t= .leaf id es/\(∀e∈es,eOk e)/\lSz es<=240)\/∃id L m,n=m+1/\t= .node id (kds L)/\(∀x∈L,wf m x.2)/\(∀s∈sgs L,eQ s)/\nSz (sgs L)<=240:=by
 rcases h with h|⟨rfl,rfl⟩|⟨m,rfl,rfl⟩
 ·rcases aO h with⟨id,es,rfl,rfl⟩|⟨id,L,m,rfl,rfl⟩
  ·exact vR ⟨id,es,rfl,rfl,(dA.1 h).2.1,(dA.1 h).2.2⟩
  ·exact vJ ⟨id,L,m,rfl,rfl,(bq.1 h).2⟩
 ·exact vR ⟨0,[],rfl,rfl,uB,by simp[lSz]⟩
 ·exact vJ ⟨0,[],m,rfl,rfl,uB,by simp[sgs],by simp[sgs,nSz]⟩
structure RtN(ns:List NdK)(t:Tr)(v:Int)(p:Nat)(K:NdK)(es:List En):Prop where
 pl:v=(p:Int)
 nd:ns[p]?=some K
 keys:K.keys=es.map (·.1)
 vals:K.vals=es.map (·.2)
 sz:kSz es K=szT t
 bare:bare t=true↔K.keys=[]/\K.kids=[]
 lsz:lSz es<=240
 gsz:aH K.signs<=240
 small:K.keys.length+K.vals.length+K.kids.length+K.signs.length<=1000
theorem SRep.rt{n t P v}(h:SRep ns t P [(strOfNums [],v)])(q:wfb n t):∃p K es,RtN ns t v p K es:=by
 rcases FY q with⟨id,es,_,rfl,i,f⟩|⟨id,L,m,_,rfl,i,f,j⟩
 ·rw[SRep]at h;obtain⟨p,rfl,d,b⟩:=h;cases d;have k:=im es;refine⟨p,_,es,rfl,b,rfl,rfl,by simp[kSz,ndL,aH,szT],?_,f,by simp[ndL,aH],by simp[ndL];omega⟩;simp[Go.Proofs.YtglbanolhhjjiaaGreatDoor.bare,ndL,List.isEmpty_iff]
 ·rw[SRep]at h;obtain⟨p,us,G,rfl,d,b,g⟩:=h;cases d;have a:=g.sgs;have c:=g.len;rw[dm]at j;have k:=gQ (Go.Proofs.YtglbanolhhjjiaaGreatDoor.sgs L);have l:=gC L;refine⟨p,_,[],rfl,b,rfl,rfl,?_,?_,by simp[lSz],?_,?_⟩
  ·simp only[kSz,ndI,a,szT,ct,dm];simp[lSz];omega
  ·simp only[Go.Proofs.YtglbanolhhjjiaaGreatDoor.bare,ct,ndI,List.isEmpty_iff];constructor
   ·rintro rfl;have:=y1 c;simp[this]
   ·rintro⟨_,h⟩;have e:=CV List.length h;simp at e;rw[e]at c;exact y1 c.symm
  ·simp only[ndI,a];omega
  ·have o:(us.tail.map (·.1)).length=L.length-1:=by rw[a,l]
   simp only[ndI,y0,AC]at o ⊢;omega
theorem FZ{n a c o p T U ak B}{t u:Nat}{sg}(O:wf n a)(I:wf n c)(hA:SRep ns a o [(strOfNums [],T)])(s:SRep ns c p [(strOfNums [],U)])(am:T=(t:Int))(an:U=(u:Int))(d:ns[t]?=some ak)(f:ns[u]?=some B)(Q:(o++p).Nodup)(P:∀j,j∈o++p->ms[j]?=ns[j]?){q}(R:ms[q]?=some (jnK ak B sg))(ap:ns.length<=q):∃W,SRep ms (dL a sg c) W [(strOfNums [],(q:Int))]/\W.Nodup/\(∀j∈W,j∈o++p\/j=q):=by
 rcases aO O with⟨id,es,rfl,rfl⟩|⟨id,L,m,rfl,rfl⟩
 ·rcases aO I with⟨k,N,_,rfl⟩|⟨k,L,m,e,_⟩
  ·rw[SRep]at hA s;obtain⟨J,rfl,C,G⟩:=hA;obtain⟨K,rfl,D,H⟩:=s;cases C;cases D;have E:t=J:=t7;have F:u=K:=t7;subst E;subst F;rw[G]at d;rw[H]at f;cases d;cases f;refine⟨[q],?_,uB,fun j b=>by simp at b;exact vJ b⟩;rw[dL,SRep];refine⟨q,rfl,rfl,?_⟩;rw[R];simp[jnK,ndL]
  ·omega
 ·rcases aO I with⟨k,N,e,_⟩|⟨k,M,aB,e,rfl⟩
  ·omega
  ·rw[SRep]at hA s;obtain⟨J,u1,V,rfl,C,G,g⟩:=hA;obtain⟨K,u2,aA,rfl,D,H,w⟩:=s;cases C;cases D;have E:t=J:=t7;have F:u=K:=t7;subst E;subst F;rw[G]at d;rw[H]at f;cases d;cases f;have Y:=(bq.1 I).1;have X:=(bq.1 O).1;have ab:=g.keep (ms:=ms) (fun j b=>P j (by simp[b]));have ac:=w.keep (ms:=ms) (fun j b=>P j (by simp[b]));cases M with
   |nil=>exact absurd rfl Y
   |cons x M=>
    obtain⟨v,l,z,A,rfl,rfl,ad,ae⟩:=er.1 ac;have af:SRep ms (kds ((sg,x.2)::M)) (z++A) ((sg,v)::l):=er.2 ⟨v,l,z,A,rfl,rfl,ad,ae⟩;have ag:=af.cat ab;have S:u1≠[]:=fun e=>by
     have:=g.len;rw[e]at this;exact X (y1 this.symm)
    refine⟨q::(V++(z++A)),?_,?_,fun j b=> ?_⟩
    ·rw[dL,ct,ct,SRep];refine⟨q,u1++(sg,v)::l,_,rfl,rfl,?_,ag⟩;rw[R];cases u1 with
     |nil=>exact absurd rfl S
     |cons y u1=>simp[jnK,ndI]
    ·refine zd.2 ⟨fun i=> ?_,?_⟩
     ·rcases w4.1 i with i|i
      ·have:=g.lt q i;omega
      ·have:=w.lt q i;omega
     ·have r:=Q;rw[z6]at r ⊢;exact⟨(zd.1 r.1).2,(zd.1 r.2.1).2,fun x hx y Z=>r.2.2 x (by simp[hx]) y (z7 _ Z)⟩
    ·rcases wS.1 b with rfl|b
     ·exact vJ rfl
     ·left;rcases w4.1 b with b|b
      ·simp[b]
      ·exact List.mem_append_right _ (z7 _ b)
end
