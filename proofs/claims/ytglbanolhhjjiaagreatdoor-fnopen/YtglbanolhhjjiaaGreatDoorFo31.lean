import Derived.Test.YtglbanolhhjjiaaGreatDoorFo30
namespace Go.Proofs.YtglbanolhhjjiaaGreatDoor
open Go.Proofs.Tryz
open Go.RowKit
set_option linter.unusedVariables false
set_option maxRecDepth 100000
set_option maxHeartbeats 32000000
section
variable {B0 g:Nat} {rest:List Value} {rt:Int} {w:World} {ns:List NdK} {nv:Nat->NdV} {na:Option Addr} {nc:Nat}
theorem FW(dc:USt B0 g rest rt w ns nv na nc){i p pc:Nat}{us bg}(a:ns[i]?=some (ndI 0 us))(e9:p<us.length)(fa:(us.map (·.2)).getD p 0=(pc:Int))(hv:ns[pc]?=some bg)(m0:us.length<=1000)(l2:ns.length<=1048575)(es)(c9:bg.keys=es.map (·.1))(gB:bg.vals=es.map (·.2))(aT:lSz es<=1000000)(j2:aH bg.signs<=1000000)(j1:bg.kids.length<=1000000)(kg:bg.keys.length+bg.kids.length≠0)(mN:kSz es bg<60){q o n:Nat}(km:q+1=max p 1)(em:q+1<us.length){d B}(cD:(us.map (·.2)).getD q 0=(o:Int))(cL:(us.map (·.2)).getD (q+1) 0=(n:Int))(hA:ns[o]?=some d)(c8:ns[n]?=some B)(kc:d.keys.length+d.vals.length+d.kids.length+d.signs.length<=1000)(ke:B.keys.length+B.vals.length+B.kids.length+B.signs.length<=1000){sg}(gA:(us.tail.map (·.1)).getD q (strOfNums [])=sg){X Y}(f8:d.keys=X.map (·.1))(f9:d.vals=X.map (·.2))(ga:B.keys=Y.map (·.1))(gb:B.vals=Y.map (·.2))(gT:lSz (X++Y)<=1000000)(gr:aH (jnK d B sg).signs<=1000000):
 Calls prog 160 #[.pointer (some ⟨g,0,none⟩),.int .i64 (i:Nat),.int .i64 (p:Nat)] w fun e w'=>e= .returned (.tuple #[])/\UQ B0 g rest rt na w w' (mjL ns i q us (jnK d B sg) (kSz (X++Y) (jnK d B sg))):=by
 have ls:=im es;have an:=uv f8 (vJ f9 (vJ ga (vJ gb (vJ gT gr))));clear f8 f9 ga gb gT gr;have lc:bg.keys.length<=1000000:=by rw[c9,y2];omega
 have a6:Hid _:=dc;have cm:=uv a hv;obtain⟨b,rfl,cA,ju,mB⟩:=dc.cells a;obtain⟨_,k6,_,gi,ms⟩:=dc.cells hv;clear k6;have ia:w.cell? ⟨g,0,none⟩=some (.slice (some ⟨b,0,none⟩) ns.length nc):=dc.blk.cell 0;have S:Hid ((ndI 0 us).kids.length=us.length/\(us.tail.map (·.1)).length+1=us.length):=by
  refine⟨by simp[ndI],?_⟩;simp;omega
 have eC:=bAl w (.cells (ndc (nv i) (ndI 0 us)).toArray 176);have kA:=aq w 176 (ndc (nv i) (ndI 0 us)).toArray;have hS:=ju.below eC;have f3:=gi.below eC;have kX:(prog.info? 176).map (·.size)=some (ndc (nv i) (ndI 0 us)).length:=aD;go_enter func160,ntmps160;go_upto_region 1 with(first|(refine dG rfl 176 _ rfl b (i*6) rfl (ndc (nv i) (ndI 0 us)) _ cA underlying176 rfl kX ?_)|(refine bt rfl 176 _ _ rfl w (ndc aF nd0).toArray (ndc (nv i) (ndI 0 us)).toArray 176 rfl rfl aD rfl (cy _ _) ?_))
 change Code.wp _ _ _ _ (w.alloc (.cells (ndc (nv i) (ndI 0 us)).toArray 176));generalize w.alloc (.cells (ndc (nv i) (ndI 0 us)).toArray 176)=k1 at*;have g2:Blk k1 176 w.1.size (ndc (nv i) (ndI 0 us)):=kA;clear kA ia cA ju gi;have d6:=bDr k1;have e4:=eC.trans (d6.mono eC.size);have da:=g2.below d6;have hF:=hS.below d6;have kN:=f3.below d6;have bT:=dc.below e4;have bB:=da.cell 4;have cT:R1 3 k1.drew (nv i).da us.length (nv i).dc (on (us.map (·.2))):=by have:=hF.kids;rwa [show(ndI 0 us).kids.length=us.length from S.out.1]at this
 obtain⟨a5,fo,hs,e6⟩:=cT.get e9;rw[cF _ _ (by simpa using e9),fa]at e6;refine az (fun u=>u.cell? ⟨g,0,none⟩=some (.slice (some ⟨b,0,none⟩) ns.length nc)/\u.cell? ⟨w.1.size,4,none⟩=some (.slice (some ⟨a5,fo,none⟩) us.length (nv i).dc)/\u.cell? ⟨a5,fo+p,none⟩=some (.int .i64 (pc:Nat))/\(Instr.loadAt 176 (.pointer (some ⟨b,pc*6,none⟩))).run prog u= .ok (.agg (ndc (nv pc) bg).toArray) u) (fun k=>decide (12<=k)) vk ?_;clear d6 g2 hS f3 eC kX dc a hv bB;generalize k1.drew=dX at*;have bB:dX.cell? ⟨w.1.size,4,none⟩=some (.slice (some ⟨a5,fo,none⟩) us.length (nv i).dc):=by rw[<-hs,<-S.out.1];exact da.cell 4
 have cs:=vJ (bT.blk.cell 0) (vJ bB (vJ e6 (bT.loadNd cm.out.2)));have F:a5<dX.1.size:=by
  obtain⟨hY,kB,bv,⟨f6,f7,eb⟩,_⟩:=cT.at_ uA;rw[hs]at bv;cases bv;exact(wy.1 eb).1
 refine ay 0 cs ?_;refine ay 1 cs ?_;refine ay 2 cs ?_;refine ay 3 cs ?_;refine ay 4 cs ?_;refine ay 5 cs ?_;refine ay 6 cs ?_;refine ay 7 cs ?_;refine ay 8 cs ?_;refine ay 9 cs ?_;refine aM 10 (.agg (ndc (nv pc) bg).toArray) cs ?hy10 ?_
 case hy10=>exact fun u ab=>bo (p:= .pointer (some ⟨b,pc*6,none⟩)) rfl rfl ab.2.2.2
 refine ah 11 fun c a=> ?_;go_wp2_with fail;have A:=bAl dX (.cells (ndc aF nd0).toArray 176);have bZ:=aq dX 176 (ndc aF nd0).toArray;have ad:=vJ ((bT.below A).blk.cell 0) (vJ (A.cell (p:=⟨w.1.size,4,none⟩) da.lt▸bB) (vJ (A.cell (p:=⟨a5,fo+p,none⟩) F▸e6) ((bT.below A).loadNd cm.out.2)));refine ao a ?_ (fun _=>ad);clear a c ad;refine ah 12 fun c a=> ?_;refine bK (cs:=ndc (nv pc) bg) bZ rfl (eo _ _) aD rfl rfl rfl ?_;intro e1 hE kD;refine aU a ?_;clear a c bZ cs;have aA:=A.trans (kD.below t6 A.size);have hz:=da.below aA;have kH:=hF.below aA;have eL:=cT.below aA;have ea:=e4.trans (aA.mono e4.size);have lt:=(cE a6.out.nodes b (by simp[rb])).2;clear kD A aA da hF kN cT e4 bT bB e6 hs F;generalize dX.1.size=ic at*;have he:R1 9 e1 (nv i).sa (us.tail.map (·.1)).length (nv i).sc (os (us.tail.map (·.1))):=kH.signs;have h0:e1.cell? ⟨ic,2,none⟩=some (.slice (nv pc).ka bg.keys.length (nv pc).kc):=hE.cell 2;have h1:e1.cell? ⟨ic,4,none⟩=some (.slice (nv pc).da bg.kids.length (nv pc).dc):=hE.cell 4;have e5:e1.cell? ⟨w.1.size,4,none⟩=some (.slice (nv i).da us.length (nv i).dc):=by rw[<-S.out.1];exact hz.cell 4
 have dS:=mD (a6.out.below ea) cm.out.2 es c9 gB aT j2 uA;obtain⟨m1,m2,c7,cp⟩:=eL.get e9;rw[cF _ _ (by simpa using e9),fa]at cp;rw[c7]at e5;have lk:((bg.keys.length:Int)+(bg.kids.length:Int)==0)=false:=by rw[D2];omega
 have dd:=uv hz (vJ ea (vJ c7 (vJ eL he)));have lf:¬(60:Int)<=(kSz es bg:Int):=uA;generalize kSz es bg=m4 at*;have ln:¬(us.length:Int)<2:=uA;have dk:=uv cD (vJ cL (vJ hA (vJ c8 gA)));have hM:Hid _:=km;have m3:Hid _:=fa;clear hz kH he ea hE eL c7 c9 gB kg fa cD cL gA km;go_wp2_with fail;refine dS.mono ?_;rintro e e2 ⟨rfl,d1⟩;have hB:=dd.out.1.below d1;have fD:Hid _:=dd.out.2.1.trans (d1.mono dd.out.2.1.size);have fP:=uv hB (dd.out.2.2.2.1.below d1);have h2:e2.cell? ⟨w.1.size,4,none⟩=some (.slice (nv i).da us.length (nv i).dc):=by rw[<-S.out.1];exact hB.cell 4
 clear dS e5 h0 h1 cp d1 dd hB;go_upto_if 81 with fail
 go_cut [2] (fun s fB=>s= .int .i64 ((q:Int)+1)/\fB=e2)
 case first=>
  by_cases kk:p=0
  ·subst kk;have dq:Hid (q=0):=by show q=0;have:=hM.out;omega
   go_wp2_with fail
   go_meet
   case rel=>exact⟨by rw[dq.out];rfl,rfl⟩
  ·have l3:¬(p:Int)=0:=uA;have dq:Hid ((q:Int)+1=(p:Int)):=by show _= _;have:=hM.out;omega
   go_wp2_with fail
   go_meet
   case rel=>exact⟨by rw[dq.out],rfl⟩
 case rest=>
 obtain⟨rfl,gS⟩:=hcut;obtain rfl:=gS.symm;clear gS h2;have b2:Hid _:=fD.out;have b4:Hid _:=fP.out;have cD:=dk.out.1;have cL:=dk.out.2.1;have hA:=dk.out.2.2.1;have c8:=dk.out.2.2.2.1;have mb:q<us.length:=uA;have mm:=(wC.1 hA).1;have mp:=(wC.1 c8).1;go_wp2_with fail;have e7:=bDr e2;have cv:=b2.out.trans (e7.mono b2.out.size);have fn:=b4.out.1.below e7;have cV:=b4.out.2.below e7;have bX:=a6.out.below cv;obtain⟨bF,cM,ht,cq⟩:=cV.get (i:=q) uA;rw[cF _ _ (by rw[y2];omega),cD]at cq;refine az (fun u=>u.cell? ⟨g,0,none⟩=some (.slice (some ⟨b,0,none⟩) ns.length nc)/\u.cell? ⟨w.1.size,4,none⟩=some (.slice (some ⟨bF,cM,none⟩) us.length (nv i).dc)/\u.cell? ⟨bF,cM+(q),none⟩=some (.int .i64 (o:Nat))/\(Instr.loadAt 176 (.pointer (some ⟨b,o*6,none⟩))).run prog u= .ok (.agg (ndc (nv o) d).toArray) u) (fun k=>decide (13<=k)) vk ?_;clear e7;generalize e2.drew=dW at*;have cc:dW.cell? ⟨w.1.size,4,none⟩=some (.slice (some ⟨bF,cM,none⟩) us.length (nv i).dc):=by rw[<-ht,<-S.out.1];exact fn.cell 4
 have cs:=vJ (bX.blk.cell 0) (vJ cc (vJ cq (bX.loadNd hA)));have F:bF<dW.1.size:=by
  obtain⟨hY,kB,bv,⟨f6,f7,eb⟩,_⟩:=cV.at_ uA;rw[ht]at bv;cases bv;exact(wy.1 eb).1
 refine ay 0 cs ?_;refine ay 1 cs ?_;refine ay 2 cs ?_;refine ay 3 cs ?_;refine ay 4 cs ?_;refine ay 5 cs ?_;refine ay 6 cs ?_;refine aM 7 (.int .i64 (q:Nat)) cs ?hsuba ?_
 case hsuba=>exact fun u _=>by go_simp;first|done|exact ll _ uA uA
 refine ay 8 cs ?_;refine ay 9 cs ?_;refine ay 10 cs ?_;refine aM 11 (.agg (ndc (nv o) d).toArray) cs ?hlda ?_
 case hlda=>exact fun u ab=>bo (p:= .pointer (some ⟨b,o*6,none⟩)) rfl rfl ab.2.2.2
 refine ah 12 fun c a=> ?_;go_wp2_with fail;have A:=bAl dW (.cells (ndc aF nd0).toArray 176);have bZ:=aq dW 176 (ndc aF nd0).toArray;have ad:=vJ ((bX.below A).blk.cell 0) (vJ (A.cell (p:=⟨w.1.size,4,none⟩) fn.lt▸cc) (vJ (A.cell (p:=⟨bF,cM+(q),none⟩) F▸cq) ((bX.below A).loadNd hA)));refine ao a ?_ (fun _=>ad);clear a c ad;refine ah 13 fun c a=> ?_;refine bK (cs:=ndc (nv o) d) bZ rfl (eo _ _) aD rfl rfl rfl ?_;intro hT et eB;refine aU a ?_;clear a c bZ cs;have a3:=A.trans (eB.below t6 A.size);have b5:=uv (fn.below a3) (cV.below a3);have b3:Hid _:=cv.trans (a3.mono cv.size);have fV:Hid _:=et;clear cv fn cV bX ht cq cc F A eB a3 et fP fD;generalize j3:dW.1.size=Z at*;clear j3;have kp:(q:Int)+1< (us.length:Int):=uA;have ko:((q:Int)+1).toNat=q+1:=uA;have kr:(0:Int)<=(q:Int)+1:=uA;go_wp2_with fail;have d7:=bDr hT;have cz:=b3.out.trans (d7.mono b3.out.size);have a5:=b5.out.1.below d7;have cW:=b5.out.2.below d7;have bY:=a6.out.below cz;obtain⟨bP,cP,hu,cr⟩:=cW.get (i:=q+1) uA;rw[cF _ _ (by rw[y2];omega),cL]at cr;refine az (fun u=>u.cell? ⟨g,0,none⟩=some (.slice (some ⟨b,0,none⟩) ns.length nc)/\u.cell? ⟨w.1.size,4,none⟩=some (.slice (some ⟨bP,cP,none⟩) us.length (nv i).dc)/\u.cell? ⟨bP,cP+(q+1),none⟩=some (.int .i64 (n:Nat))/\(Instr.loadAt 176 (.pointer (some ⟨b,n*6,none⟩))).run prog u= .ok (.agg (ndc (nv n) B).toArray) u) (fun k=>decide (12<=k)) vk ?_;have fM:Hid _:=d7;clear d7;generalize hT.drew=c4 at*;have ce:c4.cell? ⟨w.1.size,4,none⟩=some (.slice (some ⟨bP,cP,none⟩) us.length (nv i).dc):=by rw[<-hu,<-S.out.1];exact a5.cell 4
 have cs:=vJ (bY.blk.cell 0) (vJ ce (vJ cr (bY.loadNd c8)));have F:bP<c4.1.size:=by
  obtain⟨hY,kB,bv,⟨f6,f7,eb⟩,_⟩:=cW.at_ uA;rw[hu]at bv;cases bv;exact(wy.1 eb).1
 refine ay 0 cs ?_;refine ay 1 cs ?_;refine ay 2 cs ?_;refine ay 3 cs ?_;refine ay 4 cs ?_;refine ay 5 cs ?_;refine ay 6 cs ?_;refine ay 7 cs ?_;refine ay 8 cs ?_;refine ay 9 cs ?_;refine aM 10 (.agg (ndc (nv n) B).toArray) cs ?hldb ?_
 case hldb=>exact fun u ab=>bo (p:= .pointer (some ⟨b,n*6,none⟩)) rfl rfl ab.2.2.2
 refine ah 11 fun c a=> ?_;go_wp2_with fail;have A:=bAl c4 (.cells (ndc aF nd0).toArray 176);have bZ:=aq c4 176 (ndc aF nd0).toArray;have ad:=vJ ((bY.below A).blk.cell 0) (vJ (A.cell (p:=⟨w.1.size,4,none⟩) a5.lt▸ce) (vJ (A.cell (p:=⟨bP,cP+(q+1),none⟩) F▸cr) ((bY.below A).loadNd c8)));refine ao a ?_ (fun _=>ad);clear a c ad;refine ah 12 fun c a=> ?_;refine bK (cs:=ndc (nv n) B) bZ rfl (eo _ _) aD rfl rfl rfl ?_;intro U et eB;refine aU a ?_;clear a c bZ cs;have a3:=A.trans (eB.below t6 A.size);have dl:=uv (a5.below a3) (cW.below a3);have hh:Hid _:=cz.trans (a3.mono cz.size);have g1:=Blk.below fV.out fM.out;have ae:Hid (Below w.1.size w U/\Blk U 176 w.1.size (ndc (nv i) (ndI 0 us))/\Blk U 176 Z (ndc (nv o) d)/\Blk U 176 c4.1.size (ndc (nv n) B)):=⟨hh.out,dl.out.1,g1.below a3,et⟩;clear cz a5 cW bY hu cr ce F A eB a3 et b5 b3 b4 b2 dl fV g1 fM;generalize c4.1.size=ak at*;have h7:U.cell? ⟨Z,1,none⟩=some (.bool d.leaf):=ae.out.2.2.1.cell 1;go_upto_region 15 with(first|(refine Ak rfl _ _ rfl (by simp only[wB,ws,wz];exact FU d.leaf) ?_)|(refine bt rfl 176 _ _ rfl U (ndc aF nd0).toArray (ndc aF ⟨0,d.leaf,[],[],[],[]⟩).toArray 176 rfl rfl aD rfl (cy _ _) ?_))
 have bC:=(B2 U.1.size U).alloc t6 (.cells (ndc aF ⟨0,d.leaf,[],[],[],[]⟩).toArray 176);have c2:=(a6.out.below ae.out.1);have hO:Hid (JSt w (U.alloc (.cells (ndc aF ⟨0,d.leaf,[],[],[],[]⟩).toArray 176)) w.1.size Z ak U.1.size (nv i) (nv o) (nv n) (ndI 0 us) d B (ndc aF ⟨0,d.leaf,[],[],[],[]⟩)):=by
  obtain⟨_,_,_,hw,_⟩:=c2.cells cm.out.1;obtain⟨_,_,_,bc,_⟩:=c2.cells hA;obtain⟨_,_,_,a4,_⟩:=c2.cells c8;exact⟨ae.out.1.trans (bC.mono ae.out.1.size),ae.out.2.1.below bC,ae.out.2.2.1.below bC,ae.out.2.2.2.below bC,aq U _ _,hw.below bC,bc.below bC,a4.below bC,ae.out.1.size,(by have:=ae.out.2.1.lt;omega),(by have:=ae.out.2.2.1.lt;omega),(by have:=ae.out.2.2.2.lt;omega)⟩
 change Code.wp _ _ _ _ (U.alloc (.cells (ndc aF ⟨0,d.leaf,[],[],[],[]⟩).toArray 176));clear bC c2 h7 ae;generalize U.alloc (.cells (ndc aF ⟨0,d.leaf,[],[],[],[]⟩).toArray 176)=hU at*;generalize U.1.size=f at*;clear kr ko kp;have N:=bDr hU;have m:=hO.out.below N;refine az (fun u=>u.cell? ⟨f,2,none⟩=some (.slice none 0 0)/\u.cell? ⟨Z,2,none⟩=some (.slice (nv o).ka d.keys.length (nv o).kc)/\u.cell? ⟨ak,2,none⟩=some (.slice (nv n).ka B.keys.length (nv n).kc)) (fun k=>decide (8<=k)) vk ?_;clear N;generalize hU.drew=y at*;have cs:y.cell? ⟨f,2,none⟩=some (.slice none 0 0)/\y.cell? ⟨Z,2,none⟩=some (.slice (nv o).ka d.keys.length (nv o).kc)/\y.cell? ⟨ak,2,none⟩=some (.slice (nv n).ka B.keys.length (nv n).kc):=⟨m.kj.cell 2,m.ka.cell 2,m.kb.cell 2⟩;refine au 0 cs ?_;refine au 1 cs ?_;refine au 2 cs ?_;refine au 3 cs ?_;refine au 5 cs ?_;refine au 6 cs ?_;refine ah 4 fun c a=> ?_;refine iN _ _ bM rfl rfl (cQ 9 y.1.size y) rfl m.rA.keys uA uA t6 ?_;intro hX ib b7 P C bz;rw[wE,xd]at P;rw[wE];have r:=m.below C;refine a.out _ _ (fun _=>⟨r.kj.cell 2,r.ka.cell 2,r.kb.cell 2⟩) ?_;clear a c;refine ah 7 fun c a=> ?_;refine iN _ _ bM rfl rfl P rfl r.rB.keys uA uA C.size ?_;intro G J Q bS bs d8;have M:=C.trans bs;have l:=m.below M;have W:=l.kj.cell 2;have bx:=l.kj.free 2;refine a.out _ _ (fun _=>⟨W,l.ka.cell 2,l.kb.cell 2⟩) ?_;clear a c;refine ah 8 fun c a=> ?_;go_wp2_with fail;refine ao a ?_ (fun h=>absurd h uB);clear a c;refine ah 9 fun c a=> ?_;have bu:Q.cell? ⟨f,2,none⟩=some (.slice none 0 0):=W;go_wp2_with fail;refine aU a ?_ (fun h=>absurd h uB);clear a c;obtain⟨ac,z⟩:=l.set 2 (.slice G (d.keys.length+B.keys.length) J);have hP:Hid _:=ac;have b6:Hid (R1 9 (Q.setCell ⟨f,2,none⟩ (.slice G (d.keys.length+B.keys.length) J)) G (d.keys.length+B.keys.length) J (os d.keys++os B.keys)):=(bS.r1 (fun u bd=>by rcases w6.1 bd with h|h;exact dR _ u h;exact dR _ u h)).keep (z _ uB);clear ac z bS bs d8 M l r m P C bz W bx bu cs;generalize Q.setCell ⟨f,2,none⟩ (.slice G (d.keys.length+B.keys.length) J)=hV at*;go_upto_region 16 with fail
 have N:=bDr hV;have m:=hP.out.below N;have bn:=b6.out.below N;refine az (fun u=>u.cell? ⟨f,3,none⟩=some (.slice none 0 0)/\u.cell? ⟨Z,3,none⟩=some (.slice (nv o).va d.vals.length (nv o).vc)/\u.cell? ⟨ak,3,none⟩=some (.slice (nv n).va B.vals.length (nv n).vc)) (fun k=>decide (8<=k)) vk ?_;clear N;generalize hV.drew=y at*;have cs:y.cell? ⟨f,3,none⟩=some (.slice none 0 0)/\y.cell? ⟨Z,3,none⟩=some (.slice (nv o).va d.vals.length (nv o).vc)/\y.cell? ⟨ak,3,none⟩=some (.slice (nv n).va B.vals.length (nv n).vc):=⟨m.kj.cell 3,m.ka.cell 3,m.kb.cell 3⟩;refine au 0 cs ?_;refine au 1 cs ?_;refine au 2 cs ?_;refine au 3 cs ?_;refine au 5 cs ?_;refine au 6 cs ?_;refine ah 4 fun c a=> ?_;refine iN _ _ bM rfl rfl (cQ 9 y.1.size y) rfl m.rA.vals uA uA t6 ?_;intro hX ib b7 P C bz;rw[wE,xd]at P;rw[wE];have r:=m.below C;refine a.out _ _ (fun _=>⟨r.kj.cell 3,r.ka.cell 3,r.kb.cell 3⟩) ?_;clear a c;refine ah 7 fun c a=> ?_;refine iN _ _ bM rfl rfl P rfl r.rB.vals uA uA C.size ?_;intro H K Q bS bs d8;have M:=C.trans bs;have l:=m.below M;have W:=l.kj.cell 3;have bx:=l.kj.free 3;refine a.out _ _ (fun _=>⟨W,l.ka.cell 3,l.kb.cell 3⟩) ?_;clear a c;refine ah 8 fun c a=> ?_;go_wp2_with fail;refine ao a ?_ (fun h=>absurd h uB);clear a c;refine ah 9 fun c a=> ?_;have bu:Q.cell? ⟨f,3,none⟩=some (.slice none 0 0):=W;go_wp2_with fail;refine aU a ?_ (fun h=>absurd h uB);clear a c;obtain⟨ac,z⟩:=l.set 3 (.slice H (d.vals.length+B.vals.length) K);have hQ:Hid _:=ac;have dI:Hid (R1 9 (Q.setCell ⟨f,3,none⟩ (.slice H (d.vals.length+B.vals.length) K)) H (d.vals.length+B.vals.length) K (os d.vals++os B.vals)):=(bS.r1 (fun u bd=>by rcases w6.1 bd with h|h;exact dR _ u h;exact dR _ u h)).keep (z _ uB);replace b6:Hid _:=(bn.below M).keep (z _ uB);clear ac z bS bs d8 M l r m P C bz W bx bu cs;generalize Q.setCell ⟨f,3,none⟩ (.slice H (d.vals.length+B.vals.length) K)=hW at*;clear bn;go_upto_region 17 with fail
 have N:=bDr hW;have m:=hQ.out.below N;have bn:=b6.out.below N;have f4:=dI.out.below N;refine az (fun u=>u.cell? ⟨f,4,none⟩=some (.slice none 0 0)/\u.cell? ⟨Z,4,none⟩=some (.slice (nv o).da d.kids.length (nv o).dc)/\u.cell? ⟨ak,4,none⟩=some (.slice (nv n).da B.kids.length (nv n).dc)) (fun k=>decide (8<=k)) vk ?_;clear N;generalize hW.drew=y at*;have cs:y.cell? ⟨f,4,none⟩=some (.slice none 0 0)/\y.cell? ⟨Z,4,none⟩=some (.slice (nv o).da d.kids.length (nv o).dc)/\y.cell? ⟨ak,4,none⟩=some (.slice (nv n).da B.kids.length (nv n).dc):=⟨m.kj.cell 4,m.ka.cell 4,m.kb.cell 4⟩;refine au 0 cs ?_;refine au 1 cs ?_;refine au 2 cs ?_;refine au 3 cs ?_;refine au 5 cs ?_;refine au 6 cs ?_;refine ah 4 fun c a=> ?_;refine iN _ _ co rfl rfl (cQ 3 y.1.size y) rfl m.rA.kids uA uA t6 ?_;intro hX ib b7 P C bz;rw[wE,xd]at P;rw[wE];have r:=m.below C;refine a.out _ _ (fun _=>⟨r.kj.cell 4,r.ka.cell 4,r.kb.cell 4⟩) ?_;clear a c;refine ah 7 fun c a=> ?_;refine iN _ _ co rfl rfl P rfl r.rB.kids uA uA C.size ?_;intro I L Q bS bs d8;have M:=C.trans bs;have l:=m.below M;have W:=l.kj.cell 4;have bx:=l.kj.free 4;refine a.out _ _ (fun _=>⟨W,l.ka.cell 4,l.kb.cell 4⟩) ?_;clear a c;refine ah 8 fun c a=> ?_;go_wp2_with fail;refine ao a ?_ (fun h=>absurd h uB);clear a c;refine ah 9 fun c a=> ?_;have bu:Q.cell? ⟨f,4,none⟩=some (.slice none 0 0):=W;go_wp2_with fail;refine aU a ?_ (fun h=>absurd h uB);clear a c;obtain⟨ac,z⟩:=l.set 4 (.slice I (d.kids.length+B.kids.length) L);have bm:Hid _:=ac;have hm:Hid (R1 3 (Q.setCell ⟨f,4,none⟩ (.slice I (d.kids.length+B.kids.length) L)) I (d.kids.length+B.kids.length) L (on d.kids++on B.kids)):=(bS.r1 (fun u bd=>by rcases w6.1 bd with h|h;exact fw _ u h;exact fw _ u h)).keep (z _ uB);replace b6:Hid _:=(bn.below M).keep (z _ uB);replace dI:Hid _:=(f4.below M).keep (z _ uB);clear ac z bS bs d8 M l r m P C bz W bx bu cs;generalize Q.setCell ⟨f,4,none⟩ (.slice I (d.kids.length+B.kids.length) L)=br at*;clear bn;clear f4;have h8:br.cell? ⟨f,5,none⟩=some (.slice none 0 0):=bm.out.kj.cell 5;have h9:br.cell? ⟨Z,5,none⟩=some (.slice (nv o).sa d.signs.length (nv o).sc):=bm.out.ka.cell 5;have hb:=bm.out.rA.signs;go_upto_region 19 with(at_builtin;refine ir bM (cQ 9 br.1.size br) hb uA uA t6 rfl rfl rfl rfl ?_)
 intro af ag b7 kE c6 k8;have fc:=bm.out.below c6;have W:b7.cell? ⟨f,5,none⟩=some (.slice none 0 0):=fc.kj.cell 5;have bx:=fc.kj.free 5;obtain⟨ac,z⟩:=fc.set 5 (.slice af d.signs.length ag);have eV:Hid _:=ac;have dF:Hid _:=(b6.out.below c6).keep (z _ uB);have dP:Hid _:=(dI.out.below c6).keep (z _ uB);have dD:Hid _:=(hm.out.below c6).keep (z _ uB);have ds:Hid _:=kE.keep (z _ uB);have f2:Hid (br.1.size<=(b7.setCell ⟨f,5,none⟩ (.slice af d.signs.length ag)).1.size):=by have bc:=c6.size;have a4:=(ax b7 f 5 (.slice af d.signs.length ag)).size;show _<=_;omega
 clear ac z fc kE c6 k8 h8 h9 hb;go_upto_region 19 with fail
 clear W bx;generalize b7.setCell ⟨f,5,none⟩ (.slice af d.signs.length ag)=c5 at*;have hr:c5.cell? ⟨Z,1,none⟩=some (.bool d.leaf):=eV.out.ka.cell 1;go_upto_if 143 with fail
 go_cut [] (fun fB=> ∃R,JSt w fB w.1.size Z ak f (nv i) (nv o) (nv n) (ndI 0 us) d B (ndc R (jnK d B sg))/\RNd fB R (jnK d B sg))
 case first=>
  cases aS:d.leaf with
  |true=>
   rw[aS]at hr;have a8:Hid (JSt w c5 w.1.size Z ak f (nv i) (nv o) (nv n) (ndI 0 us) d B (ndc ⟨G,J,H,K,I,L,af,ag⟩ (jnK d B sg))/\RNd c5 ⟨G,J,H,K,I,L,af,ag⟩ (jnK d B sg)):=by
    refine⟨?_,?_,?_,?_,?_⟩
    ·have:=eV.out;have e:ndc ⟨G,J,H,K,I,L,af,ag⟩ (jnK d B sg)=[.int .i64 0,.bool d.leaf,.slice G (d.keys.length+B.keys.length) J,.slice H (d.vals.length+B.vals.length) K,.slice I (d.kids.length+B.kids.length) L,.slice af d.signs.length ag]:=by simp[ndc,jnK,aS]
     rw[e];exact this
    ·have:=dF.out;simp only[jnK,wb];rwa [jm]at this
    ·have:=dP.out;simp only[jnK,wb];rwa [jm]at this
    ·have:=dD.out;simp only[jnK,wb];rwa [fv]at this
    ·have:=Own1.r1 ds.out (dR _);simp only[jnK,aS,if_true];exact this
   clear aS;go_wp2_with fail
   go_meet
   case rel=>exact⟨_,a8.out⟩
  |false=>
   rw[aS]at hr;have hL:Hid _:=aS;clear aS;go_upto_region 20 with fail
   have N:=bDr c5;have m:=eV.out.below N;have kG:=Own1.below ds.out N;have kV:=m.rN.signs;have a7:q< (us.tail.map (·.1)).length:=by have:=S.out.2;omega
   obtain⟨cX,c0,c7,cp⟩:=kV.get (i:=q) a7;have hj:Hid (br.1.size<=c5.drew.1.size):=f2.out;have dE:=uv (dF.out.below N) (vJ (dP.out.below N) (dD.out.below N));refine az (fun u=>u.cell? ⟨f,5,none⟩=some (.slice af d.signs.length ag)/\u.cell? ⟨w.1.size,5,none⟩=some (.slice (some ⟨cX,c0,none⟩) (us.tail.map (·.1)).length (nv i).sc)/\u.cell? ⟨cX,c0+q,none⟩=some (.string sg)/\u.cell? ⟨ak,5,none⟩=some (.slice (nv n).sa B.signs.length (nv n).sc)) (fun k=>decide (13<=k)) vk ?_;clear N cp;generalize c5.drew=y at*;have eU:Hid (∀u,Below br.1.size y u->u.cell? ⟨f,5,none⟩=some (.slice af d.signs.length ag)/\u.cell? ⟨w.1.size,5,none⟩=some (.slice (some ⟨cX,c0,none⟩) (us.tail.map (·.1)).length (nv i).sc)/\u.cell? ⟨cX,c0+q,none⟩=some (.string sg)/\u.cell? ⟨ak,5,none⟩=some (.slice (nv n).sa B.signs.length (nv n).sc)):=fun u bd=>by
    have fl:=bm.out.keepB m bd;refine⟨fl.kj.cell 5,?_,?_,fl.kb.cell 5⟩
    ·rw[<-c7];exact fl.kn.cell 5
    ·obtain⟨d1,m9,k5,la⟩:=fl.rN.signs.get (i:=q) a7;have i2:=c7.symm.trans k5;cases i2;rw[la];show some ((os (us.tail.map (·.1))).getD q undef)= _;rw[eh _ _ a7];exact C1 (fun x=>some (Value.string x)) dk.out.2.2.2.2
   have cs:=eU.out y t7;have le:(q:Int)< ((us.tail.map (·.1)).length:Int):=uA;generalize (us.tail.map (·.1)).length=sl at*;refine ay 0 cs ?_;refine ay 1 cs ?_;refine ay 2 cs ?_;refine ay 3 cs ?_;refine ay 4 cs ?_;refine aM 5 (.int .i64 (q:Nat)) cs ?hsb5 ?_
   case hsb5=>exact fun u _=>by go_simp;first|done|exact ll _ uA uA
   refine ay 6 cs ?_;refine ay 7 cs ?_;refine ay 10 cs ?_;refine ay 11 cs ?_;refine ah 8 fun c a=> ?_;refine bU _ _ _ rfl (v:= .slice (some ⟨y.1.size,0,none⟩) 1 1) (w':=y.alloc (.cells #[.string sg] 9)) ?bs8 ?_
   case bs8=>
    simp only[wB,ws,wz];exact ey bM (.string sg) rfl y
   refine a.out _ _ (fun _=>eU.out _ (t7.alloc hj.out _)) ?_;clear a c;refine ah 9 fun c a=> ?_;refine tN _ _ bM rfl br.1.size af d.signs.length ag (os d.signs) rfl kG (.string sg) rfl rfl uA uA hj.out ?_;intro m7 m8 m5 cg d2 k7;refine a.out _ _ (fun _=>eU.out _ d2) ?_;clear a c k7;have hc:=(bm.out.keepB m d2).rB.signs;refine ah 12 fun c a=> ?_;refine iN _ _ bM rfl rfl cg rfl hc uA uA (wg hj.out d2.size) ?_;intro b8 ca hp kF hZ k9;have M:=d2.trans hZ;refine a.out _ _ (fun _=>eU.out _ M) ?_;clear a c k9;have fd:=bm.out.keepB m M;have W:hp.cell? ⟨f,5,none⟩=some (.slice af d.signs.length ag):=fd.kj.cell 5;have bx:=fd.kj.free 5;obtain⟨ac,z⟩:=fd.set 5 (.slice b8 (d.signs.length+1+B.signs.length) ca);have a8:Hid (JSt w (hp.setCell ⟨f,5,none⟩ (.slice b8 (d.signs.length+1+B.signs.length) ca)) w.1.size Z ak f (nv i) (nv o) (nv n) (ndI 0 us) d B (ndc ⟨G,J,H,K,I,L,b8,ca⟩ (jnK d B sg))/\RNd (hp.setCell ⟨f,5,none⟩ (.slice b8 (d.signs.length+1+B.signs.length) ca)) ⟨G,J,H,K,I,L,b8,ca⟩ (jnK d B sg)):=by
    have jT:(jnK d B sg).signs=d.signs++sg::B.signs:=by simp only[jnK];rw[hL.out];rfl
    have gm:(jnK d B sg).signs.length=d.signs.length+1+B.signs.length:=by rw[jT];simp;omega
    refine⟨?_,?_,?_,?_,?_⟩
    ·have e:ndc ⟨G,J,H,K,I,L,b8,ca⟩ (jnK d B sg)=[.int .i64 0,.bool d.leaf,.slice G (d.keys.length+B.keys.length) J,.slice H (d.vals.length+B.vals.length) K,.slice I (d.kids.length+B.kids.length) L,.slice b8 (d.signs.length+1+B.signs.length) ca]:=by
      unfold ndc;rw[gm];simp[jnK]
     rw[e];exact ac
    ·have:=(b6.out.keepB dE.out.1 M).keep (z _ uB);simp only[jnK,wb];rwa [jm]at this
    ·have:=(dI.out.keepB dE.out.2.1 M).keep (z _ uB);simp only[jnK,wb];rwa [jm]at this
    ·have:=(hm.out.keepB dE.out.2.2 M).keep (z _ uB);simp only[jnK,wb];rwa [fv]at this
    ·have h:=kF.keep (z _ uB);rw[gm,jT];have e:os d.signs++[Value.string sg]++os B.signs=os (d.signs++sg::B.signs):=by simp[os]
     rw[e]at h;exact Own1.r1 h (dR _)
   clear ac z fd kF hZ M cg d2 hc m kG kV;refine ah 13 fun c a=> ?_;go_wp2_with fail;refine ao a ?_ (fun h=>absurd h uB);clear a c;refine ah 14 fun c a=> ?_;go_wp2_with fail;refine aU a ?_ (fun h=>absurd h uB);clear a c;go_wp2_with fail
   go_meet
   case rel=>exact⟨_,a8.out⟩
 case rest=>
 obtain⟨R,d9,kP⟩:=hcut;obtain⟨lo,ks⟩:=aa wc;subst ks;have ck:Hid ((jnK d B sg).keys=(X++Y).map (·.1)/\(jnK d B sg).vals=(X++Y).map (·.2)/\lSz (X++Y)<=1000000/\aH (jnK d B sg).signs<=1000000):=⟨by simp only[jnK];rw[an.out.1,an.out.2.2.1,AF],by simp only[jnK];rw[an.out.2.1,an.out.2.2.2.1,AF],an.out.2.2.2.2.1,an.out.2.2.2.2.2⟩;have cl:Hid _:=(rfl:jnK d B sg=jnK d B sg);generalize gc:jnK d B sg=D at*;clear cl;have cl:Hid _:=gc;have stV:=a6.out.below d9.hb;have kv:=d9.kj;have c3:Hid _:=d9;have l1:=d9.le;clear b6 dI hm dF dP dD ds f2 eV bm hQ hP hO hr d9 gc an kc ke aT j2 j1;have hy:(some ⟨b,0,none⟩:Option Addr)≠some ⟨f,0,none⟩:=fun e=>by cases e;omega
 have cn:Hid (∀(u:World)(k:Nat)(v:NdV)(hH:NdK),Blk u 176 k (ndc v hH)->(Instr.loadAt 176 (.pointer (some ⟨k,0,none⟩))).run prog u= .ok (.agg (ndc v hH).toArray) u):=fun u k v hH bd=>jI u k v hH bd;go_wp2_with fail;have d4:=bDr lo;have bW:=stV.below d4;have fm:=kv.below d4;have kS:=kP.below d4;refine az (fun u=>u.cell? ⟨g,0,none⟩=some (.slice (some ⟨b,0,none⟩) ns.length nc)/\(Instr.loadAt 176 (.pointer (some ⟨f,0,none⟩))).run prog u= .ok (.agg (ndc R D).toArray) u) (fun k=>decide (8<=k)) vk ?_;generalize lo.drew=a2 at*;have cs:a2.cell? ⟨g,0,none⟩=some (.slice (some ⟨b,0,none⟩) ns.length nc)/\(Instr.loadAt 176 (.pointer (some ⟨f,0,none⟩))).run prog a2= .ok (.agg (ndc R D).toArray) a2:=⟨bW.blk.cell 0,cn.out _ _ _ _ fm⟩;have ft:=bAl a2 (.cells (ndc R D).toArray 176);have i1:(a2.alloc (.cells (ndc R D).toArray 176)).cell? ⟨g,0,none⟩=some (.slice (some ⟨b,0,none⟩) ns.length nc)/\(Instr.loadAt 176 (.pointer (some ⟨f,0,none⟩))).run prog (a2.alloc (.cells (ndc R D).toArray 176))= .ok (.agg (ndc R D).toArray) (a2.alloc (.cells (ndc R D).toArray 176)):=⟨(bW.below ft).blk.cell 0,cn.out _ _ _ _ (fm.below ft)⟩;have am:Hid _:=d4;have E:=uv bW (vJ kS (fm.below ft));have js:=bW.gB;clear d4 bW kS fm ft;refine aj 0 cs ?_;refine aj 1 cs ?_;refine aj 2 cs ?_;refine aj 3 cs ?_;refine aj 4 cs ?_;refine aM 5 (.agg (ndc R D).toArray) cs ?hyp5 ?_
 case hyp5=>exact fun u ab=>bo (p:= .pointer (some ⟨f,0,none⟩)) rfl rfl ab.2
 refine ah 6 fun c a=> ?_;refine bU _ _ _ rfl (v:= .slice (some ⟨a2.1.size,0,none⟩) 1 1) (w':=(a2.alloc (.cells (ndc R D).toArray 176))) ?bsp ?_
 case bsp=>
  simp only[wB,ws,wz];exact fq eY uA (.agg (ndc R D).toArray) (ndc R D) rfl rfl a2
 refine ao a ?_;clear a c;refine ah 7 fun c a=> ?_;refine gW _ _ eY rfl B0 (some ⟨b,0,none⟩) ns.length nc (cd nv ns) rfl E.out.1.nodes (ndc R D) rfl (eo _ _) rfl uA uA js ?_;intro aB b9 a1 ex ba bA f5;have bE:Blk a1 176 f (ndc R D):=(bA.block f E.out.2.2.lt (rK E.out.1.nodes hy).symm).trans E.out.2.2;have aX:Blk a1 116 g _:=E.out.1.blk.keepT ((aV (bAl _ _)).trans (bD (bQ E.out.1.nodes (bAl _ _)) bA uB));have d3:a1.cell? ⟨g,0,none⟩=some (.slice (some ⟨b,0,none⟩) ns.length nc):=aX.cell 0;refine a.out _ _ (fun _=>⟨d3,cn.out _ _ _ _ bE⟩) ?_;clear a c;have hg:=E.out.1.push E.out.2.1 ex ba bA;have i6:=UFr.push (u:= .slice (some ⟨aB,0,none⟩) (ns.length+1) b9) E.out.1 bA;have g8:=ax a1 g 0 (.slice (some ⟨aB,0,none⟩) (ns.length+1) b9);have g3:=bE.only g8 (fun e=>by have:=aX;rw[<-e]at this;unfold Blk at this bE;rw[bE]at this;cases this);have jk:=aX.free 0;have bk:=uv hg (vJ i6 (vJ f5 g3));clear hg i6 aX ex ba bA f5 i1 bE g3 g8;refine ah 8 fun c a=> ?_;go_wp2_with fail;refine ao a ?_;clear a c;refine ah 9 fun c a=> ?_;go_wp2_with fail;refine ao a ?_;clear a c;refine ah 10 fun c a=> ?_;go_wp2_with fail;refine aU a ?_;clear a c d3 jk cs;have c1:=bk.out.1;have cf:=(c3.out.kn.below am.out);have g5:=cf.onlyS bk.out.2.1 (fun aT=>by
  rcases aT with aT|aT
  ·have bc:=E.out.1.blk;rw[<-aT]at bc;have a4:=cf;unfold Blk at bc a4;rw[a4]at bc;cases bc
  ·cases aT;omega)
 have hd:=c3.out.rN.keep ((aV am.out).trans (E.out.1.keepT bk.out.2.1 uB uB)) ((aV am.out).trans (E.out.1.keepT bk.out.2.1 uB uB));have jd:UFr g (some ⟨b,0,none⟩) w (a1.setCell ⟨g,0,none⟩ (.slice (some ⟨aB,0,none⟩) (ns.length+1) b9)):=(OnlyS.ofBelow c3.out.hb).trans ((OnlyS.ofBelow am.out).trans bk.out.2.1);have gw:(some ⟨aB,0,none⟩:Option Addr)=some ⟨b,0,none⟩\/∃k,(some ⟨aB,0,none⟩:Option Addr)=some ⟨k,0,none⟩/\w.1.size<=k:=by
  rcases bk.out.2.2.1 with e|e
  ·exact v7 e.symm
  ·refine v6 ⟨aB,rfl,?_⟩;have bc:=c3.out.hb.size;have a4:=am.out.size;omega
 have ek:aB≠w.1.size:=by
  rcases bk.out.2.2.1 with e|e
  ·cases e;omega
  ·have bc:=c3.out.kn.lt;have a4:=am.out.size;omega
 have b1:=uv g5 (vJ hd (vJ jd (vJ gw ek)));clear g5 hd jd gw ek cf;generalize a1.setCell ⟨g,0,none⟩ (.slice (some ⟨aB,0,none⟩) (ns.length+1) b9)=hH at*;have d3:hH.cell? ⟨g,0,none⟩=some (.slice (some ⟨aB,0,none⟩) (ns++[D]).length b9):=c1.blk.cell 0;rw[wb,yb]at d3;have gs:(ns++[D])[ns.length]?=some D:=by simp
 have dS:=mD c1 gs (X++Y) ck.out.1 ck.out.2.1 ck.out.2.2.1 ck.out.2.2.2 (by simp;omega);have fZ:Hid _:=c1;generalize gj:kSz (X++Y) D=dV at*;have f0:Hid _:=gj;clear gj;clear c1 E bk am kP kv stV c3;go_wp2_with fail;refine dS.mono ?_;rintro e Q ⟨rfl,aA⟩;clear dS d3;have O:=uv (fZ.out.below aA) (vJ (b1.out.1.below aA) (vJ (b1.out.2.1.below aA) (b1.out.2.2.1.trans (OnlyS.ofBelow aA))));clear aA;by_cases cb:240<dV
 ·have e8:¬(dV:Int)<=240:=uA;have hi:Hid _:=cb;go_wp2_with fail;refine B3 (results_none rfl _ _ _) rfl ?_;rw[cl.out,f0.out,mjL,B4 hi.out];exact⟨rfl,O.out.1.uq O.out.2.2.2 b1.out.2.2.2.1⟩
 ·have e8:(dV:Int)<=240:=uA;have hi:Hid _:=cb;clear cb;have kT:R1 3 Q (nv i).da us.length (nv i).dc (on (us.map (·.2))):=by have:=O.out.2.2.1.kids;rwa [show(ndI 0 us).kids.length=us.length from S.out.1]at this
  have hk:=wh _ _ _ _ (q+1) 0 Q kT em uA;have kn:Hid (((q+1:Nat):Int)=(q:Int)+1):=by show _= _;omega
  rw[kn.out]at hk;have e5:Q.cell? ⟨w.1.size,4,none⟩=some (.slice (nv i).da us.length (nv i).dc):=by rw[<-S.out.1];exact O.out.2.1.cell 4
  obtain⟨gt,gv⟩:=FT em (us.getD q (strOfNums [],0)).1 (ns.length:Int);generalize gn:(us.set q ((us.getD q (strOfNums [],0)).1,(ns.length:Int))).eraseIdx (q+1)=ap at*;have bl:=uv gt (vJ gv gn);clear kT gt gv gn;go_wp2_with fail;refine hk.mono ?_;rintro e hG ⟨hq,bb,rfl,e3,kC⟩;have db:=O.out.2.1.below e3;have h3:hG.cell? ⟨w.1.size,4,none⟩=some (.slice (nv i).da (ndI 0 us).kids.length (nv i).dc):=db.cell 4;have i4:=db.free 4;have fs:=ax hG w.1.size 4 (.slice hq (us.length-1) bb);have hC:=db.set 4 (.slice hq (us.length-1) bb);have g6:=aw (t:=9) fs db uB;have ev:=aw (t:=3) fs db uB;have a0:=(Below.onlyB e3 w.1.size).trans fs;have bf:=kC.keep ev;have fz:=(O.out.2.2.1.below e3).keep g6 ev;clear hk kC e3 db fs g6 ev e5;go_upto_region 25 with fail
  clear h3 i4;generalize hG.setCell ⟨w.1.size,4,none⟩ (.slice hq (us.length-1) bb)=eR at*;obtain⟨T,rfl,kb,F,⟨k4,cB⟩,gp⟩:=Own1.at_ bf uA;have h4:eR.cell? ⟨w.1.size,4,none⟩=some (.slice (some ⟨T,0,none⟩) (us.length-1) bb):=hC.cell 4;have i0:=gp q uA;have jj:=Own1.free bf q;have bR:=ax eR T q (.int .i64 (ns.length:Int));have ch:=Own1.set bf q (.int .i64 (ns.length:Int));rw[tS]at ch;have kj:T≠w.1.size:=by have:=O.out.2.1.lt;omega
  have kt:=hC.only bR (ED kj);have cR:=cx (t:=9) bR cB uB;have hf:R1 9 (eR.setCell ⟨T,q,none⟩ (.int .i64 (ns.length:Int))) (nv i).sa (us.tail.map (·.1)).length (nv i).sc (os (us.tail.map (·.1))):=fz.signs.keep cR;have eM:=vJ (fz.keys.keep cR) (fz.vals.keep cR);have g9:OnlyB w.1.size Q (eR.setCell ⟨T,q,none⟩ (.int .i64 (ns.length:Int))):=⟨bR.os.trans a0.os,bR.tape.trans a0.tape,bR.output.trans a0.output,wg a0.size bR.size,fun k c9 hw=>(bR.block k (wQ c9 a0.size) uA).trans (a0.block k c9 hw)⟩;have md:(q:Int)< ((us.length-1:Nat):Int):=uA;have b0:=uv kt (vJ ch (vJ hf (vJ eM g9)));clear bf fz a0 gp cB bR ch kt cR hf eM g9 hC kb;go_upto_region 26 with fail
  clear h4 i0 jj;generalize eR.setCell ⟨T,q,none⟩ (.int .i64 (ns.length:Int))=kZ at*;generalize a7:(us.tail.map (·.1)).length=sl at*;have dr:Hid _:=a7;have eq:=S.out.2;have en:q<sl:=uA;have hN:Hid _:=eq;clear a7 eq;have h5:kZ.cell? ⟨w.1.size,5,none⟩=some (.slice (nv i).sa sl (nv i).sc):=by rw[<-dr.out];exact b0.out.1.cell 5
  have hR:=kz _ _ _ _ q kZ b0.out.2.2.1 en (by have:=hN.out;omega);go_wp2_with fail;refine hR.mono ?_;rintro e a1 ⟨a9,V,rfl,ba,ex⟩;have aX:=b0.out.1.below ba;have h6:a1.cell? ⟨w.1.size,5,none⟩=some (.slice (nv i).sa (ndI 0 us).signs.length (nv i).sc):=aX.cell 5;have i5:=aX.free 5;have cg:=ax a1 w.1.size 5 (.slice a9 (sl-1) V);have hD:=aX.set 5 (.slice a9 (sl-1) V);have cS:=aw (t:=9) cg aX uB;have g4:=aw (t:=3) cg aX uB;have ef:(ap.map (·.2)).length=us.length-1:=by rw[bl.out.1,BD,ky (by rw[y2];exact em),y2]
  have ej:(ap.tail.map (·.1)).length=sl-1:=by rw[bl.out.2.1,ky (by rw[dr.out];exact en),dr.out]
  have i3:((ndc (nv i) (ndI 0 us)).set 4 (.slice (some ⟨T,0,none⟩) (us.length-1) bb)).set 5 (.slice a9 (sl-1) V)=ndc ⟨(nv i).ka,(nv i).kc,(nv i).va,(nv i).vc,some ⟨T,0,none⟩,bb,a9,V⟩ (ndI 0 ap):=by
   show [_,_,_,_,_,_]=[_,_,_,_,Value.slice _ (ap.map (·.2)).length bb,Value.slice a9 (ap.tail.map (·.1)).length V];rw[ef,ej]
   rfl
  rw[i3]at hD;have kJ:RNd (a1.setCell ⟨w.1.size,5,none⟩ (.slice a9 (sl-1) V)) ⟨(nv i).ka,(nv i).kc,(nv i).va,(nv i).vc,some ⟨T,0,none⟩,bb,a9,V⟩ (ndI 0 ap):=by
   have a4:=(ex.r1 (dR _)).keep cS;have jl:=(Own1.r1 (Own1.below b0.out.2.1 ba) (fw _)).keep g4;have jq:=b0.out.2.2.2.1;rw[<-bl.out.2.1]at a4;rw[<-bl.out.1]at jl;refine⟨(jq.1.below ba).keep cS,(jq.2.below ba).keep cS,?_,?_⟩
   ·show R1 _ _ _ (ap.map (·.2)).length _ (on (ap.map (·.2)));rw[ef];exact jl
   ·show R1 _ _ _ (ap.tail.map (·.1)).length _ (os (ap.tail.map (·.1)));rw[ej];exact a4
  have ha:=b0.out.2.2.2.2.trans ((Below.onlyB ba w.1.size).trans cg);have a8:=uv hD (vJ kJ ha);clear hR ex ba aX cg hD cS g4 i3 kJ ha ef ej h5 b0;go_upto_region 27 with fail
  clear h6 i5;generalize a1.setCell ⟨w.1.size,5,none⟩ (.slice a9 (sl-1) V)=ho at*;generalize (⟨(nv i).ka,(nv i).kc,(nv i).va,(nv i).vc,some ⟨T,0,none⟩,bb,a9,V⟩:NdV)=vL at*;generalize gf:ndI 0 ap=eW at*;have hK:Hid _:=gf;have gY:=a8.out.1;have kR:=a8.out.2.1;have stV:=O.out.1.only a8.out.2.2 O.out.2.1 (fun e=>by cases e;exact b1.out.2.2.2.2 rfl);have jh:UFr g (some ⟨b,0,none⟩) w ho:=O.out.2.2.2.transN (OnlyS.ofB a8.out.2.2) (fun j lb aT=>by omega);have ka:i< (ns++[D]).length:=by simp;omega
  have hJ:Hid _:=jh;have dp:Hid _:=(rfl:ns++[D]=ns++[D]);generalize gg:ns++[D]=hl at*;clear dp;have dp:Hid _:=gg;clear gf gg jh a8 O fZ gs;have d5:=bDr ho;have g0:=gY.below d5;have eK:=kR.below d5;have cj:=stV.below d5;have hI:Hid _:=d5;refine az (fun u=>u.cell? ⟨g,0,none⟩=some (.slice (some ⟨aB,0,none⟩) hl.length b9)/\(Instr.loadAt 176 (.pointer (some ⟨w.1.size,0,none⟩))).run prog u= .ok (.agg (ndc vL eW).toArray) u) (fun k=>decide (7<=k)) vk ?_;clear d5 gY kR;generalize ho.drew=hn at*;have cs:hn.cell? ⟨g,0,none⟩=some (.slice (some ⟨aB,0,none⟩) hl.length b9)/\(Instr.loadAt 176 (.pointer (some ⟨w.1.size,0,none⟩))).run prog hn= .ok (.agg (ndc vL eW).toArray) hn:=⟨cj.blk.cell 0,cn.out _ _ _ _ g0⟩;refine aj 0 cs ?_;refine aj 1 cs ?_;refine aj 2 cs ?_;refine aj 3 cs ?_;refine aj 4 cs ?_;refine aM 5 (.agg (ndc vL eW).toArray) cs ?hy5 ?_
  case hy5=>exact fun u ab=>bo (p:= .pointer (some ⟨w.1.size,0,none⟩)) rfl rfl ab.2
  refine aj 6 cs ?_;refine ah 7 fun c a=> ?_;refine iY cj eK ka rfl rfl rfl ?_;intro k3 eN g7;refine aU a ?_;clear a c cs;have k2:Hid (UQ B0 g rest rt (some ⟨b,0,none⟩) w k3 (hl.set i eW)):=eN.uq ((hJ.out.trans (OnlyS.ofBelow hI.out)).transN (OnlyS.ofB g7) (fun j lb aT=>by
   rcases b1.out.2.2.2.1 with e|⟨da,e,hk1⟩
   ·cases e;exact v6 (by rw[aT])
   ·cases e;omega)) b1.out.2.2.2.1
  clear eN cj g7 g0 eK stV;go_wp2_with fail
  go_end0
  rw[cl.out,f0.out,mjL,CH hi.out,bl.out.2.2,hK.out,dp.out];exact⟨rfl,k2.out⟩
end
section
variable {ns ms:List NdK}
def wfb(n:Nat)(t:Tr):Prop:=wf n t\/(n=0/\t= .leaf 0 [])\/∃m,n=m+1/\t= .node 0 (kds [])
theorem FY{n t}(h:wfb n t):(∃id es,n=0/\t= .leaf id es/\(∀e∈es,eOk e)/\lSz es<=240)\/∃id L m,n=m+1/\t= .node id (kds L)/\(∀x∈L,wf m x.2)/\(∀s∈sgs L,eQ s)/\nSz (sgs L)<=240:=by
 rcases h with h|⟨rfl,rfl⟩|⟨m,rfl,rfl⟩
 ·rcases aO h with⟨id,es,rfl,rfl⟩|⟨id,L,m,rfl,rfl⟩
  ·exact v7 ⟨id,es,rfl,rfl,(dA.1 h).2.1,(dA.1 h).2.2⟩
  ·exact v6 ⟨id,L,m,rfl,rfl,(bq.1 h).2⟩
 ·exact v7 ⟨0,[],rfl,rfl,vo,by simp[lSz]⟩
 ·exact v6 ⟨0,[],m,rfl,rfl,vo,by simp[sgs],by simp[sgs,nSz]⟩
structure RtN(ns:List NdK)(t:Tr)(v:Int)(p:Nat)(K:NdK)(es:List En):Prop where
 pl:v=(p:Int)
 nd:ns[p]?=some K
 keys:K.keys=es.map (·.1)
 vals:K.vals=es.map (·.2)
 sz:kSz es K=szT t
 bare:bare t=true↔K.keys=[]/\K.kids=[]
 lsz:lSz es<=240
 gsz:aH K.signs<=240
 small:K.keys.length+K.vals.length+K.kids.length+K.signs.length<=1000
theorem SRep.rt{n t P v}(h:SRep ns t P [(strOfNums [],v)])(q:wfb n t):∃p K es,RtN ns t v p K es:=by
 rcases FY q with⟨id,es,_,rfl,i,f⟩|⟨id,L,m,_,rfl,i,f,j⟩
 ·rw[SRep]at h;obtain⟨p,rfl,d,b⟩:=h;cases d;have k:=im es;refine⟨p,_,es,rfl,b,rfl,rfl,by simp[kSz,ndL,aH,szT],?_,f,by simp[ndL,aH],by simp[ndL];omega⟩;simp[Go.Proofs.YtglbanolhhjjiaaGreatDoor.bare,ndL,List.isEmpty_iff]
 ·rw[SRep]at h;obtain⟨p,us,G,rfl,d,b,g⟩:=h;cases d;have a:=g.sgs;have c:=g.len;rw[dm]at j;have k:=gQ (Go.Proofs.YtglbanolhhjjiaaGreatDoor.sgs L);have l:=gC L;refine⟨p,_,[],rfl,b,rfl,rfl,?_,?_,by simp[lSz],?_,?_⟩
  ·simp only[kSz,ndI,a,szT,ct,dm];simp[lSz];omega
  ·simp only[Go.Proofs.YtglbanolhhjjiaaGreatDoor.bare,ct,ndI,List.isEmpty_iff];constructor
   ·rintro rfl;have:=y3 c;simp[this]
   ·rintro⟨_,h⟩;have e:=C1 List.length h;simp at e;rw[e]at c;exact y3 c.symm
  ·simp only[ndI,a];omega
  ·have o:(us.tail.map (·.1)).length=L.length-1:=by rw[a,l]
   simp only[ndI,y2,AO]at o ⊢;omega
theorem FZ{n a c o p T U ak B}{t u:Nat}{sg}(O:wf n a)(I:wf n c)(hA:SRep ns a o [(strOfNums [],T)])(s:SRep ns c p [(strOfNums [],U)])(am:T=(t:Int))(an:U=(u:Int))(d:ns[t]?=some ak)(f:ns[u]?=some B)(Q:(o++p).Nodup)(P:∀j,j∈o++p->ms[j]?=ns[j]?){q}(R:ms[q]?=some (jnK ak B sg))(ap:ns.length<=q):∃W,SRep ms (dL a sg c) W [(strOfNums [],(q:Int))]/\W.Nodup/\(∀j∈W,j∈o++p\/j=q):=by
 rcases aO O with⟨id,es,rfl,rfl⟩|⟨id,L,m,rfl,rfl⟩
 ·rcases aO I with⟨k,N,_,rfl⟩|⟨k,L,m,e,_⟩
  ·rw[SRep]at hA s;obtain⟨J,rfl,C,G⟩:=hA;obtain⟨K,rfl,D,H⟩:=s;cases C;cases D;have E:t=J:=uA;have F:u=K:=uA;subst E;subst F;rw[G]at d;rw[H]at f;cases d;cases f;refine⟨[q],?_,vo,fun j b=>by simp at b;exact v6 b⟩;rw[dL,SRep];refine⟨q,rfl,rfl,?_⟩;rw[R];simp[jnK,ndL]
  ·omega
 ·rcases aO I with⟨k,N,e,_⟩|⟨k,M,aB,e,rfl⟩
  ·omega
  ·rw[SRep]at hA s;obtain⟨J,u1,V,rfl,C,G,g⟩:=hA;obtain⟨K,u2,aA,rfl,D,H,w⟩:=s;cases C;cases D;have E:t=J:=uA;have F:u=K:=uA;subst E;subst F;rw[G]at d;rw[H]at f;cases d;cases f;have Y:=(bq.1 I).1;have X:=(bq.1 O).1;have ab:=g.keep (ms:=ms) (fun j b=>P j (by simp[b]));have ac:=w.keep (ms:=ms) (fun j b=>P j (by simp[b]));cases M with
   |nil=>exact absurd rfl Y
   |cons x M=>
    obtain⟨v,l,z,A,rfl,rfl,ad,ae⟩:=er.1 ac;have af:SRep ms (kds ((sg,x.2)::M)) (z++A) ((sg,v)::l):=er.2 ⟨v,l,z,A,rfl,rfl,ad,ae⟩;have ag:=af.cat ab;have S:u1≠[]:=fun e=>by
     have:=g.len;rw[e]at this;exact X (y3 this.symm)
    refine⟨q::(V++(z++A)),?_,?_,fun j b=> ?_⟩
    ·rw[dL,ct,ct,SRep];refine⟨q,u1++(sg,v)::l,_,rfl,rfl,?_,ag⟩;rw[R];cases u1 with
     |nil=>exact absurd rfl S
     |cons y u1=>simp[jnK,ndI]
    ·refine zz.2 ⟨fun i=> ?_,?_⟩
     ·rcases w6.1 i with i|i
      ·have:=g.lt q i;omega
      ·have:=w.lt q i;omega
     ·have r:=Q;rw[z8]at r ⊢;exact⟨(zz.1 r.1).2,(zz.1 r.2.1).2,fun x hx y Z=>r.2.2 x (by simp[hx]) y (AC _ Z)⟩
    ·rcases w3.1 b with rfl|b
     ·exact v6 rfl
     ·left;rcases w6.1 b with b|b
      ·simp[b]
      ·exact List.mem_append_right _ (AC _ b)
end
