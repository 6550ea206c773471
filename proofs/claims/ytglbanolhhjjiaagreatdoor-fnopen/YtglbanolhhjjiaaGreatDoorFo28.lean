import Derived.Test.YtglbanolhhjjiaaGreatDoorFo27
import Derived.Deep.CutBlock
namespace Go.Proofs.YtglbanolhhjjiaaGreatDoor
open Go.Proofs.Tryz
open Go.RowKit
set_option linter.unusedVariables false
set_option maxRecDepth 100000
set_option maxHeartbeats 32000000
section
theorem xT:∀(b:List ByteArray)(a j:Nat),j<=ctS a b->j<b.length->(j+2<b.length/\a+aH (b.take j)+gSz (b.getD j (strOfNums []))<=240↔j<ctS a b)
 |[],a,j,_,h=>by simp at h
 |e::es,a,0,_,_=>by
  rw[ctS];simp only[List.take_zero,List.getD_cons_zero,aH,wz,List.sum_nil,w9,w8];split<;>omega
 |e::es,a,j+1,c,d=>by
  rw[ctS]at c ⊢;split at c
  ·rename_i f;rw[B4 f];have:=xT es (a+gSz e) j uA (by simpa using d);rw[BX,fW,B1,w8];omega
  ·omega
theorem jI(u k v a)(b:Blk u 176 k (ndc v a)):(Instr.loadAt 176 (.pointer (some ⟨k,0,none⟩))).run prog u= .ok (.agg (ndc v a).toArray) u:=by
 simp only[Instr.loadAt,Instr.sureAddr,CT,C2,Result.andThen];exact DX u k 176 176 (ndc v a).toArray (0,0) _ b underlying176 rfl aD
variable {B0 g:Nat} {rest:List Value} {rt:Int} {w:World} {ns:List NdK} {nv:Nat->NdV} {na:Option Addr} {nc:Nat}
theorem FD(b9:USt B0 g rest rt w ns nv na nc){p id us}(a:ns[p]?=some (ndI id us))(cz:2<=(us.tail.map (·.1)).length)(e1:aH (us.tail.map (·.1))<=1000000)(eN:ns.length<=1048575):
 Calls prog 165 #[.pointer (some ⟨g,0,none⟩),.int .i64 (p:Nat)] w fun e w'=>e= .returned (.tuple #[.int .i64 (ns.length:Nat),.string ((us.tail.map (·.1)).getD (ctS 4 (us.tail.map (·.1))) (strOfNums []))])/\UQ B0 g rest rt na w w' (ns.set p (ndI id (us.take (ctS 4 (us.tail.map (·.1))+1)))++[ndI 0 (us.drop (ctS 4 (us.tail.map (·.1))+1))]):=by
 obtain⟨eW,_⟩:=oo (us.tail.map (·.1)) 4 cz uA;have em:Hid (∀j,j<=ctS 4 (us.tail.map (·.1))->(j+2< (us.tail.map (·.1)).length/\4+aH ((us.tail.map (·.1)).take j)+gSz ((us.tail.map (·.1)).getD j (strOfNums []))<=240↔j<ctS 4 (us.tail.map (·.1)))):=fun j c0=>xT _ 4 j c0 uA;have eV:=gQ (us.tail.map (·.1));have f:Hid ((ndI id us).signs=us.tail.map (·.1)/\(ndI id us).kids=us.map (·.2)/\(us.tail.map (·.1)).length+1=us.length):=⟨rfl,rfl,by simp at cz ⊢;omega⟩;generalize cn:us.tail.map (·.1)=c at*;have cb:Hid _:=cn;generalize ctS 4 c=m at*;have cc:Hid _:=b9;obtain⟨b,rfl,aS,dS,dV⟩:=b9.cells a;have dl:w.cell? ⟨g,0,none⟩=some (.slice (some ⟨b,0,none⟩) ns.length nc):=b9.blk.cell 0;generalize cl:ndI id us=K at*;have d:Hid (K.kids.length=us.length/\K.signs.length=c.length):=by show _/\_;rw[f.out.1,f.out.2.1];simp
 have c3:=bAl w (.cells (ndc (nv p) K).toArray 176);have d1:=aq w 176 (ndc (nv p) K).toArray;have db:=dS.below c3;have eb:(prog.info? 176).map (·.size)=some (ndc (nv p) K).length:=aD;have ca:Hid _:=cl;clear cl cn;go_enter func165,ntmps165;go_upto_region 2 with(first|(refine dG rfl 176 _ rfl b (p*6) rfl (ndc (nv p) K) _ aS underlying176 rfl eb ?_)|(refine bt rfl 176 _ _ rfl w (ndc aF nd0).toArray (ndc (nv p) K).toArray 176 rfl rfl aD rfl (cy _ _) ?_))
 change Code.wp _ _ _ _ (w.alloc (.cells (ndc (nv p) K).toArray 176));generalize w.alloc (.cells (ndc (nv p) K).toArray 176)=ce at*;have cD:Blk ce 176 w.1.size (ndc (nv p) K):=d1;have cT:Hid (∀u,Below ce.1.size ce u->Blk u 176 w.1.size (ndc (nv p) K)/\RNd u (nv p) K):=fun u b1=>⟨cD.below b1,db.below b1⟩;have c5:Hid _:=c3;clear d1 cD db dS c3 aS dl b9 a eb;go_upto_block 0 with fail
 go_cut [7] (fun eC eK=>eC= .int .i64 (m:Nat)/\Below ce.1.size ce eK)
 case first=>
  go_wp2_with fail;go_loopw [7,8] (fun x v wr=> ∃j:Nat,x= .int .i64 (j:Nat)/\v= .int .i64 (4+aH (c.take j):Nat)/\j<=m/\Below ce.1.size ce wr) (fun x _ _=>us.length-(intOf x).toNat)
  case atStart=>exact⟨0,rfl,rfl,wa _,t7⟩
  case round=>
   obtain⟨j,rfl,rfl,c0,bn⟩:=hrel;obtain⟨am,bs⟩:=aa wr;subst bs;obtain⟨dW,d5⟩:=cT.out am bn;have bY:am.cell? ⟨w.1.size,5,none⟩=some (.slice (nv p).sa c.length (nv p).sc):=by rw[<-d.out.2];exact dW.cell 5
   have a4:Hid _:=bn;have s:j<c.length:=uA;have ak:=d5.signs;rw[d.out.2]at ak;obtain⟨es,eB,bg,bZ⟩:=ak.get s;rw[eh _ _ (by rw[d.out.2];exact s),f.out.1]at bZ;rw[bg]at bY;have da:Hid _:=xM s;have cv:=xK c (j+1);rw[da.out]at cv;have ac:=em.out j c0;have c7:Hid (gSz (c.getD j (strOfNums []))=5+(c.getD j (strOfNums [])).size):=rfl;rw[c7.out]at cv ac;have cA:j<us.length:=by have:=f.out.2.2;omega
   generalize c.getD j (strOfNums [])=b0 at*;generalize aH (c.take j)=S at*;clear ak dW d5 bn bg;by_cases hA:j+2<c.length
   ·have dF:(j:Int)< (c.length:Int)-2:=uA;by_cases et:S+(5+b0.size)+4<=240
    ·have dI:(4+(S:Int))+5+(b0.size:Int)<=240:=uA;have B:=ac.1 ⟨hA,uA⟩;clear ac;go_wp2_with fail;go_roundw
     case rel=>exact⟨j+1,by go_num,by rw[da.out,c7.out];go_num,uA,a4.out⟩
     case measure=>simp[intOf];omega
    ·have dI:¬(4+(S:Int))+5+(b0.size:Int)<=240:=uA;have B:m=j:=by
      have:¬j<m:=fun h=>et (by have:=(ac.2 h).2;omega);omega
     have cS:Hid _:=B;clear ac B;go_wp2_with fail
     go_meet
     case rel=>exact⟨by rw[cS.out],a4.out⟩
   ·have dF:¬(j:Int)< (c.length:Int)-2:=uA;have B:m=j:=by
     have:¬j<m:=fun h=>hA (ac.2 h).1;omega
    have cS:Hid _:=B;clear ac B;go_wp2_with fail
    go_meet
    case rel=>exact⟨by rw[cS.out],a4.out⟩
 case rest=>
 obtain⟨rfl,ad⟩:=hcut;obtain⟨am,bs⟩:=aa wc;subst bs;obtain⟨dX,d6⟩:=cT.out _ ad;have s:m<c.length:=uA;have cA:m+1<us.length:=by have:=f.out.2.2;omega
 have bY:am.cell? ⟨w.1.size,5,none⟩=some (.slice (nv p).sa c.length (nv p).sc):=by rw[<-d.out.2];exact dX.cell 5
 have ak:=d6.signs;rw[d.out.2]at ak;obtain⟨es,eB,bg,bZ⟩:=ak.get s;rw[eh _ _ (by rw[d.out.2];exact s),f.out.1]at bZ;rw[bg]at bY;have a6:Hid _:=(rfl:c.getD m (strOfNums [])=c.getD m (strOfNums []));generalize cq:c.getD m (strOfNums [])=b0 at*;clear a6;have a6:Hid _:=cq;have c6:Hid _:=ad;clear ak dX d6 ad cq;go_upto_region 8 with fail
 clear bZ bY bg;have cp:=c6.out.trans (⟨rfl,rfl,rfl,t6,fun _ _=>rfl⟩:Below ce.1.size am am.drew);obtain⟨ae,b6⟩:=cT.out _ cp;have br:=c5.out.trans (cp.mono c5.out.size);refine az (fun u=>u.cell? ⟨w.1.size,4,none⟩=some (.slice (nv p).da us.length (nv p).dc)/\u.cell? ⟨w.1.size,5,none⟩=some (.slice (nv p).sa c.length (nv p).sc)) (fun k=>decide (12<=k)) vk ?_;generalize am.drew=ba at*;have cs:ba.cell? ⟨w.1.size,4,none⟩=some (.slice (nv p).da us.length (nv p).dc)/\ba.cell? ⟨w.1.size,5,none⟩=some (.slice (nv p).sa c.length (nv p).sc):=⟨by rw[<-d.out.1];exact ae.cell 4,by rw[<-d.out.2];exact ae.cell 5⟩;have b7:=b6.kids;have b8:=b6.signs;rw[d.out.1]at b7;rw[d.out.2]at b8;obtain⟨P,R,ef,a8⟩:=b7.cutFrom co (i:=m+1) uA;obtain⟨Q,T,ej,a9⟩:=b8.cutFrom bM (i:=m+1) uA;refine aj 0 cs ?_;refine aj 1 cs ?_;refine aj 2 cs ?_;refine aM 3 (.int .i64 ((m+1:Nat):Int)) cs ?hy3 ?_
 case hy3=>exact fun u _=>by go_simp;exact ll _ uA uA
 refine aM 4 (.slice P (us.length-(m+1)) R) cs (fun u _=>oZ rfl rfl rfl rfl (ef u)) ?_;refine aj 5 cs ?_;refine aj 6 cs ?_;refine aj 7 cs ?_;refine aM 8 (.int .i64 ((m+1:Nat):Int)) cs ?hy8 ?_
 case hy8=>exact fun u _=>by go_simp;exact ll _ uA uA
 refine aM 9 (.slice Q (c.length-(m+1)) T) cs (fun u _=>oZ rfl rfl rfl rfl (ej u)) ?_;refine aM 10 (.agg #[.int .i64 0,.bool false,.slice none 0 0,.slice none 0 0,.slice P (us.length-(m+1)) R,.slice Q (c.length-(m+1)) T]) cs ?hb8 ?_
 case hb8=>exact fun u _=>lm rfl (by simp only[wB,ws,wz];exact xR _ _ _ _ _ _)
 refine ah 11 fun q a=> ?_;go_wp2_with fail;have bB:=bAl ba (.cells (ndc aF nd0).toArray 176);have ek:=aq ba 176 (ndc aF nd0).toArray;have cg:=vJ (bB.cell (p:=⟨w.1.size,4,none⟩) ae.lt▸cs.1) (bB.cell (p:=⟨w.1.size,5,none⟩) ae.lt▸cs.2);refine ao a ?_ (fun _=>cg);clear a q cg;refine ah 12 fun q a=> ?_;have cX:ndc ⟨none,0,none,0,P,R,Q,T⟩ (ndI 0 (us.drop (m+1)))=[.int .i64 0,.bool false,.slice none 0 0,.slice none 0 0,.slice P (us.length-(m+1)) R,.slice Q (c.length-(m+1)) T]:=by
  have:=f.out.2.2;simp[ndc,ndI];omega
 refine bK (cs:=[.int .i64 0,.bool false,.slice none 0 0,.slice none 0 0,.slice P (us.length-(m+1)) R,.slice Q (c.length-(m+1)) T]) ek rfl (by rw[<-cX];exact eo _ _) aD rfl rfl rfl ?_;intro u9 c2 d4;refine aU a ?_;clear a q ek;rw[<-cX]at c2;have H:=bB.trans (d4.below t6 bB.size);have b3:=ae.below H;have d7:=b6.below H;have ea:RNd u9 ⟨none,0,none,0,P,R,Q,T⟩ (ndI 0 (us.drop (m+1))):=by
  have bk:List.drop (m+1) (on K.kids)=on (ndI 0 (us.drop (m+1))).kids:=by rw[f.out.2.1];simp[on,ndI,List.map_drop]
  have bl:List.drop (m+1) (os K.signs)=os (ndI 0 (us.drop (m+1))).signs:=by rw[f.out.1,<-cb.out];simp[os,ndI,List.map_drop,List.map_tail,List.tail_drop]
  rw[bk]at a8;rw[bl]at a9;refine⟨gh _ _,gh _ _,?_,?_⟩
  ·rw[show(ndI 0 (us.drop (m+1))).kids.length=us.length-(m+1)by simp[ndI]];exact a8.below H
  ·rw[show(ndI 0 (us.drop (m+1))).signs.length=c.length-(m+1)by have:=f.out.2.2;simp[ndI];omega];exact a9.below H
 have cP:=b7.below H;have a0:=b8.below H;have aB:=br.trans (H.mono br.size);have eM:=ae.lt;have ap:=uv c2 (vJ ea (vJ d7 aB));have an:Hid _:=b3;have dd:u9.cell? ⟨w.1.size,4,none⟩=some (.slice (nv p).da us.length (nv p).dc):=by rw[<-d.out.1];exact b3.cell 4
 have dr:=b3.free 4;clear b7 b8 ef ej a8 a9 c2 d4 H b3 d7 ea bB ae b6 cs cX;go_upto_region 10 with(refine iM (j:=m+1) co cP (A2 cA) rfl rfl rfl (by go_num) ?_)
 intro X Z af;go_upto_region 10 with fail
 have L:=ax u9 w.1.size 4 (.slice X (m+1) Z);have F:=aw (t:=9) L an.out uB;have D:=aw (t:=3) L an.out uB;have aT:=Blk.set an.out 4 (.slice X (m+1) Z);have bv:=ap.out.1.only L uA;have A:=uv (aB.trans (L.below t6 aB.size)) (vJ bv (vJ (ap.out.2.1.keep F D) (ap.out.2.2.1.keep F D)));replace af:=af.keep D;replace a0:=a0.keep F;clear ap an aB F D L bv dd dr cP;generalize u9.setCell ⟨w.1.size,4,none⟩ (.slice X (m+1) Z)=U at*;have dk:U.cell? ⟨w.1.size,5,none⟩=some (.slice (nv p).sa c.length (nv p).sc):=by rw[<-d.out.2];exact aT.cell 5
 have ds:=aT.free 5;have C:Hid _:=aT;clear aT;go_upto_region 11 with(refine iM bM a0 (A2 s) rfl rfl rfl rfl ?_)
 intro Y ab bC;go_upto_region 11 with fail
 have M:=ax U w.1.size 5 (.slice Y m ab);have G:=aw (t:=9) M C.out uB;have E:=aw (t:=3) M C.out uB;have bu:=Blk.set C.out 5 (.slice Y m ab);have bx:=A.out.2.1.only M uA;have bb:=A.out.1.trans (M.below t6 A.out.1.size);have bF:=A.out.2.2.1.keep G E;have aX:=A.out.2.2.2.keep G E;replace af:=af.keep E;replace bC:=bC.keep G;clear A C G E M dk ds a0;generalize U.setCell ⟨w.1.size,5,none⟩ (.slice Y m ab)=eq at*;have d8:RNd eq ⟨(nv p).ka,(nv p).kc,(nv p).va,(nv p).vc,X,Z,Y,ab⟩ (ndI id (us.take (m+1))):=by
  have bk:List.take (m+1) (on K.kids)=on (ndI id (us.take (m+1))).kids:=by rw[f.out.2.1];simp[on,ndI,List.map_take]
  have bl:List.take m (os K.signs)=os (ndI id (us.take (m+1))).signs:=by
   rw[f.out.1,<-cb.out];simp only[os,ndI];cases us with
   |nil=>simp
   |cons x us=>simp[List.map_take]
  rw[<-ca.out]at aX;rw[bk]at af;rw[bl]at bC;refine⟨aX.keys,aX.vals,?_,?_⟩
  ·rw[show(ndI id (us.take (m+1))).kids.length=m+1 by simp[ndI];omega];exact af
  ·rw[show(ndI id (us.take (m+1))).signs.length=m by simp[ndI];omega];exact bC
 have dq:((ndc (nv p) K).set 4 (.slice X (m+1) Z)).set 5 (.slice Y m ab)=ndc ⟨(nv p).ka,(nv p).kc,(nv p).va,(nv p).vc,X,Z,Y,ab⟩ (ndI id (us.take (m+1))):=by
  rw[<-ca.out];simp[ndc,ndI];omega
 rw[dq]at bu;generalize (⟨(nv p).ka,(nv p).kc,(nv p).va,(nv p).vc,X,Z,Y,ab⟩:NdV)=vL at*;generalize (⟨none,0,none,0,P,R,Q,T⟩:NdV)=r at*;generalize cj:ndI id (us.take (m+1))=W at*;generalize ck:ndI 0 (us.drop (m+1))=n at*;have a7:Hid (ndI id (us.take (m+1))=W/\ndI 0 (us.drop (m+1))=n):=⟨cj,ck⟩;clear af bC aX dq cj ck;generalize ba.1.size=ag at*;have eL:=(cE cc.out.nodes b (by simp[rb])).2;have aA:Hid (∀(u:World)(k:Nat)(v:NdV)(c4:NdK),Blk u 176 k (ndc v c4)->(Instr.loadAt 176 (.pointer (some ⟨k,0,none⟩))).run prog u= .ok (.agg (ndc v c4).toArray) u):=fun u k v c4 b1=>jI u k v c4 b1;have a1:=bDr eq;have bc:=bb.trans (a1.mono bb.size);have cB:=bu.below a1;have bz:=bx.below a1;have bE:=d8.below a1;have bP:=bF.below a1;have y:=cc.out.below bc;refine az (fun u=>u.cell? ⟨g,0,none⟩=some (.slice (some ⟨b,0,none⟩) ns.length nc)/\(Instr.loadAt 176 (.pointer (some ⟨w.1.size,0,none⟩))).run prog u= .ok (.agg (ndc vL W).toArray) u) (fun k=>decide (7<=k)) vk ?_;clear a1 bu bx d8 bF bb;generalize eq.drew=cV at*;have cs:cV.cell? ⟨g,0,none⟩=some (.slice (some ⟨b,0,none⟩) ns.length nc)/\(Instr.loadAt 176 (.pointer (some ⟨w.1.size,0,none⟩))).run prog cV= .ok (.agg (ndc vL W).toArray) cV:=⟨y.blk.cell 0,aA.out _ _ _ _ cB⟩;refine aj 0 cs ?_;refine aj 1 cs ?_;refine aj 2 cs ?_;refine aj 3 cs ?_;refine aj 4 cs ?_;refine aM 5 (.agg (ndc vL W).toArray) cs ?hy5 ?_
 case hy5=>exact fun u bm=>bo (p:= .pointer (some ⟨w.1.size,0,none⟩)) rfl rfl bm.2
 refine aj 6 cs ?_;refine ah 7 fun q a=> ?_;refine iY y bE dV rfl rfl rfl ?_;intro cW bS N;refine aU a ?_;clear a q cs;have bA:=bz.only N uA;have bR:=bP.keep (cx N (lj y.nodes) uB) (cx N (lj y.nodes) uB);have ch:UFr g (some ⟨b,0,none⟩) w cW:=(OnlyS.ofBelow bc).trans ((OnlyS.ofB N).mono (fun k _ ev=>v6 (by rw[ev])));have cr:(ns.set p W).length=ns.length:=BD;have c8:Hid _:=cr;have ex:(ns.set p W).length<=1048575:=uA;have V:Hid _:=ch;clear y N cB bz bE bP bc ch cr;generalize cm:ns.set p W=l at*;generalize eA nv p vL=d2 at*;have c9:Hid _:=cm;clear cm;have c1:(some ⟨b,0,none⟩:Option Addr)≠some ⟨ag,0,none⟩:=fun e=>by cases e;omega
 go_wp2_with fail;have bf:=bDr cW;have O:=bS.below bf;have b4:=bA.below bf;have d9:=bR.below bf;refine az (fun u=>u.cell? ⟨g,0,none⟩=some (.slice (some ⟨b,0,none⟩) l.length nc)/\(Instr.loadAt 176 (.pointer (some ⟨ag,0,none⟩))).run prog u= .ok (.agg (ndc r n).toArray) u) (fun k=>decide (8<=k)) vk ?_;generalize cW.drew=z at*;have cs:z.cell? ⟨g,0,none⟩=some (.slice (some ⟨b,0,none⟩) l.length nc)/\(Instr.loadAt 176 (.pointer (some ⟨ag,0,none⟩))).run prog z= .ok (.agg (ndc r n).toArray) z:=⟨O.blk.cell 0,aA.out _ _ _ _ b4⟩;have b5:=bAl z (.cells (ndc r n).toArray 176);have dp:(z.alloc (.cells (ndc r n).toArray 176)).cell? ⟨g,0,none⟩=some (.slice (some ⟨b,0,none⟩) l.length nc)/\(Instr.loadAt 176 (.pointer (some ⟨ag,0,none⟩))).run prog (z.alloc (.cells (ndc r n).toArray 176))= .ok (.agg (ndc r n).toArray) (z.alloc (.cells (ndc r n).toArray 176)):=⟨(O.below b5).blk.cell 0,aA.out _ _ _ _ (b4.below b5)⟩;have a5:Hid _:=bf;have o:=uv O (vJ d9 (b4.below b5));have dP:=O.gB;clear bf O d9 b4 b5;refine aj 0 cs ?_;refine aj 1 cs ?_;refine aj 2 cs ?_;refine aj 3 cs ?_;refine aj 4 cs ?_;refine aM 5 (.agg (ndc r n).toArray) cs ?hyp5 ?_
 case hyp5=>exact fun u bm=>bo (p:= .pointer (some ⟨ag,0,none⟩)) rfl rfl bm.2
 refine ah 6 fun q a=> ?_;refine bU _ _ _ rfl (v:= .slice (some ⟨z.1.size,0,none⟩) 1 1) (w':=(z.alloc (.cells (ndc r n).toArray 176))) ?bsp ?_
 case bsp=>
  simp only[wB,ws,wz];exact fq eY uA (.agg (ndc r n).toArray) (ndc r n) rfl rfl z
 refine ao a ?_;clear a q;refine ah 7 fun q a=> ?_;refine gW _ _ eY rfl B0 (some ⟨b,0,none⟩) l.length nc (cd d2 l) rfl o.out.1.nodes (ndc r n) rfl (eo _ _) rfl uA uA dP ?_;intro a2 bd a3 d3 dc I cf;have J:Blk a3 176 ag (ndc r n):=(I.block ag o.out.2.2.lt (rK o.out.1.nodes c1).symm).trans o.out.2.2;have b2:Blk a3 116 g _:=o.out.1.blk.keepT ((aV (bAl _ _)).trans (bD (bQ o.out.1.nodes (bAl _ _)) I uB));have bX:a3.cell? ⟨g,0,none⟩=some (.slice (some ⟨b,0,none⟩) l.length nc):=b2.cell 0;refine a.out _ _ (fun _=>⟨bX,aA.out _ _ _ _ J⟩) ?_;clear a q;have cR:=o.out.1.push o.out.2.1 d3 dc I;have dD:=UFr.push (u:= .slice (some ⟨a2,0,none⟩) (l.length+1) bd) o.out.1 I;have cM:=ax a3 g 0 (.slice (some ⟨a2,0,none⟩) (l.length+1) bd);have cL:=J.only cM (fun e=>by have:=b2;rw[<-e]at this;unfold Blk at this J;rw[J]at this;cases this);have dE:=b2.free 0;have bW:=uv cR (vJ dD (vJ cf cL));clear cR dD b2 d3 dc I cf dp J cL cM;refine ah 8 fun q a=> ?_;go_wp2_with fail;refine ao a ?_;clear a q;refine ah 9 fun q a=> ?_;go_wp2_with fail;refine ao a ?_;clear a q;refine ah 10 fun q a=> ?_;go_wp2_with fail;refine aU a ?_;clear a q bX dE cs;have bT:=bW.out.1;have en:Hid (UQ B0 g rest rt (some ⟨b,0,none⟩) w (a3.setCell ⟨g,0,none⟩ (.slice (some ⟨a2,0,none⟩) (l.length+1) bd)) (l++[n])):=bT.uq (V.out.trans ((OnlyS.ofBelow a5.out).trans bW.out.2.1)) (by
  rcases bW.out.2.2.1 with e|e
  ·exact v7 e.symm
  ·refine v6 ⟨a2,rfl,?_⟩;have eR:=V.out.size;have eU:=a5.out.size;omega)
 generalize a3.setCell ⟨g,0,none⟩ (.slice (some ⟨a2,0,none⟩) (l.length+1) bd)=c4 at*;have bX:c4.cell? ⟨g,0,none⟩=some (.slice (some ⟨a2,0,none⟩) (l++[n]).length bd):=bT.blk.cell 0;rw[wb,yb]at bX;clear bT o bW a5 V bR bA bS;go_wp2_with fail
 go_ret2
 rw[a6.out,a7.out.1,a7.out.2,c9.out];rw[<-c8.out];exact⟨rfl,en.out⟩
end
