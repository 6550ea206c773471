import Derived.Test.YtglbanolhhjjiaaGreatDoorFo27
import Derived.Deep.CutBlock
namespace Go.Proofs.YtglbanolhhjjiaaGreatDoor
open Go.Proofs.Tryz
open Go.RowKit
set_option linter.unusedVariables false
set_option maxRecDepth 100000
set_option maxHeartbeats 32000000
section
theorem xT:∀(b:List ByteArray)(a j:Nat),j<=ctS a b->j<b.length->(j+2<b.length/\a+aH (b.take j)+gSz (b.getD j (strOfNums []))<=240↔j<ctS a b)
 |[],a,j,_,g=>by simp at g
 |e::es,a,0,_,_=>by
  rw[ctS];simp only[List.take_zero,List.getD_cons_zero,aH,v6,List.sum_nil,wR,wQ];split<;>omega
 |e::es,a,j+1,c,d=>by
  rw[ctS]at c ⊢;split at c
  ·rename_i f;rw[BC f];have:=xT es (a+gSz e) j t7 (by simpa using d);rw[A5,fW,A6,wQ];omega
  ·omega
theorem jI(u k v a)(b:Blk u 176 k (ndc v a)):(Instr.loadAt 176 (.pointer (some ⟨k,0,none⟩))).run prog u= .ok (.agg (ndc v a).toArray) u:=by
 simp only[Instr.loadAt,Instr.sureAddr,B3,Ct,Result.andThen];exact C3 u k 176 176 (ndc v a).toArray (0,0) _ b underlying176 rfl aD
variable {B0 g:Nat} {rest:List Value} {rt:Int} {w:World} {ns:List NdK} {nv:Nat->NdV} {na:Option Addr} {nc:Nat}
theorem FD(b8:USt B0 g rest rt w ns nv na nc){p id us}(a:ns[p]?=some (ndI id us))(cz:2<=(us.tail.map (·.1)).length)(e1:aH (us.tail.map (·.1))<=1000000)(eN:ns.length<=1048575):
 Calls prog 165 #[.pointer (some ⟨g,0,none⟩),.int .i64 (p:Nat)] w fun e w'=>e= .returned (.tuple #[.int .i64 (ns.length:Nat),.string ((us.tail.map (·.1)).getD (ctS 4 (us.tail.map (·.1))) (strOfNums []))])/\UQ B0 g rest rt na w w' (ns.set p (ndI id (us.take (ctS 4 (us.tail.map (·.1))+1)))++[ndI 0 (us.drop (ctS 4 (us.tail.map (·.1))+1))]):=by
 obtain⟨eW,_⟩:=oo (us.tail.map (·.1)) 4 cz t7;have ek:Hid (∀j,j<=ctS 4 (us.tail.map (·.1))->(j+2< (us.tail.map (·.1)).length/\4+aH ((us.tail.map (·.1)).take j)+gSz ((us.tail.map (·.1)).getD j (strOfNums []))<=240↔j<ctS 4 (us.tail.map (·.1)))):=fun j c0=>xT _ 4 j c0 t7;have eV:=gQ (us.tail.map (·.1));have f:Hid ((ndI id us).signs=us.tail.map (·.1)/\(ndI id us).kids=us.map (·.2)/\(us.tail.map (·.1)).length+1=us.length):=⟨rfl,rfl,by simp at cz ⊢;omega⟩;generalize cn:us.tail.map (·.1)=c at*;have cb:Hid _:=cn;generalize ctS 4 c=m at*;have cc:Hid _:=b8;obtain⟨b,rfl,aB,dS,dU⟩:=b8.cells a;have dl:w.cell? ⟨g,0,none⟩=some (.slice (some ⟨b,0,none⟩) ns.length nc):=b8.blk.cell 0;generalize cl:ndI id us=K at*;have d:Hid (K.kids.length=us.length/\K.signs.length=c.length):=by show _/\_;rw[f.out.1,f.out.2.1];simp
 have c3:=bAl w (.cells (ndc (nv p) K).toArray 176);have dX:=aq w 176 (ndc (nv p) K).toArray;have db:=dS.below c3;have ea:(prog.info? 176).map (·.size)=some (ndc (nv p) K).length:=aD;have ca:Hid _:=cl;clear cl cn;go_enter func165,ntmps165;go_upto_region 2 with(first|(refine dG rfl 176 _ rfl b (p*6) rfl (ndc (nv p) K) _ aB underlying176 rfl ea ?_)|(refine bt rfl 176 _ _ rfl w (ndc aF nd0).toArray (ndc (nv p) K).toArray 176 rfl rfl aD rfl (cy _ _) ?_))
 change Code.wp _ _ _ _ (w.alloc (.cells (ndc (nv p) K).toArray 176));generalize w.alloc (.cells (ndc (nv p) K).toArray 176)=ce at*;have cD:Blk ce 176 w.1.size (ndc (nv p) K):=dX;have cT:Hid (∀u,Below ce.1.size ce u->Blk u 176 w.1.size (ndc (nv p) K)/\RNd u (nv p) K):=fun u b0=>⟨cD.below b0,db.below b0⟩;have c5:Hid _:=c3;clear dX cD db dS c3 aB dl b8 a ea;go_upto_block 0 with fail
 go_cut [7] (fun eC eK=>eC= .int .i64 (m:Nat)/\Below ce.1.size ce eK)
 case first=>
  go_wp2_with fail;go_loopw [7,8] (fun x v wr=> ∃j:Nat,x= .int .i64 (j:Nat)/\v= .int .i64 (4+aH (c.take j):Nat)/\j<=m/\Below ce.1.size ce wr) (fun x _ _=>us.length-(intOf x).toNat)
  case atStart=>exact⟨0,rfl,rfl,u6 _,t2⟩
  case round=>
   obtain⟨j,rfl,rfl,c0,bm⟩:=hrel;obtain⟨ak,br⟩:=aa wr;subst br;obtain⟨dV,d4⟩:=cT.out ak bm;have bX:ak.cell? ⟨w.1.size,5,none⟩=some (.slice (nv p).sa c.length (nv p).sc):=by rw[<-d.out.2];exact dV.cell 5
   have a3:Hid _:=bm;have r:j<c.length:=t7;have ag:=d4.signs;rw[d.out.2]at ag;obtain⟨eq,eB,bf,bY⟩:=ag.get r;rw[eh _ _ (by rw[d.out.2];exact r),f.out.1]at bY;rw[bf]at bX;have da:Hid _:=xM r;have cv:=xK c (j+1);rw[da.out]at cv;have ab:=ek.out j c0;have c7:Hid (gSz (c.getD j (strOfNums []))=5+(c.getD j (strOfNums [])).size):=rfl;rw[c7.out]at cv ab;have cA:j<us.length:=by have:=f.out.2.2;omega
   generalize c.getD j (strOfNums [])=bZ at*;generalize aH (c.take j)=S at*;clear ag dV d4 bm bf;by_cases hA:j+2<c.length
   ·have dF:(j:Int)< (c.length:Int)-2:=t7;by_cases et:S+(5+bZ.size)+4<=240
    ·have dI:(4+(S:Int))+5+(bZ.size:Int)<=240:=t7;have A:=ab.1 ⟨hA,t7⟩;clear ab;go_wp2_with fail;go_roundw
     case rel=>exact⟨j+1,by go_num,by rw[da.out,c7.out];go_num,t7,a3.out⟩
     case measure=>simp[intOf];omega
    ·have dI:¬(4+(S:Int))+5+(bZ.size:Int)<=240:=t7;have A:m=j:=by
      have:¬j<m:=fun es=>et (by have:=(ab.2 es).2;omega);omega
     have cS:Hid _:=A;clear ab A;go_wp2_with fail
     go_meet
     case rel=>exact⟨by rw[cS.out],a3.out⟩
   ·have dF:¬(j:Int)< (c.length:Int)-2:=t7;have A:m=j:=by
     have:¬j<m:=fun es=>hA (ab.2 es).1;omega
    have cS:Hid _:=A;clear ab A;go_wp2_with fail
    go_meet
    case rel=>exact⟨by rw[cS.out],a3.out⟩
 case rest=>
 obtain⟨rfl,ac⟩:=hcut;obtain⟨ak,br⟩:=aa wc;subst br;obtain⟨dW,d5⟩:=cT.out _ ac;have r:m<c.length:=t7;have cA:m+1<us.length:=by have:=f.out.2.2;omega
 have bX:ak.cell? ⟨w.1.size,5,none⟩=some (.slice (nv p).sa c.length (nv p).sc):=by rw[<-d.out.2];exact dW.cell 5
 have ag:=d5.signs;rw[d.out.2]at ag;obtain⟨eq,eB,bf,bY⟩:=ag.get r;rw[eh _ _ (by rw[d.out.2];exact r),f.out.1]at bY;rw[bf]at bX;have a5:Hid _:=(rfl:c.getD m (strOfNums [])=c.getD m (strOfNums []));generalize cq:c.getD m (strOfNums [])=bZ at*;clear a5;have a5:Hid _:=cq;have c6:Hid _:=ac;clear ag dW d5 ac cq;go_upto_region 8 with fail
 clear bY bX bf;have cp:=c6.out.trans (⟨rfl,rfl,rfl,t1,fun _ _=>rfl⟩:Below ce.1.size ak ak.drew);obtain⟨ad,b5⟩:=cT.out _ cp;have bn:=c5.out.trans (cp.mono c5.out.size);refine az (fun u=>u.cell? ⟨w.1.size,4,none⟩=some (.slice (nv p).da us.length (nv p).dc)/\u.cell? ⟨w.1.size,5,none⟩=some (.slice (nv p).sa c.length (nv p).sc)) (fun k=>decide (12<=k)) uA ?_;generalize ak.drew=a9 at*;have cs:a9.cell? ⟨w.1.size,4,none⟩=some (.slice (nv p).da us.length (nv p).dc)/\a9.cell? ⟨w.1.size,5,none⟩=some (.slice (nv p).sa c.length (nv p).sc):=⟨by rw[<-d.out.1];exact ad.cell 4,by rw[<-d.out.2];exact ad.cell 5⟩;have b6:=b5.kids;have b7:=b5.signs;rw[d.out.1]at b6;rw[d.out.2]at b7;obtain⟨O,Q,eb,a7⟩:=b6.cutFrom co (i:=m+1) t7;obtain⟨P,R,ef,a8⟩:=b7.cutFrom bM (i:=m+1) t7;refine aj 0 cs ?_;refine aj 1 cs ?_;refine aj 2 cs ?_;refine aM 3 (.int .i64 ((m+1:Nat):Int)) cs ?hy3 ?_
 case hy3=>exact fun u _=>by go_simp;exact ll _ t7 t7
 refine aM 4 (.slice O (us.length-(m+1)) Q) cs (fun u _=>oZ rfl rfl rfl rfl (eb u)) ?_;refine aj 5 cs ?_;refine aj 6 cs ?_;refine aj 7 cs ?_;refine aM 8 (.int .i64 ((m+1:Nat):Int)) cs ?hy8 ?_
 case hy8=>exact fun u _=>by go_simp;exact ll _ t7 t7
 refine aM 9 (.slice P (c.length-(m+1)) R) cs (fun u _=>oZ rfl rfl rfl rfl (ef u)) ?_;refine aM 10 (.agg #[.int .i64 0,.bool false,.slice none 0 0,.slice none 0 0,.slice O (us.length-(m+1)) Q,.slice P (c.length-(m+1)) R]) cs ?hb8 ?_
 case hb8=>exact fun u _=>lm rfl (by simp only[wa,vo,v6];exact xR _ _ _ _ _ _)
 refine ah 11 fun o a=> ?_;go_wp2_with fail;have bA:=bAl a9 (.cells (ndc aF nd0).toArray 176);have ej:=aq a9 176 (ndc aF nd0).toArray;have cg:=u2 (bA.cell (p:=⟨w.1.size,4,none⟩) ad.lt▸cs.1) (bA.cell (p:=⟨w.1.size,5,none⟩) ad.lt▸cs.2);refine ao a ?_ (fun _=>cg);clear a o cg;refine ah 12 fun o a=> ?_;have cX:ndc ⟨none,0,none,0,O,Q,P,R⟩ (ndI 0 (us.drop (m+1)))=[.int .i64 0,.bool false,.slice none 0 0,.slice none 0 0,.slice O (us.length-(m+1)) Q,.slice P (c.length-(m+1)) R]:=by
  have:=f.out.2.2;simp[ndc,ndI];omega
 refine bK (cs:=[.int .i64 0,.bool false,.slice none 0 0,.slice none 0 0,.slice O (us.length-(m+1)) Q,.slice P (c.length-(m+1)) R]) ej rfl (by rw[<-cX];exact eo _ _) aD rfl rfl rfl ?_;intro b9 c2 d3;refine aU a ?_;clear a o ej;rw[<-cX]at c2;have G:=bA.trans (d3.below t1 bA.size);have b2:=ad.below G;have d6:=b5.below G;have d9:RNd b9 ⟨none,0,none,0,O,Q,P,R⟩ (ndI 0 (us.drop (m+1))):=by
  have bg:List.drop (m+1) (on K.kids)=on (ndI 0 (us.drop (m+1))).kids:=by rw[f.out.2.1];simp[on,ndI,List.map_drop]
  have bk:List.drop (m+1) (os K.signs)=os (ndI 0 (us.drop (m+1))).signs:=by rw[f.out.1,<-cb.out];simp[os,ndI,List.map_drop,List.map_tail,List.tail_drop]
  rw[bg]at a7;rw[bk]at a8;refine⟨gh _ _,gh _ _,?_,?_⟩
  ·rw[show(ndI 0 (us.drop (m+1))).kids.length=us.length-(m+1)by simp[ndI]];exact a7.below G
  ·rw[show(ndI 0 (us.drop (m+1))).signs.length=c.length-(m+1)by have:=f.out.2.2;simp[ndI];omega];exact a8.below G
 have cP:=b6.below G;have aX:=b7.below G;have aA:=bn.trans (G.mono bn.size);have eM:=ad.lt;have an:=t6 c2 (u2 d9 (u2 d6 aA));have am:Hid _:=b2;have dd:b9.cell? ⟨w.1.size,4,none⟩=some (.slice (nv p).da us.length (nv p).dc):=by rw[<-d.out.1];exact b2.cell 4
 have dr:=b2.free 4;clear b6 b7 eb ef a7 a8 c2 d3 G b2 d6 d9 bA ad b5 cs cX;go_upto_region 10 with(refine iM (j:=m+1) co cP (z2 cA) rfl rfl rfl (by go_num) ?_)
 intro W Y ae;go_upto_region 10 with fail
 have J:=ax b9 w.1.size 4 (.slice W (m+1) Y);have E:=aw (t:=9) J am.out uv;have C:=aw (t:=3) J am.out uv;have aS:=Blk.set am.out 4 (.slice W (m+1) Y);have bu:=an.out.1.only J t7;have z:=t6 (aA.trans (J.below t1 aA.size)) (u2 bu (u2 (an.out.2.1.keep E C) (an.out.2.2.1.keep E C)));replace ae:=ae.keep C;replace aX:=aX.keep E;clear an am aA E C J bu dd dr cP;generalize b9.setCell ⟨w.1.size,4,none⟩ (.slice W (m+1) Y)=U at*;have dk:U.cell? ⟨w.1.size,5,none⟩=some (.slice (nv p).sa c.length (nv p).sc):=by rw[<-d.out.2];exact aS.cell 5
 have ds:=aS.free 5;have B:Hid _:=aS;clear aS;go_upto_region 11 with(refine iM bM aX (z2 r) rfl rfl rfl rfl ?_)
 intro X Z bB;go_upto_region 11 with fail
 have L:=ax U w.1.size 5 (.slice X m Z);have F:=aw (t:=9) L B.out uv;have D:=aw (t:=3) L B.out uv;have bs:=Blk.set B.out 5 (.slice X m Z);have bv:=z.out.2.1.only L t7;have ba:=z.out.1.trans (L.below t1 z.out.1.size);have bE:=z.out.2.2.1.keep F D;have aT:=z.out.2.2.2.keep F D;replace ae:=ae.keep D;replace bB:=bB.keep F;clear z B F D L dk ds aX;generalize U.setCell ⟨w.1.size,5,none⟩ (.slice X m Z)=en at*;have d7:RNd en ⟨(nv p).ka,(nv p).kc,(nv p).va,(nv p).vc,W,Y,X,Z⟩ (ndI id (us.take (m+1))):=by
  have bg:List.take (m+1) (on K.kids)=on (ndI id (us.take (m+1))).kids:=by rw[f.out.2.1];simp[on,ndI,List.map_take]
  have bk:List.take m (os K.signs)=os (ndI id (us.take (m+1))).signs:=by
   rw[f.out.1,<-cb.out];simp only[os,ndI];cases us with
   |nil=>simp
   |cons x us=>simp[List.map_take]
  rw[<-ca.out]at aT;rw[bg]at ae;rw[bk]at bB;refine⟨aT.keys,aT.vals,?_,?_⟩
  ·rw[show(ndI id (us.take (m+1))).kids.length=m+1 by simp[ndI];omega];exact ae
  ·rw[show(ndI id (us.take (m+1))).signs.length=m by simp[ndI];omega];exact bB
 have dq:((ndc (nv p) K).set 4 (.slice W (m+1) Y)).set 5 (.slice X m Z)=ndc ⟨(nv p).ka,(nv p).kc,(nv p).va,(nv p).vc,W,Y,X,Z⟩ (ndI id (us.take (m+1))):=by
  rw[<-ca.out];simp[ndc,ndI];omega
 rw[dq]at bs;generalize (⟨(nv p).ka,(nv p).kc,(nv p).va,(nv p).vc,W,Y,X,Z⟩:NdV)=vL at*;generalize (⟨none,0,none,0,O,Q,P,R⟩:NdV)=q at*;generalize cj:ndI id (us.take (m+1))=V at*;generalize ck:ndI 0 (us.drop (m+1))=l at*;have a6:Hid (ndI id (us.take (m+1))=V/\ndI 0 (us.drop (m+1))=l):=⟨cj,ck⟩;clear ae bB aT dq cj ck;generalize a9.1.size=af at*;have eL:=(cE cc.out.nodes b (by simp[rb])).2;have ap:Hid (∀(u:World)(k:Nat)(v:NdV)(c4:NdK),Blk u 176 k (ndc v c4)->(Instr.loadAt 176 (.pointer (some ⟨k,0,none⟩))).run prog u= .ok (.agg (ndc v c4).toArray) u):=fun u k v c4 b0=>jI u k v c4 b0;have a0:=bDr en;have bb:=ba.trans (a0.mono ba.size);have cB:=bs.below a0;have bx:=bv.below a0;have bC:=d7.below a0;have bF:=bE.below a0;have s:=cc.out.below bb;refine az (fun u=>u.cell? ⟨g,0,none⟩=some (.slice (some ⟨b,0,none⟩) ns.length nc)/\(Instr.loadAt 176 (.pointer (some ⟨w.1.size,0,none⟩))).run prog u= .ok (.agg (ndc vL V).toArray) u) (fun k=>decide (7<=k)) uA ?_;clear a0 bs bv d7 bE ba;generalize en.drew=cV at*;have cs:cV.cell? ⟨g,0,none⟩=some (.slice (some ⟨b,0,none⟩) ns.length nc)/\(Instr.loadAt 176 (.pointer (some ⟨w.1.size,0,none⟩))).run prog cV= .ok (.agg (ndc vL V).toArray) cV:=⟨s.blk.cell 0,ap.out _ _ _ _ cB⟩;refine aj 0 cs ?_;refine aj 1 cs ?_;refine aj 2 cs ?_;refine aj 3 cs ?_;refine aj 4 cs ?_;refine aM 5 (.agg (ndc vL V).toArray) cs ?hy5 ?_
 case hy5=>exact fun u bl=>bo (p:= .pointer (some ⟨w.1.size,0,none⟩)) rfl rfl bl.2
 refine aj 6 cs ?_;refine ah 7 fun o a=> ?_;refine iY s bC dU rfl rfl rfl ?_;intro cW bR M;refine aU a ?_;clear a o cs;have bz:=bx.only M t7;have bP:=bF.keep (cx M (lj s.nodes) uv) (cx M (lj s.nodes) uv);have ch:UFr g (some ⟨b,0,none⟩) w cW:=(OnlyS.ofBelow bb).trans ((OnlyS.ofB M).mono (fun k _ ev=>u4 (by rw[ev])));have cr:(ns.set p V).length=ns.length:=A1;have c8:Hid _:=cr;have ex:(ns.set p V).length<=1048575:=t7;have T:Hid _:=ch;clear s M cB bx bC bF bb ch cr;generalize cm:ns.set p V=h at*;generalize eA nv p vL=d1 at*;have c9:Hid _:=cm;clear cm;have c1:(some ⟨b,0,none⟩:Option Addr)≠some ⟨af,0,none⟩:=fun e=>by cases e;omega
 go_wp2_with fail;have bd:=bDr cW;have N:=bR.below bd;have b3:=bz.below bd;have d8:=bP.below bd;refine az (fun u=>u.cell? ⟨g,0,none⟩=some (.slice (some ⟨b,0,none⟩) h.length nc)/\(Instr.loadAt 176 (.pointer (some ⟨af,0,none⟩))).run prog u= .ok (.agg (ndc q l).toArray) u) (fun k=>decide (8<=k)) uA ?_;generalize cW.drew=y at*;have cs:y.cell? ⟨g,0,none⟩=some (.slice (some ⟨b,0,none⟩) h.length nc)/\(Instr.loadAt 176 (.pointer (some ⟨af,0,none⟩))).run prog y= .ok (.agg (ndc q l).toArray) y:=⟨N.blk.cell 0,ap.out _ _ _ _ b3⟩;have b4:=bAl y (.cells (ndc q l).toArray 176);have dp:(y.alloc (.cells (ndc q l).toArray 176)).cell? ⟨g,0,none⟩=some (.slice (some ⟨b,0,none⟩) h.length nc)/\(Instr.loadAt 176 (.pointer (some ⟨af,0,none⟩))).run prog (y.alloc (.cells (ndc q l).toArray 176))= .ok (.agg (ndc q l).toArray) (y.alloc (.cells (ndc q l).toArray 176)):=⟨(N.below b4).blk.cell 0,ap.out _ _ _ _ (b3.below b4)⟩;have a4:Hid _:=bd;have n:=t6 N (u2 d8 (b3.below b4));have dP:=N.gB;clear bd N d8 b3 b4;refine aj 0 cs ?_;refine aj 1 cs ?_;refine aj 2 cs ?_;refine aj 3 cs ?_;refine aj 4 cs ?_;refine aM 5 (.agg (ndc q l).toArray) cs ?hyp5 ?_
 case hyp5=>exact fun u bl=>bo (p:= .pointer (some ⟨af,0,none⟩)) rfl rfl bl.2
 refine ah 6 fun o a=> ?_;refine bU _ _ _ rfl (v:= .slice (some ⟨y.1.size,0,none⟩) 1 1) (w':=(y.alloc (.cells (ndc q l).toArray 176))) ?bsp ?_
 case bsp=>
  simp only[wa,vo,v6];exact fq eY t7 (.agg (ndc q l).toArray) (ndc q l) rfl rfl y
 refine ao a ?_;clear a o;refine ah 7 fun o a=> ?_;refine gW _ _ eY rfl B0 (some ⟨b,0,none⟩) h.length nc (cd d1 h) rfl n.out.1.nodes (ndc q l) rfl (eo _ _) rfl t7 t7 dP ?_;intro a1 bc a2 d2 dc H cf;have I:Blk a2 176 af (ndc q l):=(H.block af n.out.2.2.lt (rK n.out.1.nodes c1).symm).trans n.out.2.2;have b1:Blk a2 116 g _:=n.out.1.blk.keepT ((aV (bAl _ _)).trans (bD (bQ n.out.1.nodes (bAl _ _)) H uv));have bW:a2.cell? ⟨g,0,none⟩=some (.slice (some ⟨b,0,none⟩) h.length nc):=b1.cell 0;refine a.out _ _ (fun _=>⟨bW,ap.out _ _ _ _ I⟩) ?_;clear a o;have cR:=n.out.1.push n.out.2.1 d2 dc H;have dD:=UFr.push (u:= .slice (some ⟨a1,0,none⟩) (h.length+1) bc) n.out.1 H;have cM:=ax a2 g 0 (.slice (some ⟨a1,0,none⟩) (h.length+1) bc);have cL:=I.only cM (fun e=>by have:=b1;rw[<-e]at this;unfold Blk at this I;rw[I]at this;cases this);have dE:=b1.free 0;have bT:=t6 cR (u2 dD (u2 cf cL));clear cR dD b1 d2 dc H cf dp I cL cM;refine ah 8 fun o a=> ?_;go_wp2_with fail;refine ao a ?_;clear a o;refine ah 9 fun o a=> ?_;go_wp2_with fail;refine ao a ?_;clear a o;refine ah 10 fun o a=> ?_;go_wp2_with fail;refine aU a ?_;clear a o bW dE cs;have bS:=bT.out.1;have em:Hid (UQ B0 g rest rt (some ⟨b,0,none⟩) w (a2.setCell ⟨g,0,none⟩ (.slice (some ⟨a1,0,none⟩) (h.length+1) bc)) (h++[l])):=bS.uq (T.out.trans ((OnlyS.ofBelow a4.out).trans bT.out.2.1)) (by
  rcases bT.out.2.2.1 with e|e
  ·exact u5 e.symm
  ·refine u4 ⟨a1,rfl,?_⟩;have eR:=T.out.size;have eU:=a4.out.size;omega)
 generalize a2.setCell ⟨g,0,none⟩ (.slice (some ⟨a1,0,none⟩) (h.length+1) bc)=c4 at*;have bW:c4.cell? ⟨g,0,none⟩=some (.slice (some ⟨a1,0,none⟩) (h++[l]).length bc):=bS.blk.cell 0;rw[u7,x2]at bW;clear bS n bT a4 T bP bz bR;go_wp2_with fail
 go_ret2
 rw[a5.out,a6.out.1,a6.out.2,c9.out];rw[<-c8.out];exact⟨rfl,em.out⟩
end
