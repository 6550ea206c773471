import Derived.Test.YtglbanolhhjjiaaGreatDoorFo41
namespace Go.Proofs.YtglbanolhhjjiaaGreatDoor
open Go.Proofs.Tryz
open Go.RowKit
set_option linter.unusedVariables false
set_option maxRecDepth 100000
set_option maxHeartbeats 32000000
section
variable {B0 g:Nat} {rest:List Value} {rt:Int} {w:World} {ns:List NdK} {nv:Nat->NdV} {na:Option Addr} {nc:Nat}
theorem yJ(es:List En)(a:∀e∈es,e.1.size<=40/\e.2.size<=70):∀j,lSz (es.take j)<=112*j:=by
 induction es with
 |nil=>intro j;simp[lSz]
 |cons e es ih=>
  intro j;cases j with
  |zero=>simp[lSz]
  |succ j=>
   rw[BX,gz];have b:=ih (fun x hx=>a x (by simp[hx])) j;have c:=a e vo;simp only[eSz];omega
theorem sk(n:Nat)(h:n<=255):IntKind.u8.wrap (n:Int)=(n:Int):=by simp[IntKind.wrap,IntKind.bits,IntKind.signed];omega
theorem yK(dc:USt B0 g rest rt w ns nv na nc){p K}(f:ns[p]?=some K)(es)(us:List Pl)(d8:K.keys=es.map (·.1))(ej:K.vals=es.map (·.2))(d6:K.kids=us.map (·.2))(eb:K.signs=us.tail.map (·.1))(d7:∀e∈es,e.1.size<=40/\e.2.size<=70)(f6:∀u∈us.tail,u.1.size<=40)(gg:es.length<=1000)(gs:us.length<=1000)(cA)(dE:cA.length=us.length)(dF:∀m,m<us.length->∃(q:Nat)(fM:NdK),(us.getD m (strOfNums [],0)).2=(q:Int)/\ns[q]?=some fM/\fM.page=cA.getD m 0/\0<=fM.page/\fM.page<=1048576)(gp:ns.length<=1048576)(bR)(c6:bR=lfB es++iBd 0 ((us.map (·.1)).zip cA)):
 Calls prog 137 #[.pointer (some ⟨g,0,none⟩),.int .i64 (p:Nat)] w fun e w'=> ∃a c,e= .returned (.slice a bR.length c)/\Below w.1.size w w'/\Own w.1.size w' a bR.length c bR:=by
 obtain⟨b,rfl,cP,e2,gr⟩:=dc.cells f;have eV:w.cell? ⟨g,0,none⟩=some (.slice (some ⟨b,0,none⟩) ns.length nc):=dc.blk.cell 0;have db:=bAl w (.cells (ndc (nv p) K).toArray 176);have fm:=aq w 176 (ndc (nv p) K).toArray;have gf:(w.alloc (.cells (ndc (nv p) K).toArray 176)).1.size=w.1.size+1:=by simp
 have c1:=e2.below db;have dS:=dc.below db;have fD:(prog.info? 176).map (·.size)=some (ndc (nv p) K).length:=aD;go_enter func137,ntmps137;go_upto_region 2 with(first|(refine dG rfl 176 _ rfl b (p*6) rfl (ndc (nv p) K) _ cP underlying176 rfl fD ?_)|(refine bt rfl 176 _ _ rfl w (ndc aF nd0).toArray (ndc (nv p) K).toArray 176 rfl rfl aD rfl (cy _ _) ?_))
 change Code.wp _ _ _ _ (w.alloc (.cells (ndc (nv p) K).toArray 176));generalize w.alloc (.cells (ndc (nv p) K).toArray 176)=a3 at*;have bY:Blk a3 176 w.1.size (ndc (nv p) K):=fm;obtain⟨O,cR⟩:=aa w.1.size;obtain⟨B,c2⟩:=aa a3.1.size;rw[<-cR]at bY;have bn:O<B:=uA;have aX:B<=a3.1.size:=uA;have a5:=uv db (vJ dS (vJ c2 cR));rw[<-cR];have ft:R1 9 a3 (nv p).ka es.length (nv p).kc (os (es.map (·.1))):=by have:=c1.keys;rw[d8]at this;simpa using this
 have fB:R1 9 a3 (nv p).va es.length (nv p).vc (os (es.map (·.2))):=by have:=c1.vals;rw[ej]at this;simpa using this
 have fs:R1 3 a3 (nv p).da us.length (nv p).dc (on (us.map (·.2))):=by have:=c1.kids;rw[d6]at this;simpa using this
 have fz:R1 9 a3 (nv p).sa (us.length-1) (nv p).sc (os (us.tail.map (·.1))):=by have:=c1.signs;rw[eb]at this;simpa using this
 have d2:a3.cell? ⟨O,2,none⟩=some (.slice (nv p).ka es.length (nv p).kc):=by have h:=bY.cell 2;rw[show(ndc (nv p) K)[2]?=some (.slice (nv p).ka K.keys.length (nv p).kc)from rfl,d8,y2]at h;exact h
 have eW:a3.cell? ⟨O,3,none⟩=some (.slice (nv p).va es.length (nv p).vc):=by have h:=bY.cell 3;rw[show(ndc (nv p) K)[3]?=some (.slice (nv p).va K.vals.length (nv p).vc)from rfl,ej,y2]at h;exact h
 have d3:a3.cell? ⟨O,4,none⟩=some (.slice (nv p).da us.length (nv p).dc):=by have h:=bY.cell 4;rw[show(ndc (nv p) K)[4]?=some (.slice (nv p).da K.kids.length (nv p).dc)from rfl,d6,y2]at h;exact h
 have e1:a3.cell? ⟨O,5,none⟩=some (.slice (nv p).sa (us.length-1) (nv p).sc):=by have h:=bY.cell 5;rw[show(ndc (nv p) K)[5]?=some (.slice (nv p).sa K.signs.length (nv p).sc)from rfl,eb,y2,List.length_tail]at h;exact h
 have c5:∀(x:List Value)(a:Option Addr)(n c:Nat)(e:Nat),R1 e a3 a n c x->∀dX dP,0<n->a=some ⟨dX,dP,none⟩->dX<B:=fun x a n c e h dX dP f9 bZ=>by
  obtain⟨gw,gc,cr,⟨cs,fr,f7⟩,_⟩:=h.at_ f9;rw[bZ]at cr;cases cr;rw[c2];exact(wy.1 f7).1
 have ae:=uv ft (vJ fB (vJ fs (vJ fz c5)));have cW:Hid _:=c6;have c0:=uv dE dF;have fo:Own B (a3.alloc (.cells #[] 5)) (some ⟨a3.1.size,0,none⟩) 0 0 []:=eI a3 [] 0 rfl uA B aX;have eR:Below B a3 (a3.alloc (.cells #[] 5)):=t7.alloc aX _;have dW:=uv eR fo;clear fm bY c1 e2 db cP eV dc f fD ft fB fs fz c5 c6 dF dE gf dS eR fo d8 ej d6 eb c2 cR;go_upto_block 0 with fail
 go_cut [6] (fun b2 cp=> ∃a c,b2= .slice a (lfB es).length c/\Below B a3 cp/\Own B cp a (lfB es).length c (lfB es))
 case first=>
  go_wp2_with fail;go_loopw [6,7] (fun b2 en wr=> ∃(j:Nat)(a:Option Addr)(c:Nat)(xs:List Int),en= .int .i64 (j:Nat)/\b2= .slice a xs.length c/\j<=es.length/\xs=lfB (es.take j)/\Below B a3 wr/\Own B wr a xs.length c xs) (fun _ en _=>es.length-(intOf en).toNat)
  case atStart=>exact⟨0,_,0,[],rfl,rfl,wa _,rfl,dW.out.1,dW.out.2⟩
  case round=>
   obtain⟨j,a,c,xs,rfl,rfl,f8,bX,N,a7⟩:=hrel;obtain⟨bS,bf⟩:=aa wr;subst bf;have f0:bS.cell? ⟨O,2,none⟩=some (.slice (nv p).ka es.length (nv p).kc):=by rw[N.cell (p:=⟨O,2,none⟩) bn];exact d2
   have V:=uv N a7;have b5:Hid _:=bX;have fa:xs.length<=112*j:=by
    rw[bX,pm];exact yJ es d7 j
   clear N a7 bX;by_cases af:j<es.length
   ·have cz:(j:Int)< (es.length:Int):=uA;obtain⟨a0,a8,cv,cq⟩:=ae.out.1.get af;obtain⟨b3,cm,d4,d1⟩:=ae.out.2.1.get af;rw[eh _ _ (by rw[y2];exact af)]at cq d1;have c4:a0<B:=ae.out.2.2.2.2 _ _ _ _ _ ae.out.1 a0 a8 uA cv;have e8:b3<B:=ae.out.2.2.2.2 _ _ _ _ _ ae.out.2.1 b3 cm uA d4;have d5:=d7 _ (bO (d:=en0) af);have cS:Hid (lfB (es.take (j+1))=(lfB (es.take j)++txB (es.getD j en0).1)++txB (es.getD j en0).2):=by
     show _= _;have e:es.take (j+1)=es.take j++[es.getD j en0]:=by rw[A6];simp[List.getD,List.getElem?_eq_getElem af]
     rw[e];simp[lfB]
    have bZ:(es.map (·.1)).getD j (strOfNums [])=(es.getD j en0).1:=eF (·.1) es j en0;have cr:(es.map (·.2)).getD j (strOfNums [])=(es.getD j en0).2:=eF (·.2) es j en0;rw[bZ]at cq;rw[cr]at d1;rw[cv]at d2 f0;rw[d4]at eW;generalize (es.getD j en0).1=k at*;generalize (es.getD j en0).2=v at*;have gn:=d5.1;have gt:=d5.2;have gA:=sk k.size uA;have gS:=sk v.size uA;clear bZ cr cv d4 d5;have a4:Hid (∀u,Below B a3 u->u.cell? ⟨O,2,none⟩=some (.slice (some ⟨a0,a8,none⟩) es.length (nv p).kc)/\u.cell? ⟨a0,a8+j,none⟩=some (.string k)):=fun u ad=>⟨by rw[ad.cell (p:=⟨O,2,none⟩) bn];exact d2,by rw[ad.cell (p:=⟨a0,a8+j,none⟩) c4];exact cq⟩;obtain⟨D,bE⟩:=aa (xs++txB k);have W:Hid (D.length=xs.length+1+k.size/\D=(xs++[(k.size:Int)])++nb k):=by
     show _/\_;rw[bE];exact⟨by rw[wb,lz];omega,by simp[txB]⟩
    have br:Hid _:=bE;clear bE;go_upto_region 6 with fail
    go_cut [6] (fun b2 cp=> ∃a c,b2= .slice a D.length c/\Below B a3 cp/\Own B cp a D.length c D)
    case first=>
     have a6:=bDr bS;have bP:=V.out.2.below a6;have ab:Below B a3 bS.drew:=V.out.1.trans (a6.mono (wg aX V.out.1.size));refine az (fun u=>u.cell? ⟨O,2,none⟩=some (.slice (some ⟨a0,a8,none⟩) es.length (nv p).kc)/\u.cell? ⟨a0,a8+j,none⟩=some (.string k)) (fun k=>decide (17<=k)) vk ?_;clear a6;generalize bS.drew=l at*;have t:B<=l.1.size:=wg aX ab.size;have z:Hid (∀u,Below B l u->u.cell? ⟨O,2,none⟩=some (.slice (some ⟨a0,a8,none⟩) es.length (nv p).kc)/\u.cell? ⟨a0,a8+j,none⟩=some (.string k)):=fun u ad=>a4.out u (ab.trans ad);have X:=uv bP ab;have cs:=z.out l t7;clear bP ab;refine aj 0 cs ?_;refine aj 1 cs ?_;refine aj 2 cs ?_;refine aj 3 cs ?_;refine aj 4 cs ?_;refine aj 5 cs ?_;refine aj 6 cs ?_;refine aj 7 cs ?_;refine aj 10 cs ?_;refine aj 11 cs ?_;refine aj 12 cs ?_;refine aj 13 cs ?_;refine aj 14 cs ?_;refine fQ 8 15 vk rfl rfl (fun o f=> ?_) (fun o f=> ?_);rw[B4 (show Region.wanted _ _=true from rfl)];obtain⟨M,C⟩:=aa l.1.size;obtain⟨A,P⟩:=aa (l.alloc (.cells #[.int .u8 (k.size:Nat)] 5));have bu:Below l.1.size l A:=by rw[P];exact bAl _ _
     have U:Bs A (some ⟨M,0,none⟩) 1 1 [(k.size:Int)]:=by rw[P,C];exact fL l (k.size:Nat) uA uA
     refine bU _ _ _ rfl (v:= .slice (some ⟨M,0,none⟩) 1 1) (w':=A) ?bsV0 ?_
     case bsV0=>
      simp only[wB,ws,wz];rw[P,C];exact ey lA (.int .u8 (k.size:Nat)) rfl l
     have H:Below B l A:=(B2 B l).trans (bu.mono (wg t (B2 B l).size));have bs:=X.out.1.below bu;refine f.out _ _ (fun _=>z.out A H) ?_;clear f o P C;refine fQ 9 15 vk rfl rfl (fun o f=> ?_) (fun o f=> ?_);refine ei rfl _ _ rfl B a xs.length c xs rfl bs M 1 1 [(k.size:Int)] rfl U uA (wg t H.size) ?_;intro ag ac E ca cj dp;have am:Below B l E:=H.trans cj;refine f.out _ _ (fun _=>z.out E am) ?_;clear f o;refine ah 15 fun o f=> ?_;obtain⟨G,r⟩:=aa E.1.size;obtain⟨J,y⟩:=aa (grownCap E k.size 0 5);obtain⟨a9,Q⟩:=aa (Go.Lib.bytesWorld E 5 k);have bv:Below E.1.size E a9:=by rw[Q];exact iw k E
     have L:Bs a9 (some ⟨G,0,none⟩) k.size J (nb k):=by rw[Q,r,y];exact ix k E uA
     refine iH (s:=k) rfl rfl ?_;rw[<-r,<-y,<-Q];have an:Below B l a9:=am.trans (bv.mono (wg t am.size));have cb:=ca.below bv;refine f.out _ _ (fun _=>z.out a9 an) ?_;clear f o Q r y;refine cJ 16 vk rfl fun o f=> ?_;refine ei rfl _ _ rfl B ag (xs.length+1) ac (xs++[(k.size:Int)]) rfl cb G k.size J (nb k) rfl L uA (wg t an.size) ?_;intro bl bm I bk Z bT;have Y:Below B l I:=an.trans Z;refine f.out _ _ (fun _=>z.out I Y) ?_;clear f o
     rotate_left
     rw[B4 (show Region.wanted _ _=true from rfl)];obtain⟨G,r⟩:=aa A.1.size;obtain⟨J,y⟩:=aa (grownCap A k.size 0 5);obtain⟨ba,R⟩:=aa (Go.Lib.bytesWorld A 5 k);have a1:Below A.1.size A ba:=by rw[R];exact iw k A
     have L:Bs ba (some ⟨G,0,none⟩) k.size J (nb k):=by rw[R,r,y];exact ix k A uA
     refine iH (s:=k) rfl rfl ?_;rw[<-r,<-y,<-R];have ap:Below B l ba:=H.trans (a1.mono (wg t H.size));have cc:=bs.below a1;have bg:=U.below a1;have bc:l.1.size<=G:=by rw[r];exact H.size
     refine f.out _ _ (fun _=>z.out ba ap) ?_;clear f o R r y;refine cJ 9 vk rfl fun o f=> ?_;refine ei rfl _ _ rfl B a xs.length c xs rfl cc M 1 1 [(k.size:Int)] rfl bg uA (wg t ap.size) ?_;intro ag ac b6 ce ck b8;have aA:Below B l b6:=ap.trans ck;have bA:=L.grownN b8 (lB X.out.1 bc);refine f.out _ _ (fun _=>z.out b6 aA) ?_;clear f o;refine cJ 16 vk rfl fun o f=> ?_;refine ei rfl _ _ rfl B ag (xs.length+1) ac (xs++[(k.size:Int)]) rfl ce G k.size J (nb k) rfl bA uA (wg t aA.size) ?_;intro bl bm I bk Z bT;have Y:Below B l I:=aA.trans Z;refine f.out _ _ (fun _=>z.out I Y) ?_;clear f o
     rotate_left
     rw[B4 (show Region.wanted _ _=true from rfl)];obtain⟨G,r⟩:=aa l.1.size;obtain⟨J,y⟩:=aa (grownCap l k.size 0 5);obtain⟨F,S⟩:=aa (Go.Lib.bytesWorld l 5 k);have bx:Below l.1.size l F:=by rw[S];exact iw k l
     have L:Bs F (some ⟨G,0,none⟩) k.size J (nb k):=by rw[S,r,y];exact ix k l uA
     refine iH (s:=k) rfl rfl ?_;rw[<-r,<-y,<-S];have aB:Below B l F:=(B2 B l).trans (bx.mono (wg t (B2 B l).size));have cf:=X.out.1.below bx;have bd:l.1.size<=G:=by rw[r];exact(B2 B l).size
     refine f.out _ _ (fun _=>z.out F aB) ?_;clear f o S r y;refine ah 8 fun o f=> ?_;obtain⟨M,C⟩:=aa F.1.size;obtain⟨ak,T⟩:=aa (F.alloc (.cells #[.int .u8 (k.size:Nat)] 5));have a2:Below F.1.size F ak:=by rw[T];exact bAl _ _
     have U:Bs ak (some ⟨M,0,none⟩) 1 1 [(k.size:Int)]:=by rw[T,C];exact fL F (k.size:Nat) uA uA
     refine bU _ _ _ rfl (v:= .slice (some ⟨M,0,none⟩) 1 1) (w':=ak) ?bsV6 ?_
     case bsV6=>
      simp only[wB,ws,wz];rw[T,C];exact ey lA (.int .u8 (k.size:Nat)) rfl F
     have aS:Below B l ak:=aB.trans (a2.mono (wg t aB.size));have cg:=cf.below a2;have bB:=L.below a2;refine f.out _ _ (fun _=>z.out ak aS) ?_;clear f o T C;refine cJ 9 vk rfl fun o f=> ?_;refine ei rfl _ _ rfl B a xs.length c xs rfl cg M 1 1 [(k.size:Int)] rfl U uA (wg t aS.size) ?_;intro ag ac b7 ch cl b9;have aT:Below B l b7:=aS.trans cl;have bC:=bB.grownN b9 (lB X.out.1 bd);refine f.out _ _ (fun _=>z.out b7 aT) ?_;clear f o;refine cJ 16 vk rfl fun o f=> ?_;refine ei rfl _ _ rfl B ag (xs.length+1) ac (xs++[(k.size:Int)]) rfl ch G k.size J (nb k) rfl bC uA (wg t aT.size) ?_;intro bl bm I bk Z bT;have Y:Below B l I:=aT.trans Z;refine f.out _ _ (fun _=>z.out I Y) ?_;clear f o
     all_goals
      have bz:=uv (X.out.2.trans Y) bk;refine ah 17 fun o f=> ?_;go_wp2_with fail;refine aU f ?_;clear f o;go_wp2
      go_meet
      exact⟨bl,bm,by rw[W.out.1],bz.out.1,by rw[W.out.1,W.out.2];exact bz.out.2⟩
    case rest=>
     obtain⟨a,c,rfl,N,a7⟩:=hcut;obtain⟨cn,bf⟩:=aa wc;subst bf;have V:=uv N a7;have fc:=Nat.le_of_eq W.out.1;have eK:Hid _:=br.out;clear N a7 W a4 br;have a4:Hid (∀u,Below B a3 u->u.cell? ⟨O,3,none⟩=some (.slice (some ⟨b3,cm,none⟩) es.length (nv p).vc)/\u.cell? ⟨b3,cm+j,none⟩=some (.string v)):=fun u ad=>⟨by rw[ad.cell (p:=⟨O,3,none⟩) bn];exact eW,by rw[ad.cell (p:=⟨b3,cm+j,none⟩) e8];exact d1⟩;obtain⟨cB,bF⟩:=aa (D++txB v);have W:Hid (cB.length=D.length+1+v.size/\cB=(D++[(v.size:Int)])++nb v):=by
      show _/\_;rw[bF];exact⟨by rw[wb,lz];omega,by simp[txB]⟩
     have br:Hid _:=bF;clear bF;go_upto_region 7 with fail
     have a6:=bDr cn;have bP:=V.out.2.below a6;have ab:Below B a3 cn.drew:=V.out.1.trans (a6.mono (wg aX V.out.1.size));refine az (fun u=>u.cell? ⟨O,3,none⟩=some (.slice (some ⟨b3,cm,none⟩) es.length (nv p).vc)/\u.cell? ⟨b3,cm+j,none⟩=some (.string v)) (fun k=>decide (17<=k)) vk ?_;clear a6;generalize cn.drew=l at*;have t:B<=l.1.size:=wg aX ab.size;have z:Hid (∀u,Below B l u->u.cell? ⟨O,3,none⟩=some (.slice (some ⟨b3,cm,none⟩) es.length (nv p).vc)/\u.cell? ⟨b3,cm+j,none⟩=some (.string v)):=fun u ad=>a4.out u (ab.trans ad);have X:=uv bP ab;have cs:=z.out l t7;clear bP ab;refine aj 0 cs ?_;refine aj 1 cs ?_;refine aj 2 cs ?_;refine aj 3 cs ?_;refine aj 4 cs ?_;refine aj 5 cs ?_;refine aj 6 cs ?_;refine aj 7 cs ?_;refine aj 10 cs ?_;refine aj 11 cs ?_;refine aj 12 cs ?_;refine aj 13 cs ?_;refine aj 14 cs ?_;refine fQ 8 15 vk rfl rfl (fun o f=> ?_) (fun o f=> ?_);rw[B4 (show Region.wanted _ _=true from rfl)];obtain⟨M,C⟩:=aa l.1.size;obtain⟨A,P⟩:=aa (l.alloc (.cells #[.int .u8 (v.size:Nat)] 5));have bu:Below l.1.size l A:=by rw[P];exact bAl _ _
     have U:Bs A (some ⟨M,0,none⟩) 1 1 [(v.size:Int)]:=by rw[P,C];exact fL l (v.size:Nat) uA uA
     refine bU _ _ _ rfl (v:= .slice (some ⟨M,0,none⟩) 1 1) (w':=A) ?bsV0 ?_
     case bsV0=>
      simp only[wB,ws,wz];rw[P,C];exact ey lA (.int .u8 (v.size:Nat)) rfl l
     have H:Below B l A:=(B2 B l).trans (bu.mono (wg t (B2 B l).size));have bs:=X.out.1.below bu;refine f.out _ _ (fun _=>z.out A H) ?_;clear f o P C;refine fQ 9 15 vk rfl rfl (fun o f=> ?_) (fun o f=> ?_);refine ei rfl _ _ rfl B a D.length c D rfl bs M 1 1 [(v.size:Int)] rfl U uA (wg t H.size) ?_;intro ag ac E ca cj dp;have am:Below B l E:=H.trans cj;refine f.out _ _ (fun _=>z.out E am) ?_;clear f o;refine ah 15 fun o f=> ?_;obtain⟨G,r⟩:=aa E.1.size;obtain⟨J,y⟩:=aa (grownCap E v.size 0 5);obtain⟨a9,Q⟩:=aa (Go.Lib.bytesWorld E 5 v);have bv:Below E.1.size E a9:=by rw[Q];exact iw v E
     have L:Bs a9 (some ⟨G,0,none⟩) v.size J (nb v):=by rw[Q,r,y];exact ix v E uA
     refine iH (s:=v) rfl rfl ?_;rw[<-r,<-y,<-Q];have an:Below B l a9:=am.trans (bv.mono (wg t am.size));have cb:=ca.below bv;refine f.out _ _ (fun _=>z.out a9 an) ?_;clear f o Q r y;refine cJ 16 vk rfl fun o f=> ?_;refine ei rfl _ _ rfl B ag (D.length+1) ac (D++[(v.size:Int)]) rfl cb G v.size J (nb v) rfl L uA (wg t an.size) ?_;intro bl bm I bk Z bT;have Y:Below B l I:=an.trans Z;refine f.out _ _ (fun _=>z.out I Y) ?_;clear f o
     rotate_left
     rw[B4 (show Region.wanted _ _=true from rfl)];obtain⟨G,r⟩:=aa A.1.size;obtain⟨J,y⟩:=aa (grownCap A v.size 0 5);obtain⟨ba,R⟩:=aa (Go.Lib.bytesWorld A 5 v);have a1:Below A.1.size A ba:=by rw[R];exact iw v A
     have L:Bs ba (some ⟨G,0,none⟩) v.size J (nb v):=by rw[R,r,y];exact ix v A uA
     refine iH (s:=v) rfl rfl ?_;rw[<-r,<-y,<-R];have ap:Below B l ba:=H.trans (a1.mono (wg t H.size));have cc:=bs.below a1;have bg:=U.below a1;have bc:l.1.size<=G:=by rw[r];exact H.size
     refine f.out _ _ (fun _=>z.out ba ap) ?_;clear f o R r y;refine cJ 9 vk rfl fun o f=> ?_;refine ei rfl _ _ rfl B a D.length c D rfl cc M 1 1 [(v.size:Int)] rfl bg uA (wg t ap.size) ?_;intro ag ac b6 ce ck b8;have aA:Below B l b6:=ap.trans ck;have bA:=L.grownN b8 (lB X.out.1 bc);refine f.out _ _ (fun _=>z.out b6 aA) ?_;clear f o;refine cJ 16 vk rfl fun o f=> ?_;refine ei rfl _ _ rfl B ag (D.length+1) ac (D++[(v.size:Int)]) rfl ce G v.size J (nb v) rfl bA uA (wg t aA.size) ?_;intro bl bm I bk Z bT;have Y:Below B l I:=aA.trans Z;refine f.out _ _ (fun _=>z.out I Y) ?_;clear f o
     rotate_left
     rw[B4 (show Region.wanted _ _=true from rfl)];obtain⟨G,r⟩:=aa l.1.size;obtain⟨J,y⟩:=aa (grownCap l v.size 0 5);obtain⟨F,S⟩:=aa (Go.Lib.bytesWorld l 5 v);have bx:Below l.1.size l F:=by rw[S];exact iw v l
     have L:Bs F (some ⟨G,0,none⟩) v.size J (nb v):=by rw[S,r,y];exact ix v l uA
     refine iH (s:=v) rfl rfl ?_;rw[<-r,<-y,<-S];have aB:Below B l F:=(B2 B l).trans (bx.mono (wg t (B2 B l).size));have cf:=X.out.1.below bx;have bd:l.1.size<=G:=by rw[r];exact(B2 B l).size
     refine f.out _ _ (fun _=>z.out F aB) ?_;clear f o S r y;refine ah 8 fun o f=> ?_;obtain⟨M,C⟩:=aa F.1.size;obtain⟨ak,T⟩:=aa (F.alloc (.cells #[.int .u8 (v.size:Nat)] 5));have a2:Below F.1.size F ak:=by rw[T];exact bAl _ _
     have U:Bs ak (some ⟨M,0,none⟩) 1 1 [(v.size:Int)]:=by rw[T,C];exact fL F (v.size:Nat) uA uA
     refine bU _ _ _ rfl (v:= .slice (some ⟨M,0,none⟩) 1 1) (w':=ak) ?bsV6 ?_
     case bsV6=>
      simp only[wB,ws,wz];rw[T,C];exact ey lA (.int .u8 (v.size:Nat)) rfl F
     have aS:Below B l ak:=aB.trans (a2.mono (wg t aB.size));have cg:=cf.below a2;have bB:=L.below a2;refine f.out _ _ (fun _=>z.out ak aS) ?_;clear f o T C;refine cJ 9 vk rfl fun o f=> ?_;refine ei rfl _ _ rfl B a D.length c D rfl cg M 1 1 [(v.size:Int)] rfl U uA (wg t aS.size) ?_;intro ag ac b7 ch cl b9;have aT:Below B l b7:=aS.trans cl;have bC:=bB.grownN b9 (lB X.out.1 bd);refine f.out _ _ (fun _=>z.out b7 aT) ?_;clear f o;refine cJ 16 vk rfl fun o f=> ?_;refine ei rfl _ _ rfl B ag (D.length+1) ac (D++[(v.size:Int)]) rfl ch G v.size J (nb v) rfl bC uA (wg t aT.size) ?_;intro bl bm I bk Z bT;have Y:Below B l I:=aT.trans Z;refine f.out _ _ (fun _=>z.out I Y) ?_;clear f o
     all_goals
      have bz:=uv (X.out.2.trans Y) bk;refine ah 17 fun o f=> ?_;go_wp2_with fail;refine aU f ?_;clear f o;have eL:Hid _:=br.out;go_wp2_with fail;go_roundw
      case rel=>exact⟨j+1,bl,bm,cB,by go_num,by rw[W.out.1],uA,by rw[cS.out,eL.out,eK.out,b5.out],bz.out.1,by rw[W.out.1,W.out.2];exact bz.out.2⟩
      case measure=>simp[intOf];omega
   ·have cz:¬(j:Int)< (es.length:Int):=uA;have c3:es.take j=es:=w5 uA;have b4:Hid (xs=lfB es):=by show xs= _;rw[b5.out,c3]
    clear c3;go_wp2
    go_meet
    exact⟨a,c,by rw[b4.out],V.out.1,by rw[<-b4.out];exact V.out.2⟩
 case rest=>
  obtain⟨fV,fZ,rfl,N,a7⟩:=hcut;obtain⟨cn,bf⟩:=aa wc;subst bf;obtain⟨da,b1⟩:=aa (lfB es);rw[<-b1]at a7 ⊢;have gv:da.length<=112*es.length:=by rw[b1,pm];have:=yJ es d7 es.length;rwa [ya]at this
  have eC:Hid _:=b1;have et:=uv N a7;clear N a7 b1 dW;obtain⟨bW,cT⟩:=aa ((us.map (·.1)).zip cA);have fl:bW.length=us.length:=by rw[cT,List.length_zip,y2,c0.out.1];omega
  have fP:Hid _:=cT;have dk:Hid _:=fl;rw[<-cT]at cW;clear cT;go_wp2_with fail;go_loopw [6,8] (fun b2 eq wr=> ∃(j:Nat)(a:Option Addr)(c:Nat)(xs:List Int),eq= .int .i64 (j:Nat)/\b2= .slice a xs.length c/\j<=us.length/\xs=da++iBd 0 (bW.take j)/\xs.length<=112*es.length+46*j/\Below B a3 wr/\Own B wr a xs.length c xs) (fun _ eq _=>us.length-(intOf eq).toNat)
  case atStart=>exact⟨0,fV,fZ,da,rfl,rfl,wa _,by simp[iBd],uA,et.out.1,et.out.2⟩
  case round=>
   obtain⟨j,a,c,xs,rfl,rfl,f8,bX,fa,N,a7⟩:=hrel;obtain⟨bS,bf⟩:=aa wr;subst bf;have f2:bS.cell? ⟨O,4,none⟩=some (.slice (nv p).da us.length (nv p).dc):=by rw[N.cell (p:=⟨O,4,none⟩) bn];exact d3
   have V:=uv N a7;have b5:Hid _:=bX;clear N a7 bX;by_cases af:j<us.length
   ·have cz:(j:Int)< (us.length:Int):=uA;obtain⟨a0,a8,cv,cq⟩:=ae.out.2.2.1.get af;rw[cF _ _ (by rw[y2];exact af)]at cq;have c4:a0<B:=ae.out.2.2.2.2 _ _ _ _ _ ae.out.2.2.1 a0 a8 uA cv;have bZ:(us.map (·.2)).getD j 0=(us.getD j (strOfNums [],0)).2:=eF (·.2) us j ((strOfNums [],0):Pl);obtain⟨q,eM,dl,dq,ds,d9,ea⟩:=c0.out.2 j af;rw[bZ,dl]at cq;obtain⟨_,cr,dr,_,ga⟩:=a5.out.2.1.cells dq;cases cr;have f4:a3.cell? ⟨b,q*6,none⟩=some (.int .i64 eM.page):=dr 0 _ rfl;have e3:b<B:=by rw[a5.out.2.2.1];exact(cE a5.out.2.1.nodes b (by simp[rb])).2
    have e4:g<B:=by rw[a5.out.2.2.1];exact a5.out.2.1.blk.lt
    have f3:a3.cell? ⟨g,0,none⟩=some (.slice (some ⟨b,0,none⟩) ns.length nc):=a5.out.2.1.blk.cell 0;have cS:Hid (iBd 0 (bW.take (j+1))=(iBd 0 (bW.take j)++(if j=0 then []else txB (bW.getD j (strOfNums [],0)).1))++num (bW.getD j (strOfNums [],0)).2 4):=Hd (by rw[dk.out];exact af) _;have c8:(bW.getD j (strOfNums [],0)).1=(us.getD j (strOfNums [],0)).1/\(bW.getD j (strOfNums [],0)).2=cA.getD j 0:=by
     have e9:j<cA.length:=by rw[c0.out.1];exact af
     rw[fP.out];have e6:j< ((us.map (·.1)).zip cA).length:=by rw[List.length_zip,y2];omega
     simp[List.getD_eq_getElem?_getD,List.getElem?_eq_getElem e6,List.getElem_zip,af,e9]
    rw[c8.1,c8.2,<-ds]at cS;generalize eM.page=cV at*;rw[cv]at d3 f2;have c7:¬j=0->(us.getD j (strOfNums [],0)).1.size<=40:=fun b0=>by
     obtain⟨i,rfl⟩:∃i,j=i+1:=⟨j-1,uA⟩;have:us.getD (i+1) (strOfNums [],0)=us.tail.getD i (strOfNums [],0):=by cases us<;>simp
     rw[this];exact f6 _ (bO (by rw[List.length_tail];omega))
    have dD:¬j=0->∃sb so,(nv p).sa=some ⟨sb,so,none⟩/\a3.cell? ⟨sb,so+(j-1),none⟩=some (.string (us.getD j (strOfNums [],0)).1)/\sb<B:=fun b0=>by
     obtain⟨i,rfl⟩:∃i,j=i+1:=⟨j-1,uA⟩;obtain⟨sb,so,cM,bb⟩:=ae.out.2.2.2.1.get (i:=i) uA;rw[eh _ _ (by rw[y2,List.length_tail];omega)]at bb;have f5:(us.tail.map (·.1)).getD i (strOfNums [])=(us.getD (i+1) (strOfNums [],0)).1:=by
      have:=eF (·.1) us.tail i ((strOfNums [],0):Pl);rw[show us.tail.getD i (strOfNums [],0)=us.getD (i+1) (strOfNums [],0)by cases us<;>simp]at this;exact this
     rw[f5]at bb;exact⟨sb,so,cM,bb,ae.out.2.2.2.2 _ _ _ _ _ ae.out.2.2.2.1 sb so uA cM⟩
    generalize (us.getD j (strOfNums [],0)).1=s at*;have eB:Hid _:=c7;have ex:Hid _:=dD;have dd:=uv d9 ea;obtain⟨D,bE⟩:∃n,n=xs++(if j=0 then []else txB s):=⟨_,rfl⟩;have br:Hid _:=bE;have fc:D.length<=xs.length+41:=by
     rw[bE,wb];split
     ·simp
     ·rename_i b0;rw[lz];have:=c7 b0;omega
    clear bZ dl dq ds dr c8 cv c7 dD bE;go_upto_if 66 with fail
    go_cut [6] (fun b2 cp=> ∃a c,b2= .slice a D.length c/\Below B a3 cp/\Own B cp a D.length c D)
    case first=>
     by_cases b0:j=0
     ·have e5:¬(0:Int)< (j:Int):=uA;have dI:D=xs:=by rw[br.out,B4 b0,wP]
      have cD:Hid _:=dI;clear dI b0;go_wp2
      go_meet
      exact⟨a,c,by rw[cD.out],V.out.1,by rw[cD.out];exact V.out.2⟩
     ·have e5:(0:Int)< (j:Int):=uA;obtain⟨sb,so,cM,bb,e7⟩:=ex.out b0;have gb:=eB.out b0;rw[cM]at e1;obtain⟨i,rfl⟩:∃i,j=i+1:=⟨j-1,uA⟩;rw[show i+1-1=i by omega]at bb;have gB:=sk s.size uA;have gj:IntKind.i64.wrap (i:Int)=(i:Int):=ll _ uA uA;have gm:(i:Int)< ((us.length-1:Nat):Int):=uA;have gi:(0:Int)<=(i:Int):=uA;have cD:Hid (D=xs++txB s):=by show D= _;rw[br.out,CH b0]
      have W:Hid (D.length=xs.length+1+s.size/\D=(xs++[(s.size:Int)])++nb s):=by
       show _/\_;rw[cD.out];exact⟨by rw[wb,lz];omega,by simp[txB]⟩
      have a4:Hid (∀u,Below B a3 u->u.cell? ⟨O,5,none⟩=some (.slice (some ⟨sb,so,none⟩) (us.length-1) (nv p).sc)/\u.cell? ⟨sb,so+i,none⟩=some (.string s)):=fun u ad=>⟨by rw[ad.cell (p:=⟨O,5,none⟩) bn];exact e1,by rw[ad.cell (p:=⟨sb,so+i,none⟩) e7];exact bb⟩;generalize ef:us.length-1=dV at*;clear ef;go_upto_region 12 with fail
      have a6:=bDr bS;have bP:=V.out.2.below a6;have ab:Below B a3 bS.drew:=V.out.1.trans (a6.mono (wg aX V.out.1.size));refine az (fun u=>u.cell? ⟨O,5,none⟩=some (.slice (some ⟨sb,so,none⟩) dV (nv p).sc)/\u.cell? ⟨sb,so+i,none⟩=some (.string s)) (fun k=>decide (19<=k)) vk ?_;clear a6;generalize bS.drew=l at*;have t:B<=l.1.size:=wg aX ab.size;have z:Hid (∀u,Below B l u->u.cell? ⟨O,5,none⟩=some (.slice (some ⟨sb,so,none⟩) dV (nv p).sc)/\u.cell? ⟨sb,so+i,none⟩=some (.string s)):=fun u ad=>a4.out u (ab.trans ad);have X:=uv bP ab;have cs:=z.out l t7;clear bP ab;refine aj 0 cs ?_;refine aj 1 cs ?_;refine aj 2 cs ?_;refine aj 3 cs ?_;refine aj 4 cs ?_;refine aj 5 cs ?_;refine aj 6 cs ?_;refine aj 7 cs ?_;refine aj 8 cs ?_;refine aj 11 cs ?_;refine aj 12 cs ?_;refine aj 13 cs ?_;refine aj 14 cs ?_;refine aj 15 cs ?_;refine aj 16 cs ?_;refine fQ 9 17 vk rfl rfl (fun o f=> ?_) (fun o f=> ?_);rw[B4 (show Region.wanted _ _=true from rfl)];obtain⟨M,C⟩:=aa l.1.size;obtain⟨A,P⟩:=aa (l.alloc (.cells #[.int .u8 (s.size:Nat)] 5));have bu:Below l.1.size l A:=by rw[P];exact bAl _ _
      have U:Bs A (some ⟨M,0,none⟩) 1 1 [(s.size:Int)]:=by rw[P,C];exact fL l (s.size:Nat) uA uA
      refine bU _ _ _ rfl (v:= .slice (some ⟨M,0,none⟩) 1 1) (w':=A) ?bsV0 ?_
      case bsV0=>
       simp only[wB,ws,wz];rw[P,C];exact ey lA (.int .u8 (s.size:Nat)) rfl l
      have H:Below B l A:=(B2 B l).trans (bu.mono (wg t (B2 B l).size));have bs:=X.out.1.below bu;refine f.out _ _ (fun _=>z.out A H) ?_;clear f o P C;refine fQ 10 17 vk rfl rfl (fun o f=> ?_) (fun o f=> ?_);refine ei rfl _ _ rfl B a xs.length c xs rfl bs M 1 1 [(s.size:Int)] rfl U uA (wg t H.size) ?_;intro ag ac E ca cj dp;have am:Below B l E:=H.trans cj;refine f.out _ _ (fun _=>z.out E am) ?_;clear f o;refine ah 17 fun o f=> ?_;obtain⟨G,r⟩:=aa E.1.size;obtain⟨J,y⟩:=aa (grownCap E s.size 0 5);obtain⟨a9,Q⟩:=aa (Go.Lib.bytesWorld E 5 s);have bv:Below E.1.size E a9:=by rw[Q];exact iw s E
      have L:Bs a9 (some ⟨G,0,none⟩) s.size J (nb s):=by rw[Q,r,y];exact ix s E uA
      refine iH (s:=s) rfl rfl ?_;rw[<-r,<-y,<-Q];have an:Below B l a9:=am.trans (bv.mono (wg t am.size));have cb:=ca.below bv;refine f.out _ _ (fun _=>z.out a9 an) ?_;clear f o Q r y;refine cJ 18 vk rfl fun o f=> ?_;refine ei rfl _ _ rfl B ag (xs.length+1) ac (xs++[(s.size:Int)]) rfl cb G s.size J (nb s) rfl L uA (wg t an.size) ?_;intro bl bm I bk Z bT;have Y:Below B l I:=an.trans Z;refine f.out _ _ (fun _=>z.out I Y) ?_;clear f o
      rotate_left
      rw[B4 (show Region.wanted _ _=true from rfl)];obtain⟨G,r⟩:=aa A.1.size;obtain⟨J,y⟩:=aa (grownCap A s.size 0 5);obtain⟨ba,R⟩:=aa (Go.Lib.bytesWorld A 5 s);have a1:Below A.1.size A ba:=by rw[R];exact iw s A
      have L:Bs ba (some ⟨G,0,none⟩) s.size J (nb s):=by rw[R,r,y];exact ix s A uA
      refine iH (s:=s) rfl rfl ?_;rw[<-r,<-y,<-R];have ap:Below B l ba:=H.trans (a1.mono (wg t H.size));have cc:=bs.below a1;have bg:=U.below a1;have bc:l.1.size<=G:=by rw[r];exact H.size
      refine f.out _ _ (fun _=>z.out ba ap) ?_;clear f o R r y;refine cJ 10 vk rfl fun o f=> ?_;refine ei rfl _ _ rfl B a xs.length c xs rfl cc M 1 1 [(s.size:Int)] rfl bg uA (wg t ap.size) ?_;intro ag ac b6 ce ck b8;have aA:Below B l b6:=ap.trans ck;have bA:=L.grownN b8 (lB X.out.1 bc);refine f.out _ _ (fun _=>z.out b6 aA) ?_;clear f o;refine cJ 18 vk rfl fun o f=> ?_;refine ei rfl _ _ rfl B ag (xs.length+1) ac (xs++[(s.size:Int)]) rfl ce G s.size J (nb s) rfl bA uA (wg t aA.size) ?_;intro bl bm I bk Z bT;have Y:Below B l I:=aA.trans Z;refine f.out _ _ (fun _=>z.out I Y) ?_;clear f o
      rotate_left
      rw[B4 (show Region.wanted _ _=true from rfl)];obtain⟨G,r⟩:=aa l.1.size;obtain⟨J,y⟩:=aa (grownCap l s.size 0 5);obtain⟨F,S⟩:=aa (Go.Lib.bytesWorld l 5 s);have bx:Below l.1.size l F:=by rw[S];exact iw s l
      have L:Bs F (some ⟨G,0,none⟩) s.size J (nb s):=by rw[S,r,y];exact ix s l uA
      refine iH (s:=s) rfl rfl ?_;rw[<-r,<-y,<-S];have aB:Below B l F:=(B2 B l).trans (bx.mono (wg t (B2 B l).size));have cf:=X.out.1.below bx;have bd:l.1.size<=G:=by rw[r];exact(B2 B l).size
      refine f.out _ _ (fun _=>z.out F aB) ?_;clear f o S r y;refine ah 9 fun o f=> ?_;obtain⟨M,C⟩:=aa F.1.size;obtain⟨ak,T⟩:=aa (F.alloc (.cells #[.int .u8 (s.size:Nat)] 5));have a2:Below F.1.size F ak:=by rw[T];exact bAl _ _
      have U:Bs ak (some ⟨M,0,none⟩) 1 1 [(s.size:Int)]:=by rw[T,C];exact fL F (s.size:Nat) uA uA
      refine bU _ _ _ rfl (v:= .slice (some ⟨M,0,none⟩) 1 1) (w':=ak) ?bsV6 ?_
      case bsV6=>
       simp only[wB,ws,wz];rw[T,C];exact ey lA (.int .u8 (s.size:Nat)) rfl F
      have aS:Below B l ak:=aB.trans (a2.mono (wg t aB.size));have cg:=cf.below a2;have bB:=L.below a2;refine f.out _ _ (fun _=>z.out ak aS) ?_;clear f o T C;refine cJ 10 vk rfl fun o f=> ?_;refine ei rfl _ _ rfl B a xs.length c xs rfl cg M 1 1 [(s.size:Int)] rfl U uA (wg t aS.size) ?_;intro ag ac b7 ch cl b9;have aT:Below B l b7:=aS.trans cl;have bC:=bB.grownN b9 (lB X.out.1 bd);refine f.out _ _ (fun _=>z.out b7 aT) ?_;clear f o;refine cJ 18 vk rfl fun o f=> ?_;refine ei rfl _ _ rfl B ag (xs.length+1) ac (xs++[(s.size:Int)]) rfl ch G s.size J (nb s) rfl bC uA (wg t aT.size) ?_;intro bl bm I bk Z bT;have Y:Below B l I:=aT.trans Z;refine f.out _ _ (fun _=>z.out I Y) ?_;clear f o
      all_goals
       have bz:=uv (X.out.2.trans Y) bk;refine ah 19 fun o f=> ?_;go_wp2_with fail;refine aU f ?_;clear f o;go_wp2
       go_meet
       exact⟨bl,bm,by rw[W.out.1],bz.out.1,by rw[W.out.1,W.out.2];exact bz.out.2⟩
    case rest=>
     obtain⟨a,c,rfl,N,a7⟩:=hcut;obtain⟨cn,bf⟩:=aa wc;subst bf;have V:=uv N a7;clear N a7;have a4:Hid (∀u,Below B a3 u->u.cell? ⟨g,0,none⟩=some (.slice (some ⟨b,0,none⟩) ns.length nc)/\u.cell? ⟨O,4,none⟩=some (.slice (some ⟨a0,a8,none⟩) us.length (nv p).dc)/\u.cell? ⟨a0,a8+j,none⟩=some (.int .i64 (q:Nat))/\u.cell? ⟨b,q*6,none⟩=some (.int .i64 cV)):=fun u ad=>⟨by rw[ad.cell (p:=⟨g,0,none⟩) e4];exact f3,by rw[ad.cell (p:=⟨O,4,none⟩) bn];exact d3,by rw[ad.cell (p:=⟨a0,a8+j,none⟩) c4];exact cq,by rw[ad.cell (p:=⟨b,q*6,none⟩) e3];exact f4⟩;go_upto_region 13 with fail
     have a6:=bDr cn;have bP:=V.out.2.below a6;have ab:Below B a3 cn.drew:=V.out.1.trans (a6.mono (wg aX V.out.1.size));refine az (fun u=>u.cell? ⟨g,0,none⟩=some (.slice (some ⟨b,0,none⟩) ns.length nc)/\u.cell? ⟨O,4,none⟩=some (.slice (some ⟨a0,a8,none⟩) us.length (nv p).dc)/\u.cell? ⟨a0,a8+j,none⟩=some (.int .i64 (q:Nat))/\u.cell? ⟨b,q*6,none⟩=some (.int .i64 cV)) (fun k=>decide (15<=k)) vk ?_;clear a6;generalize cn.drew=l at*;have t:B<=l.1.size:=wg aX ab.size;have cs:=a4.out l ab;have X:=uv bP ab;have eN:=i9 cV 4 l dd.out.1 (by have:=dd.out.2;omega) uA;clear bP ab;refine ay 0 cs ?_;refine ay 1 cs ?_;refine ay 2 cs ?_;refine ay 3 cs ?_;refine ay 4 cs ?_;refine ay 5 cs ?_;refine ay 6 cs ?_;refine ay 7 cs ?_;refine ay 8 cs ?_;refine ay 9 cs ?_;refine ay 10 cs ?_;refine ay 11 cs ?_;refine ay 12 cs ?_;refine ah 13 fun o f=> ?_;go_wp2_with fail;refine eN.mono ?_;rintro e E ⟨ag,ac,rfl,em,ek⟩;clear eN;have eU:Below B l E:=em.mono t;have cX:=uv (X.out.1.below em) (vJ (X.out.2.trans eU) ek);have bb:=a4.out E cX.out.2.1;obtain⟨fn,bZ,_⟩:=mM ek uA;subst bZ;clear eU em ek;go_wp2_with fail;refine f.out _ _ (fun _=>bb) ?_;clear f o;refine cJ 14 vk rfl fun o f=> ?_;refine ei rfl _ _ rfl B a D.length c D rfl cX.out.1 fn 4 ac (num cV 4) rfl (cX.out.2.2.bs (ec cV 4)) uA (wg aX cX.out.2.1.size) ?_;intro bl bm I bk Z bT;have bz:=uv (cX.out.2.1.trans Z) bk;refine f.out _ _ (fun _=>a4.out I bz.out.1) ?_;clear f o bk Z bT;refine ah 15 fun o f=> ?_;go_wp2_with fail;refine aU f ?_;clear f o bb cs;obtain⟨cB,bF⟩:=aa (D++num cV 4);have c9:cB.length=D.length+4:=by rw[bF,wb,ew]
     have cL:=uv bF c9;have fd:cB.length<=112*es.length+46*(j+1):=uA;clear bF c9;go_wp2_with fail;go_roundw
     case rel=>exact⟨j+1,bl,bm,cB,by go_num,by rw[cL.out.2],uA,by rw[cS.out,cL.out.1,br.out,b5.out];simp,fd,bz.out.1,by rw[cL.out.2,cL.out.1];exact bz.out.2⟩
     case measure=>simp[intOf];omega
   ·have cz:¬(j:Int)< (us.length:Int):=uA;have c3:bW.take j=bW:=w5 (by rw[dk.out];omega);have b4:Hid (xs=bR):=by show xs= _;rw[b5.out,c3,cW.out,eC.out]
    clear c3;have c2:=a5.out.2.2.1;have ev:Hid (Below w.1.size w bS/\Own w.1.size bS a bR.length c bR):=⟨a5.out.1.trans (V.out.1.mono (by have:=a5.out.1.size;omega)),by rw[<-b4.out];exact V.out.2.mono (by have:=a5.out.1.size;omega)⟩;clear c2;go_wp2_with fail;go_ret;exact⟨a,c,by rw[<-b4.out];rfl,ev.out.1,ev.out.2⟩
end
