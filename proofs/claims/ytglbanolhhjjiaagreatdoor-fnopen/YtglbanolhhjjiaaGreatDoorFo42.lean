import Derived.Test.YtglbanolhhjjiaaGreatDoorFo41
namespace Go.Proofs.YtglbanolhhjjiaaGreatDoor
open Go.Proofs.Tryz
open Go.RowKit
set_option linter.unusedVariables false
set_option maxRecDepth 100000
set_option maxHeartbeats 32000000
section
variable {B0 g:Nat} {rest:List Value} {rt:Int} {w:World} {ns:List NdK} {nv:Nat->NdV} {na:Option Addr} {nc:Nat}
theorem yJ(es:List En)(a:∀e∈es,e.1.size<=40/\e.2.size<=70):∀j,lSz (es.take j)<=112*j:=by
 induction es with
 |nil=>intro j;simp[lSz]
 |cons e es ih=>
  intro j;cases j with
  |zero=>simp[lSz]
  |succ j=>
   rw[A5,gz];have b:=ih (fun x hx=>a x (by simp[hx])) j;have c:=a e uB;simp only[eSz];omega
theorem sk(n:Nat)(a:n<=255):IntKind.u8.wrap (n:Int)=(n:Int):=by simp[IntKind.wrap,IntKind.bits,IntKind.signed];omega
theorem yK(dc:USt B0 g rest rt w ns nv na nc){p K}(f:ns[p]?=some K)(es)(us:List Pl)(d7:K.keys=es.map (·.1))(ef:K.vals=es.map (·.2))(d5:K.kids=us.map (·.2))(ea:K.signs=us.tail.map (·.1))(d6:∀e∈es,e.1.size<=40/\e.2.size<=70)(f5:∀u∈us.tail,u.1.size<=40)(gf:es.length<=1000)(gr:us.length<=1000)(cz)(dE:cz.length=us.length)(dF:∀m,m<us.length->∃(q:Nat)(fD:NdK),(us.getD m (strOfNums [],0)).2=(q:Int)/\ns[q]?=some fD/\fD.page=cz.getD m 0/\0<=fD.page/\fD.page<=1048576)(gn:ns.length<=1048576)(bP)(c6:bP=lfB es++iBd 0 ((us.map (·.1)).zip cz)):
 Calls prog 137 #[.pointer (some ⟨g,0,none⟩),.int .i64 (p:Nat)] w fun e w'=> ∃a c,e= .returned (.slice a bP.length c)/\Below w.1.size w w'/\Own w.1.size w' a bP.length c bP:=by
 obtain⟨b,rfl,cM,e1,gp⟩:=dc.cells f;have eU:w.cell? ⟨g,0,none⟩=some (.slice (some ⟨b,0,none⟩) ns.length nc):=dc.blk.cell 0;have db:=bAl w (.cells (ndc (nv p) K).toArray 176);have fl:=aq w 176 (ndc (nv p) K).toArray;have gc:(w.alloc (.cells (ndc (nv p) K).toArray 176)).1.size=w.1.size+1:=by simp
 have c1:=e1.below db;have dS:=dc.below db;have fB:(prog.info? 176).map (·.size)=some (ndc (nv p) K).length:=aD;go_enter func137,ntmps137;go_upto_region 2 with(first|(refine dG rfl 176 _ rfl b (p*6) rfl (ndc (nv p) K) _ cM underlying176 rfl fB ?_)|(refine bt rfl 176 _ _ rfl w (ndc aF nd0).toArray (ndc (nv p) K).toArray 176 rfl rfl aD rfl (cy _ _) ?_))
 change Code.wp _ _ _ _ (w.alloc (.cells (ndc (nv p) K).toArray 176));generalize w.alloc (.cells (ndc (nv p) K).toArray 176)=a2 at*;have bX:Blk a2 176 w.1.size (ndc (nv p) K):=fl;obtain⟨N,cP⟩:=aa w.1.size;obtain⟨B,c2⟩:=aa a2.1.size;rw[<-cP]at bX;have bm:N<B:=t7;have aT:B<=a2.1.size:=t7;have a4:=t6 db (u2 dS (u2 c2 cP));rw[<-cP];have fs:R1 9 a2 (nv p).ka es.length (nv p).kc (os (es.map (·.1))):=by have:=c1.keys;rw[d7]at this;simpa using this
 have fz:R1 9 a2 (nv p).va es.length (nv p).vc (os (es.map (·.2))):=by have:=c1.vals;rw[ef]at this;simpa using this
 have fo:R1 3 a2 (nv p).da us.length (nv p).dc (on (us.map (·.2))):=by have:=c1.kids;rw[d5]at this;simpa using this
 have ft:R1 9 a2 (nv p).sa (us.length-1) (nv p).sc (os (us.tail.map (·.1))):=by have:=c1.signs;rw[ea]at this;simpa using this
 have d1:a2.cell? ⟨N,2,none⟩=some (.slice (nv p).ka es.length (nv p).kc):=by have cT:=bX.cell 2;rw[show(ndc (nv p) K)[2]?=some (.slice (nv p).ka K.keys.length (nv p).kc)from rfl,d7,x7]at cT;exact cT
 have eV:a2.cell? ⟨N,3,none⟩=some (.slice (nv p).va es.length (nv p).vc):=by have cT:=bX.cell 3;rw[show(ndc (nv p) K)[3]?=some (.slice (nv p).va K.vals.length (nv p).vc)from rfl,ef,x7]at cT;exact cT
 have d2:a2.cell? ⟨N,4,none⟩=some (.slice (nv p).da us.length (nv p).dc):=by have cT:=bX.cell 4;rw[show(ndc (nv p) K)[4]?=some (.slice (nv p).da K.kids.length (nv p).dc)from rfl,d5,x7]at cT;exact cT
 have eW:a2.cell? ⟨N,5,none⟩=some (.slice (nv p).sa (us.length-1) (nv p).sc):=by have cT:=bX.cell 5;rw[show(ndc (nv p) K)[5]?=some (.slice (nv p).sa K.signs.length (nv p).sc)from rfl,ea,x7,List.length_tail]at cT;exact cT
 have c5:∀(x:List Value)(a:Option Addr)(n c:Nat)(e:Nat),R1 e a2 a n c x->∀dW dP,0<n->a=some ⟨dW,dP,none⟩->dW<B:=fun x a n c e cT dW dP f8 bY=>by
  obtain⟨gv,gb,cq,⟨cs,fr,f6⟩,_⟩:=cT.at_ f8;rw[bY]at cq;cases cq;rw[c2];exact(vR.1 f6).1
 have ad:=t6 fs (u2 fz (u2 fo (u2 ft c5)));have cW:Hid _:=c6;have c0:=t6 dE dF;have fn:Own B (a2.alloc (.cells #[] 5)) (some ⟨a2.1.size,0,none⟩) 0 0 []:=eI a2 [] 0 rfl t7 B aT;have eN:Below B a2 (a2.alloc (.cells #[] 5)):=t2.alloc aT _;have dV:=t6 eN fn;clear fl bX c1 e1 db cM eU dc f fB fs fz fo ft c5 c6 dF dE gc dS eN fn d7 ef d5 ea c2 cP;go_upto_block 0 with fail
 go_cut [6] (fun b1 cn=> ∃a c,b1= .slice a (lfB es).length c/\Below B a2 cn/\Own B cn a (lfB es).length c (lfB es))
 case first=>
  go_wp2_with fail;go_loopw [6,7] (fun b1 em wr=> ∃(j:Nat)(a:Option Addr)(c:Nat)(xs:List Int),em= .int .i64 (j:Nat)/\b1= .slice a xs.length c/\j<=es.length/\xs=lfB (es.take j)/\Below B a2 wr/\Own B wr a xs.length c xs) (fun _ em _=>es.length-(intOf em).toNat)
  case atStart=>exact⟨0,_,0,[],rfl,rfl,u6 _,rfl,dV.out.1,dV.out.2⟩
  case round=>
   obtain⟨j,a,c,xs,rfl,rfl,f7,bW,M,a6⟩:=hrel;obtain⟨bR,bd⟩:=aa wr;subst bd;have fZ:bR.cell? ⟨N,2,none⟩=some (.slice (nv p).ka es.length (nv p).kc):=by rw[M.cell (p:=⟨N,2,none⟩) bm];exact d1
   have U:=t6 M a6;have b4:Hid _:=bW;have e9:xs.length<=112*j:=by
    rw[bW,pm];exact yJ es d6 j
   clear M a6 bW;by_cases ae:j<es.length
   ·have cv:(j:Int)< (es.length:Int):=t7;obtain⟨aX,a7,cr,cp⟩:=ad.out.1.get ae;obtain⟨b2,cl,d3,dX⟩:=ad.out.2.1.get ae;rw[eh _ _ (by rw[x7];exact ae)]at cp dX;have c4:aX<B:=ad.out.2.2.2.2 _ _ _ _ _ ad.out.1 aX a7 t7 cr;have e7:b2<B:=ad.out.2.2.2.2 _ _ _ _ _ ad.out.2.1 b2 cl t7 d3;have d4:=d6 _ (bO (d:=en0) ae);have cR:Hid (lfB (es.take (j+1))=(lfB (es.take j)++txB (es.getD j en0).1)++txB (es.getD j en0).2):=by
     show _= _;have e:es.take (j+1)=es.take j++[es.getD j en0]:=by rw[AC];simp[List.getD,List.getElem?_eq_getElem ae]
     rw[e];simp[lfB]
    have bY:(es.map (·.1)).getD j (strOfNums [])=(es.getD j en0).1:=eF (·.1) es j en0;have cq:(es.map (·.2)).getD j (strOfNums [])=(es.getD j en0).2:=eF (·.2) es j en0;rw[bY]at cp;rw[cq]at dX;rw[cr]at d1 fZ;rw[d3]at eV;generalize (es.getD j en0).1=k at*;generalize (es.getD j en0).2=v at*;have gm:=d4.1;have gs:=d4.2;have gw:=sk k.size t7;have gB:=sk v.size t7;clear bY cq cr d3 d4;have a3:Hid (∀u,Below B a2 u->u.cell? ⟨N,2,none⟩=some (.slice (some ⟨aX,a7,none⟩) es.length (nv p).kc)/\u.cell? ⟨aX,a7+j,none⟩=some (.string k)):=fun u ac=>⟨by rw[ac.cell (p:=⟨N,2,none⟩) bm];exact d1,by rw[ac.cell (p:=⟨aX,a7+j,none⟩) c4];exact cp⟩;obtain⟨C,bC⟩:=aa (xs++txB k);have V:Hid (C.length=xs.length+1+k.size/\C=(xs++[(k.size:Int)])++nb k):=by
     show _/\_;rw[bC];exact⟨by rw[u7,lz];omega,by simp[txB]⟩
    have bn:Hid _:=bC;clear bC;go_upto_region 6 with fail
    go_cut [6] (fun b1 cn=> ∃a c,b1= .slice a C.length c/\Below B a2 cn/\Own B cn a C.length c C)
    case first=>
     have a5:=bDr bR;have bF:=U.out.2.below a5;have Z:Below B a2 bR.drew:=U.out.1.trans (a5.mono (u9 aT U.out.1.size));refine az (fun u=>u.cell? ⟨N,2,none⟩=some (.slice (some ⟨aX,a7,none⟩) es.length (nv p).kc)/\u.cell? ⟨aX,a7+j,none⟩=some (.string k)) (fun k=>decide (17<=k)) uA ?_;clear a5;generalize bR.drew=h at*;have r:B<=h.1.size:=u9 aT Z.size;have y:Hid (∀u,Below B h u->u.cell? ⟨N,2,none⟩=some (.slice (some ⟨aX,a7,none⟩) es.length (nv p).kc)/\u.cell? ⟨aX,a7+j,none⟩=some (.string k)):=fun u ac=>a3.out u (Z.trans ac);have W:=t6 bF Z;have cs:=y.out h t2;clear bF Z;refine aj 0 cs ?_;refine aj 1 cs ?_;refine aj 2 cs ?_;refine aj 3 cs ?_;refine aj 4 cs ?_;refine aj 5 cs ?_;refine aj 6 cs ?_;refine aj 7 cs ?_;refine aj 10 cs ?_;refine aj 11 cs ?_;refine aj 12 cs ?_;refine aj 13 cs ?_;refine aj 14 cs ?_;refine fQ 8 15 uA rfl rfl (fun l f=> ?_) (fun l f=> ?_);rw[BC (show Region.wanted _ _=true from rfl)];obtain⟨L,A⟩:=aa h.1.size;obtain⟨z,O⟩:=aa (h.alloc (.cells #[.int .u8 (k.size:Nat)] 5));have bs:Below h.1.size h z:=by rw[O];exact bAl _ _
     have T:Bs z (some ⟨L,0,none⟩) 1 1 [(k.size:Int)]:=by rw[O,A];exact fL h (k.size:Nat) t7 t7
     refine bU _ _ _ rfl (v:= .slice (some ⟨L,0,none⟩) 1 1) (w':=z) ?bsV0 ?_
     case bsV0=>
      simp only[wa,vo,v6];rw[O,A];exact ey lA (.int .u8 (k.size:Nat)) rfl h
     have G:Below B h z:=(Bn B h).trans (bs.mono (u9 r (Bn B h).size));have br:=W.out.1.below bs;refine f.out _ _ (fun _=>y.out z G) ?_;clear f l O A;refine fQ 9 15 uA rfl rfl (fun l f=> ?_) (fun l f=> ?_);refine ei rfl _ _ rfl B a xs.length c xs rfl br L 1 1 [(k.size:Int)] rfl T t7 (u9 r G.size) ?_;intro af ab D b9 ch dp;have ak:Below B h D:=G.trans ch;refine f.out _ _ (fun _=>y.out D ak) ?_;clear f l;refine ah 15 fun l f=> ?_;obtain⟨F,o⟩:=aa D.1.size;obtain⟨I,t⟩:=aa (grownCap D k.size 0 5);obtain⟨a8,P⟩:=aa (Go.Lib.bytesWorld D 5 k);have bu:Below D.1.size D a8:=by rw[P];exact iw k D
     have J:Bs a8 (some ⟨F,0,none⟩) k.size I (nb k):=by rw[P,o,t];exact ix k D t7
     refine iH (s:=k) rfl rfl ?_;rw[<-o,<-t,<-P];have am:Below B h a8:=ak.trans (bu.mono (u9 r ak.size));have ca:=b9.below bu;refine f.out _ _ (fun _=>y.out a8 am) ?_;clear f l P o t;refine cJ 16 uA rfl fun l f=> ?_;refine ei rfl _ _ rfl B af (xs.length+1) ab (xs++[(k.size:Int)]) rfl ca F k.size I (nb k) rfl J t7 (u9 r am.size) ?_;intro bk bl H bg Y bS;have X:Below B h H:=am.trans Y;refine f.out _ _ (fun _=>y.out H X) ?_;clear f l
     rotate_left
     rw[BC (show Region.wanted _ _=true from rfl)];obtain⟨F,o⟩:=aa z.1.size;obtain⟨I,t⟩:=aa (grownCap z k.size 0 5);obtain⟨a9,Q⟩:=aa (Go.Lib.bytesWorld z 5 k);have a0:Below z.1.size z a9:=by rw[Q];exact iw k z
     have J:Bs a9 (some ⟨F,0,none⟩) k.size I (nb k):=by rw[Q,o,t];exact ix k z t7
     refine iH (s:=k) rfl rfl ?_;rw[<-o,<-t,<-Q];have an:Below B h a9:=G.trans (a0.mono (u9 r G.size));have cb:=br.below a0;have bf:=T.below a0;have bb:h.1.size<=F:=by rw[o];exact G.size
     refine f.out _ _ (fun _=>y.out a9 an) ?_;clear f l Q o t;refine cJ 9 uA rfl fun l f=> ?_;refine ei rfl _ _ rfl B a xs.length c xs rfl cb L 1 1 [(k.size:Int)] rfl bf t7 (u9 r an.size) ?_;intro af ab b5 cc cj b7;have ap:Below B h b5:=an.trans cj;have bz:=J.grownN b7 (lB W.out.1 bb);refine f.out _ _ (fun _=>y.out b5 ap) ?_;clear f l;refine cJ 16 uA rfl fun l f=> ?_;refine ei rfl _ _ rfl B af (xs.length+1) ab (xs++[(k.size:Int)]) rfl cc F k.size I (nb k) rfl bz t7 (u9 r ap.size) ?_;intro bk bl H bg Y bS;have X:Below B h H:=ap.trans Y;refine f.out _ _ (fun _=>y.out H X) ?_;clear f l
     rotate_left
     rw[BC (show Region.wanted _ _=true from rfl)];obtain⟨F,o⟩:=aa h.1.size;obtain⟨I,t⟩:=aa (grownCap h k.size 0 5);obtain⟨E,R⟩:=aa (Go.Lib.bytesWorld h 5 k);have bv:Below h.1.size h E:=by rw[R];exact iw k h
     have J:Bs E (some ⟨F,0,none⟩) k.size I (nb k):=by rw[R,o,t];exact ix k h t7
     refine iH (s:=k) rfl rfl ?_;rw[<-o,<-t,<-R];have aA:Below B h E:=(Bn B h).trans (bv.mono (u9 r (Bn B h).size));have ce:=W.out.1.below bv;have bc:h.1.size<=F:=by rw[o];exact(Bn B h).size
     refine f.out _ _ (fun _=>y.out E aA) ?_;clear f l R o t;refine ah 8 fun l f=> ?_;obtain⟨L,A⟩:=aa E.1.size;obtain⟨ag,S⟩:=aa (E.alloc (.cells #[.int .u8 (k.size:Nat)] 5));have a1:Below E.1.size E ag:=by rw[S];exact bAl _ _
     have T:Bs ag (some ⟨L,0,none⟩) 1 1 [(k.size:Int)]:=by rw[S,A];exact fL E (k.size:Nat) t7 t7
     refine bU _ _ _ rfl (v:= .slice (some ⟨L,0,none⟩) 1 1) (w':=ag) ?bsV6 ?_
     case bsV6=>
      simp only[wa,vo,v6];rw[S,A];exact ey lA (.int .u8 (k.size:Nat)) rfl E
     have aB:Below B h ag:=aA.trans (a1.mono (u9 r aA.size));have cf:=ce.below a1;have bA:=J.below a1;refine f.out _ _ (fun _=>y.out ag aB) ?_;clear f l S A;refine cJ 9 uA rfl fun l f=> ?_;refine ei rfl _ _ rfl B a xs.length c xs rfl cf L 1 1 [(k.size:Int)] rfl T t7 (u9 r aB.size) ?_;intro af ab b6 cg ck b8;have aS:Below B h b6:=aB.trans ck;have bB:=bA.grownN b8 (lB W.out.1 bc);refine f.out _ _ (fun _=>y.out b6 aS) ?_;clear f l;refine cJ 16 uA rfl fun l f=> ?_;refine ei rfl _ _ rfl B af (xs.length+1) ab (xs++[(k.size:Int)]) rfl cg F k.size I (nb k) rfl bB t7 (u9 r aS.size) ?_;intro bk bl H bg Y bS;have X:Below B h H:=aS.trans Y;refine f.out _ _ (fun _=>y.out H X) ?_;clear f l
     all_goals
      have bx:=t6 (W.out.2.trans X) bg;refine ah 17 fun l f=> ?_;go_wp2_with fail;refine aU f ?_;clear f l;go_wp2
      go_meet
      exact⟨bk,bl,by rw[V.out.1],bx.out.1,by rw[V.out.1,V.out.2];exact bx.out.2⟩
    case rest=>
     obtain⟨a,c,rfl,M,a6⟩:=hcut;obtain⟨cm,bd⟩:=aa wc;subst bd;have U:=t6 M a6;have fa:=Nat.le_of_eq V.out.1;have eC:Hid _:=bn.out;clear M a6 V a3 bn;have a3:Hid (∀u,Below B a2 u->u.cell? ⟨N,3,none⟩=some (.slice (some ⟨b2,cl,none⟩) es.length (nv p).vc)/\u.cell? ⟨b2,cl+j,none⟩=some (.string v)):=fun u ac=>⟨by rw[ac.cell (p:=⟨N,3,none⟩) bm];exact eV,by rw[ac.cell (p:=⟨b2,cl+j,none⟩) e7];exact dX⟩;obtain⟨cA,bE⟩:=aa (C++txB v);have V:Hid (cA.length=C.length+1+v.size/\cA=(C++[(v.size:Int)])++nb v):=by
      show _/\_;rw[bE];exact⟨by rw[u7,lz];omega,by simp[txB]⟩
     have bn:Hid _:=bE;clear bE;go_upto_region 7 with fail
     have a5:=bDr cm;have bF:=U.out.2.below a5;have Z:Below B a2 cm.drew:=U.out.1.trans (a5.mono (u9 aT U.out.1.size));refine az (fun u=>u.cell? ⟨N,3,none⟩=some (.slice (some ⟨b2,cl,none⟩) es.length (nv p).vc)/\u.cell? ⟨b2,cl+j,none⟩=some (.string v)) (fun k=>decide (17<=k)) uA ?_;clear a5;generalize cm.drew=h at*;have r:B<=h.1.size:=u9 aT Z.size;have y:Hid (∀u,Below B h u->u.cell? ⟨N,3,none⟩=some (.slice (some ⟨b2,cl,none⟩) es.length (nv p).vc)/\u.cell? ⟨b2,cl+j,none⟩=some (.string v)):=fun u ac=>a3.out u (Z.trans ac);have W:=t6 bF Z;have cs:=y.out h t2;clear bF Z;refine aj 0 cs ?_;refine aj 1 cs ?_;refine aj 2 cs ?_;refine aj 3 cs ?_;refine aj 4 cs ?_;refine aj 5 cs ?_;refine aj 6 cs ?_;refine aj 7 cs ?_;refine aj 10 cs ?_;refine aj 11 cs ?_;refine aj 12 cs ?_;refine aj 13 cs ?_;refine aj 14 cs ?_;refine fQ 8 15 uA rfl rfl (fun l f=> ?_) (fun l f=> ?_);rw[BC (show Region.wanted _ _=true from rfl)];obtain⟨L,A⟩:=aa h.1.size;obtain⟨z,O⟩:=aa (h.alloc (.cells #[.int .u8 (v.size:Nat)] 5));have bs:Below h.1.size h z:=by rw[O];exact bAl _ _
     have T:Bs z (some ⟨L,0,none⟩) 1 1 [(v.size:Int)]:=by rw[O,A];exact fL h (v.size:Nat) t7 t7
     refine bU _ _ _ rfl (v:= .slice (some ⟨L,0,none⟩) 1 1) (w':=z) ?bsV0 ?_
     case bsV0=>
      simp only[wa,vo,v6];rw[O,A];exact ey lA (.int .u8 (v.size:Nat)) rfl h
     have G:Below B h z:=(Bn B h).trans (bs.mono (u9 r (Bn B h).size));have br:=W.out.1.below bs;refine f.out _ _ (fun _=>y.out z G) ?_;clear f l O A;refine fQ 9 15 uA rfl rfl (fun l f=> ?_) (fun l f=> ?_);refine ei rfl _ _ rfl B a C.length c C rfl br L 1 1 [(v.size:Int)] rfl T t7 (u9 r G.size) ?_;intro af ab D b9 ch dp;have ak:Below B h D:=G.trans ch;refine f.out _ _ (fun _=>y.out D ak) ?_;clear f l;refine ah 15 fun l f=> ?_;obtain⟨F,o⟩:=aa D.1.size;obtain⟨I,t⟩:=aa (grownCap D v.size 0 5);obtain⟨a8,P⟩:=aa (Go.Lib.bytesWorld D 5 v);have bu:Below D.1.size D a8:=by rw[P];exact iw v D
     have J:Bs a8 (some ⟨F,0,none⟩) v.size I (nb v):=by rw[P,o,t];exact ix v D t7
     refine iH (s:=v) rfl rfl ?_;rw[<-o,<-t,<-P];have am:Below B h a8:=ak.trans (bu.mono (u9 r ak.size));have ca:=b9.below bu;refine f.out _ _ (fun _=>y.out a8 am) ?_;clear f l P o t;refine cJ 16 uA rfl fun l f=> ?_;refine ei rfl _ _ rfl B af (C.length+1) ab (C++[(v.size:Int)]) rfl ca F v.size I (nb v) rfl J t7 (u9 r am.size) ?_;intro bk bl H bg Y bS;have X:Below B h H:=am.trans Y;refine f.out _ _ (fun _=>y.out H X) ?_;clear f l
     rotate_left
     rw[BC (show Region.wanted _ _=true from rfl)];obtain⟨F,o⟩:=aa z.1.size;obtain⟨I,t⟩:=aa (grownCap z v.size 0 5);obtain⟨a9,Q⟩:=aa (Go.Lib.bytesWorld z 5 v);have a0:Below z.1.size z a9:=by rw[Q];exact iw v z
     have J:Bs a9 (some ⟨F,0,none⟩) v.size I (nb v):=by rw[Q,o,t];exact ix v z t7
     refine iH (s:=v) rfl rfl ?_;rw[<-o,<-t,<-Q];have an:Below B h a9:=G.trans (a0.mono (u9 r G.size));have cb:=br.below a0;have bf:=T.below a0;have bb:h.1.size<=F:=by rw[o];exact G.size
     refine f.out _ _ (fun _=>y.out a9 an) ?_;clear f l Q o t;refine cJ 9 uA rfl fun l f=> ?_;refine ei rfl _ _ rfl B a C.length c C rfl cb L 1 1 [(v.size:Int)] rfl bf t7 (u9 r an.size) ?_;intro af ab b5 cc cj b7;have ap:Below B h b5:=an.trans cj;have bz:=J.grownN b7 (lB W.out.1 bb);refine f.out _ _ (fun _=>y.out b5 ap) ?_;clear f l;refine cJ 16 uA rfl fun l f=> ?_;refine ei rfl _ _ rfl B af (C.length+1) ab (C++[(v.size:Int)]) rfl cc F v.size I (nb v) rfl bz t7 (u9 r ap.size) ?_;intro bk bl H bg Y bS;have X:Below B h H:=ap.trans Y;refine f.out _ _ (fun _=>y.out H X) ?_;clear f l
     rotate_left
     rw[BC (show Region.wanted _ _=true from rfl)];obtain⟨F,o⟩:=aa h.1.size;obtain⟨I,t⟩:=aa (grownCap h v.size 0 5);obtain⟨E,R⟩:=aa (Go.Lib.bytesWorld h 5 v);have bv:Below h.1.size h E:=by rw[R];exact iw v h
     have J:Bs E (some ⟨F,0,none⟩) v.size I (nb v):=by rw[R,o,t];exact ix v h t7
     refine iH (s:=v) rfl rfl ?_;rw[<-o,<-t,<-R];have aA:Below B h E:=(Bn B h).trans (bv.mono (u9 r (Bn B h).size));have ce:=W.out.1.below bv;have bc:h.1.size<=F:=by rw[o];exact(Bn B h).size
     refine f.out _ _ (fun _=>y.out E aA) ?_;clear f l R o t;refine ah 8 fun l f=> ?_;obtain⟨L,A⟩:=aa E.1.size;obtain⟨ag,S⟩:=aa (E.alloc (.cells #[.int .u8 (v.size:Nat)] 5));have a1:Below E.1.size E ag:=by rw[S];exact bAl _ _
     have T:Bs ag (some ⟨L,0,none⟩) 1 1 [(v.size:Int)]:=by rw[S,A];exact fL E (v.size:Nat) t7 t7
     refine bU _ _ _ rfl (v:= .slice (some ⟨L,0,none⟩) 1 1) (w':=ag) ?bsV6 ?_
     case bsV6=>
      simp only[wa,vo,v6];rw[S,A];exact ey lA (.int .u8 (v.size:Nat)) rfl E
     have aB:Below B h ag:=aA.trans (a1.mono (u9 r aA.size));have cf:=ce.below a1;have bA:=J.below a1;refine f.out _ _ (fun _=>y.out ag aB) ?_;clear f l S A;refine cJ 9 uA rfl fun l f=> ?_;refine ei rfl _ _ rfl B a C.length c C rfl cf L 1 1 [(v.size:Int)] rfl T t7 (u9 r aB.size) ?_;intro af ab b6 cg ck b8;have aS:Below B h b6:=aB.trans ck;have bB:=bA.grownN b8 (lB W.out.1 bc);refine f.out _ _ (fun _=>y.out b6 aS) ?_;clear f l;refine cJ 16 uA rfl fun l f=> ?_;refine ei rfl _ _ rfl B af (C.length+1) ab (C++[(v.size:Int)]) rfl cg F v.size I (nb v) rfl bB t7 (u9 r aS.size) ?_;intro bk bl H bg Y bS;have X:Below B h H:=aS.trans Y;refine f.out _ _ (fun _=>y.out H X) ?_;clear f l
     all_goals
      have bx:=t6 (W.out.2.trans X) bg;refine ah 17 fun l f=> ?_;go_wp2_with fail;refine aU f ?_;clear f l;have eK:Hid _:=bn.out;go_wp2_with fail;go_roundw
      case rel=>exact⟨j+1,bk,bl,cA,by go_num,by rw[V.out.1],t7,by rw[cR.out,eK.out,eC.out,b4.out],bx.out.1,by rw[V.out.1,V.out.2];exact bx.out.2⟩
      case measure=>simp[intOf];omega
   ·have cv:¬(j:Int)< (es.length:Int):=t7;have c3:es.take j=es:=wC t7;have b3:Hid (xs=lfB es):=by show xs= _;rw[b4.out,c3]
    clear c3;go_wp2
    go_meet
    exact⟨a,c,by rw[b3.out],U.out.1,by rw[<-b3.out];exact U.out.2⟩
 case rest=>
  obtain⟨fP,fV,rfl,M,a6⟩:=hcut;obtain⟨cm,bd⟩:=aa wc;subst bd;obtain⟨da,b0⟩:=aa (lfB es);rw[<-b0]at a6 ⊢;have gt:da.length<=112*es.length:=by rw[b0,pm];have:=yJ es d6 es.length;rwa [x0]at this
  have eB:Hid _:=b0;have eq:=t6 M a6;clear M a6 b0 dV;obtain⟨bT,cS⟩:=aa ((us.map (·.1)).zip cz);have fd:bT.length=us.length:=by rw[cS,List.length_zip,x7,c0.out.1];omega
  have fM:Hid _:=cS;have dk:Hid _:=fd;rw[<-cS]at cW;clear cS;go_wp2_with fail;go_loopw [6,8] (fun b1 en wr=> ∃(j:Nat)(a:Option Addr)(c:Nat)(xs:List Int),en= .int .i64 (j:Nat)/\b1= .slice a xs.length c/\j<=us.length/\xs=da++iBd 0 (bT.take j)/\xs.length<=112*es.length+46*j/\Below B a2 wr/\Own B wr a xs.length c xs) (fun _ en _=>us.length-(intOf en).toNat)
  case atStart=>exact⟨0,fP,fV,da,rfl,rfl,u6 _,by simp[iBd],t7,eq.out.1,eq.out.2⟩
  case round=>
   obtain⟨j,a,c,xs,rfl,rfl,f7,bW,e9,M,a6⟩:=hrel;obtain⟨bR,bd⟩:=aa wr;subst bd;have f0:bR.cell? ⟨N,4,none⟩=some (.slice (nv p).da us.length (nv p).dc):=by rw[M.cell (p:=⟨N,4,none⟩) bm];exact d2
   have U:=t6 M a6;have b4:Hid _:=bW;clear M a6 bW;by_cases ae:j<us.length
   ·have cv:(j:Int)< (us.length:Int):=t7;obtain⟨aX,a7,cr,cp⟩:=ad.out.2.2.1.get ae;rw[cF _ _ (by rw[x7];exact ae)]at cp;have c4:aX<B:=ad.out.2.2.2.2 _ _ _ _ _ ad.out.2.2.1 aX a7 t7 cr;have bY:(us.map (·.2)).getD j 0=(us.getD j (strOfNums [],0)).2:=eF (·.2) us j ((strOfNums [],0):Pl);obtain⟨q,eL,dl,dq,ds,d8,d9⟩:=c0.out.2 j ae;rw[bY,dl]at cp;obtain⟨_,cq,dr,_,f9⟩:=a4.out.2.1.cells dq;cases cq;have f3:a2.cell? ⟨b,q*6,none⟩=some (.int .i64 eL.page):=dr 0 _ rfl;have e2:b<B:=by rw[a4.out.2.2.1];exact(cE a4.out.2.1.nodes b (by simp[rb])).2
    have e3:g<B:=by rw[a4.out.2.2.1];exact a4.out.2.1.blk.lt
    have f2:a2.cell? ⟨g,0,none⟩=some (.slice (some ⟨b,0,none⟩) ns.length nc):=a4.out.2.1.blk.cell 0;have cR:Hid (iBd 0 (bT.take (j+1))=(iBd 0 (bT.take j)++(if j=0 then []else txB (bT.getD j (strOfNums [],0)).1))++num (bT.getD j (strOfNums [],0)).2 4):=Hd (by rw[dk.out];exact ae) _;have c8:(bT.getD j (strOfNums [],0)).1=(us.getD j (strOfNums [],0)).1/\(bT.getD j (strOfNums [],0)).2=cz.getD j 0:=by
     have e8:j<cz.length:=by rw[c0.out.1];exact ae
     rw[fM.out];have e5:j< ((us.map (·.1)).zip cz).length:=by rw[List.length_zip,x7];omega
     simp[List.getD_eq_getElem?_getD,List.getElem?_eq_getElem e5,List.getElem_zip,ae,e8]
    rw[c8.1,c8.2,<-ds]at cR;generalize eL.page=cV at*;rw[cr]at d2 f0;have c7:¬j=0->(us.getD j (strOfNums [],0)).1.size<=40:=fun bZ=>by
     obtain⟨i,rfl⟩:∃i,j=i+1:=⟨j-1,t7⟩;have:us.getD (i+1) (strOfNums [],0)=us.tail.getD i (strOfNums [],0):=by cases us<;>simp
     rw[this];exact f5 _ (bO (by rw[List.length_tail];omega))
    have dD:¬j=0->∃sb so,(nv p).sa=some ⟨sb,so,none⟩/\a2.cell? ⟨sb,so+(j-1),none⟩=some (.string (us.getD j (strOfNums [],0)).1)/\sb<B:=fun bZ=>by
     obtain⟨i,rfl⟩:∃i,j=i+1:=⟨j-1,t7⟩;obtain⟨sb,so,cL,ba⟩:=ad.out.2.2.2.1.get (i:=i) t7;rw[eh _ _ (by rw[x7,List.length_tail];omega)]at ba;have f4:(us.tail.map (·.1)).getD i (strOfNums [])=(us.getD (i+1) (strOfNums [],0)).1:=by
      have:=eF (·.1) us.tail i ((strOfNums [],0):Pl);rw[show us.tail.getD i (strOfNums [],0)=us.getD (i+1) (strOfNums [],0)by cases us<;>simp]at this;exact this
     rw[f4]at ba;exact⟨sb,so,cL,ba,ad.out.2.2.2.2 _ _ _ _ _ ad.out.2.2.2.1 sb so t7 cL⟩
    generalize (us.getD j (strOfNums [],0)).1=s at*;have ex:Hid _:=c7;have ev:Hid _:=dD;have dd:=t6 d8 d9;obtain⟨C,bC⟩:∃n,n=xs++(if j=0 then []else txB s):=⟨_,rfl⟩;have bn:Hid _:=bC;have fa:C.length<=xs.length+41:=by
     rw[bC,u7];split
     ·simp
     ·rename_i bZ;rw[lz];have:=c7 bZ;omega
    clear bY dl dq ds dr c8 cr c7 dD bC;go_upto_if 66 with fail
    go_cut [6] (fun b1 cn=> ∃a c,b1= .slice a C.length c/\Below B a2 cn/\Own B cn a C.length c C)
    case first=>
     by_cases bZ:j=0
     ·have e4:¬(0:Int)< (j:Int):=t7;have dI:C=xs:=by rw[bn.out,BC bZ,wi]
      have cB:Hid _:=dI;clear dI bZ;go_wp2
      go_meet
      exact⟨a,c,by rw[cB.out],U.out.1,by rw[cB.out];exact U.out.2⟩
     ·have e4:(0:Int)< (j:Int):=t7;obtain⟨sb,so,cL,ba,e6⟩:=ev.out bZ;have ga:=ex.out bZ;rw[cL]at eW;obtain⟨i,rfl⟩:∃i,j=i+1:=⟨j-1,t7⟩;rw[show i+1-1=i by omega]at ba;have gA:=sk s.size t7;have gi:IntKind.i64.wrap (i:Int)=(i:Int):=ll _ t7 t7;have gj:(i:Int)< ((us.length-1:Nat):Int):=t7;have gg:(0:Int)<=(i:Int):=t7;have cB:Hid (C=xs++txB s):=by show C= _;rw[bn.out,BX bZ]
      have V:Hid (C.length=xs.length+1+s.size/\C=(xs++[(s.size:Int)])++nb s):=by
       show _/\_;rw[cB.out];exact⟨by rw[u7,lz];omega,by simp[txB]⟩
      have a3:Hid (∀u,Below B a2 u->u.cell? ⟨N,5,none⟩=some (.slice (some ⟨sb,so,none⟩) (us.length-1) (nv p).sc)/\u.cell? ⟨sb,so+i,none⟩=some (.string s)):=fun u ac=>⟨by rw[ac.cell (p:=⟨N,5,none⟩) bm];exact eW,by rw[ac.cell (p:=⟨sb,so+i,none⟩) e6];exact ba⟩;generalize eb:us.length-1=dU at*;clear eb;go_upto_region 12 with fail
      have a5:=bDr bR;have bF:=U.out.2.below a5;have Z:Below B a2 bR.drew:=U.out.1.trans (a5.mono (u9 aT U.out.1.size));refine az (fun u=>u.cell? ⟨N,5,none⟩=some (.slice (some ⟨sb,so,none⟩) dU (nv p).sc)/\u.cell? ⟨sb,so+i,none⟩=some (.string s)) (fun k=>decide (19<=k)) uA ?_;clear a5;generalize bR.drew=h at*;have r:B<=h.1.size:=u9 aT Z.size;have y:Hid (∀u,Below B h u->u.cell? ⟨N,5,none⟩=some (.slice (some ⟨sb,so,none⟩) dU (nv p).sc)/\u.cell? ⟨sb,so+i,none⟩=some (.string s)):=fun u ac=>a3.out u (Z.trans ac);have W:=t6 bF Z;have cs:=y.out h t2;clear bF Z;refine aj 0 cs ?_;refine aj 1 cs ?_;refine aj 2 cs ?_;refine aj 3 cs ?_;refine aj 4 cs ?_;refine aj 5 cs ?_;refine aj 6 cs ?_;refine aj 7 cs ?_;refine aj 8 cs ?_;refine aj 11 cs ?_;refine aj 12 cs ?_;refine aj 13 cs ?_;refine aj 14 cs ?_;refine aj 15 cs ?_;refine aj 16 cs ?_;refine fQ 9 17 uA rfl rfl (fun l f=> ?_) (fun l f=> ?_);rw[BC (show Region.wanted _ _=true from rfl)];obtain⟨L,A⟩:=aa h.1.size;obtain⟨z,O⟩:=aa (h.alloc (.cells #[.int .u8 (s.size:Nat)] 5));have bs:Below h.1.size h z:=by rw[O];exact bAl _ _
      have T:Bs z (some ⟨L,0,none⟩) 1 1 [(s.size:Int)]:=by rw[O,A];exact fL h (s.size:Nat) t7 t7
      refine bU _ _ _ rfl (v:= .slice (some ⟨L,0,none⟩) 1 1) (w':=z) ?bsV0 ?_
      case bsV0=>
       simp only[wa,vo,v6];rw[O,A];exact ey lA (.int .u8 (s.size:Nat)) rfl h
      have G:Below B h z:=(Bn B h).trans (bs.mono (u9 r (Bn B h).size));have br:=W.out.1.below bs;refine f.out _ _ (fun _=>y.out z G) ?_;clear f l O A;refine fQ 10 17 uA rfl rfl (fun l f=> ?_) (fun l f=> ?_);refine ei rfl _ _ rfl B a xs.length c xs rfl br L 1 1 [(s.size:Int)] rfl T t7 (u9 r G.size) ?_;intro af ab D b9 ch dp;have ak:Below B h D:=G.trans ch;refine f.out _ _ (fun _=>y.out D ak) ?_;clear f l;refine ah 17 fun l f=> ?_;obtain⟨F,o⟩:=aa D.1.size;obtain⟨I,t⟩:=aa (grownCap D s.size 0 5);obtain⟨a8,P⟩:=aa (Go.Lib.bytesWorld D 5 s);have bu:Below D.1.size D a8:=by rw[P];exact iw s D
      have J:Bs a8 (some ⟨F,0,none⟩) s.size I (nb s):=by rw[P,o,t];exact ix s D t7
      refine iH (s:=s) rfl rfl ?_;rw[<-o,<-t,<-P];have am:Below B h a8:=ak.trans (bu.mono (u9 r ak.size));have ca:=b9.below bu;refine f.out _ _ (fun _=>y.out a8 am) ?_;clear f l P o t;refine cJ 18 uA rfl fun l f=> ?_;refine ei rfl _ _ rfl B af (xs.length+1) ab (xs++[(s.size:Int)]) rfl ca F s.size I (nb s) rfl J t7 (u9 r am.size) ?_;intro bk bl H bg Y bS;have X:Below B h H:=am.trans Y;refine f.out _ _ (fun _=>y.out H X) ?_;clear f l
      rotate_left
      rw[BC (show Region.wanted _ _=true from rfl)];obtain⟨F,o⟩:=aa z.1.size;obtain⟨I,t⟩:=aa (grownCap z s.size 0 5);obtain⟨a9,Q⟩:=aa (Go.Lib.bytesWorld z 5 s);have a0:Below z.1.size z a9:=by rw[Q];exact iw s z
      have J:Bs a9 (some ⟨F,0,none⟩) s.size I (nb s):=by rw[Q,o,t];exact ix s z t7
      refine iH (s:=s) rfl rfl ?_;rw[<-o,<-t,<-Q];have an:Below B h a9:=G.trans (a0.mono (u9 r G.size));have cb:=br.below a0;have bf:=T.below a0;have bb:h.1.size<=F:=by rw[o];exact G.size
      refine f.out _ _ (fun _=>y.out a9 an) ?_;clear f l Q o t;refine cJ 10 uA rfl fun l f=> ?_;refine ei rfl _ _ rfl B a xs.length c xs rfl cb L 1 1 [(s.size:Int)] rfl bf t7 (u9 r an.size) ?_;intro af ab b5 cc cj b7;have ap:Below B h b5:=an.trans cj;have bz:=J.grownN b7 (lB W.out.1 bb);refine f.out _ _ (fun _=>y.out b5 ap) ?_;clear f l;refine cJ 18 uA rfl fun l f=> ?_;refine ei rfl _ _ rfl B af (xs.length+1) ab (xs++[(s.size:Int)]) rfl cc F s.size I (nb s) rfl bz t7 (u9 r ap.size) ?_;intro bk bl H bg Y bS;have X:Below B h H:=ap.trans Y;refine f.out _ _ (fun _=>y.out H X) ?_;clear f l
      rotate_left
      rw[BC (show Region.wanted _ _=true from rfl)];obtain⟨F,o⟩:=aa h.1.size;obtain⟨I,t⟩:=aa (grownCap h s.size 0 5);obtain⟨E,R⟩:=aa (Go.Lib.bytesWorld h 5 s);have bv:Below h.1.size h E:=by rw[R];exact iw s h
      have J:Bs E (some ⟨F,0,none⟩) s.size I (nb s):=by rw[R,o,t];exact ix s h t7
      refine iH (s:=s) rfl rfl ?_;rw[<-o,<-t,<-R];have aA:Below B h E:=(Bn B h).trans (bv.mono (u9 r (Bn B h).size));have ce:=W.out.1.below bv;have bc:h.1.size<=F:=by rw[o];exact(Bn B h).size
      refine f.out _ _ (fun _=>y.out E aA) ?_;clear f l R o t;refine ah 9 fun l f=> ?_;obtain⟨L,A⟩:=aa E.1.size;obtain⟨ag,S⟩:=aa (E.alloc (.cells #[.int .u8 (s.size:Nat)] 5));have a1:Below E.1.size E ag:=by rw[S];exact bAl _ _
      have T:Bs ag (some ⟨L,0,none⟩) 1 1 [(s.size:Int)]:=by rw[S,A];exact fL E (s.size:Nat) t7 t7
      refine bU _ _ _ rfl (v:= .slice (some ⟨L,0,none⟩) 1 1) (w':=ag) ?bsV6 ?_
      case bsV6=>
       simp only[wa,vo,v6];rw[S,A];exact ey lA (.int .u8 (s.size:Nat)) rfl E
      have aB:Below B h ag:=aA.trans (a1.mono (u9 r aA.size));have cf:=ce.below a1;have bA:=J.below a1;refine f.out _ _ (fun _=>y.out ag aB) ?_;clear f l S A;refine cJ 10 uA rfl fun l f=> ?_;refine ei rfl _ _ rfl B a xs.length c xs rfl cf L 1 1 [(s.size:Int)] rfl T t7 (u9 r aB.size) ?_;intro af ab b6 cg ck b8;have aS:Below B h b6:=aB.trans ck;have bB:=bA.grownN b8 (lB W.out.1 bc);refine f.out _ _ (fun _=>y.out b6 aS) ?_;clear f l;refine cJ 18 uA rfl fun l f=> ?_;refine ei rfl _ _ rfl B af (xs.length+1) ab (xs++[(s.size:Int)]) rfl cg F s.size I (nb s) rfl bB t7 (u9 r aS.size) ?_;intro bk bl H bg Y bS;have X:Below B h H:=aS.trans Y;refine f.out _ _ (fun _=>y.out H X) ?_;clear f l
      all_goals
       have bx:=t6 (W.out.2.trans X) bg;refine ah 19 fun l f=> ?_;go_wp2_with fail;refine aU f ?_;clear f l;go_wp2
       go_meet
       exact⟨bk,bl,by rw[V.out.1],bx.out.1,by rw[V.out.1,V.out.2];exact bx.out.2⟩
    case rest=>
     obtain⟨a,c,rfl,M,a6⟩:=hcut;obtain⟨cm,bd⟩:=aa wc;subst bd;have U:=t6 M a6;clear M a6;have a3:Hid (∀u,Below B a2 u->u.cell? ⟨g,0,none⟩=some (.slice (some ⟨b,0,none⟩) ns.length nc)/\u.cell? ⟨N,4,none⟩=some (.slice (some ⟨aX,a7,none⟩) us.length (nv p).dc)/\u.cell? ⟨aX,a7+j,none⟩=some (.int .i64 (q:Nat))/\u.cell? ⟨b,q*6,none⟩=some (.int .i64 cV)):=fun u ac=>⟨by rw[ac.cell (p:=⟨g,0,none⟩) e3];exact f2,by rw[ac.cell (p:=⟨N,4,none⟩) bm];exact d2,by rw[ac.cell (p:=⟨aX,a7+j,none⟩) c4];exact cp,by rw[ac.cell (p:=⟨b,q*6,none⟩) e2];exact f3⟩;go_upto_region 13 with fail
     have a5:=bDr cm;have bF:=U.out.2.below a5;have Z:Below B a2 cm.drew:=U.out.1.trans (a5.mono (u9 aT U.out.1.size));refine az (fun u=>u.cell? ⟨g,0,none⟩=some (.slice (some ⟨b,0,none⟩) ns.length nc)/\u.cell? ⟨N,4,none⟩=some (.slice (some ⟨aX,a7,none⟩) us.length (nv p).dc)/\u.cell? ⟨aX,a7+j,none⟩=some (.int .i64 (q:Nat))/\u.cell? ⟨b,q*6,none⟩=some (.int .i64 cV)) (fun k=>decide (15<=k)) uA ?_;clear a5;generalize cm.drew=h at*;have r:B<=h.1.size:=u9 aT Z.size;have cs:=a3.out h Z;have W:=t6 bF Z;have eM:=i9 cV 4 h dd.out.1 (by have:=dd.out.2;omega) t7;clear bF Z;refine ay 0 cs ?_;refine ay 1 cs ?_;refine ay 2 cs ?_;refine ay 3 cs ?_;refine ay 4 cs ?_;refine ay 5 cs ?_;refine ay 6 cs ?_;refine ay 7 cs ?_;refine ay 8 cs ?_;refine ay 9 cs ?_;refine ay 10 cs ?_;refine ay 11 cs ?_;refine ay 12 cs ?_;refine ah 13 fun l f=> ?_;go_wp2_with fail;refine eM.mono ?_;rintro e D ⟨af,ab,rfl,ek,ej⟩;clear eM;have eR:Below B h D:=ek.mono r;have cX:=t6 (W.out.1.below ek) (u2 (W.out.2.trans eR) ej);have ba:=a3.out D cX.out.2.1;obtain⟨fm,bY,_⟩:=mM ej t7;subst bY;clear eR ek ej;go_wp2_with fail;refine f.out _ _ (fun _=>ba) ?_;clear f l;refine cJ 14 uA rfl fun l f=> ?_;refine ei rfl _ _ rfl B a C.length c C rfl cX.out.1 fm 4 ab (num cV 4) rfl (cX.out.2.2.bs (ec cV 4)) t7 (u9 aT cX.out.2.1.size) ?_;intro bk bl H bg Y bS;have bx:=t6 (cX.out.2.1.trans Y) bg;refine f.out _ _ (fun _=>a3.out H bx.out.1) ?_;clear f l bg Y bS;refine ah 15 fun l f=> ?_;go_wp2_with fail;refine aU f ?_;clear f l ba cs;obtain⟨cA,bE⟩:=aa (C++num cV 4);have c9:cA.length=C.length+4:=by rw[bE,u7,ew]
     have cD:=t6 bE c9;have fc:cA.length<=112*es.length+46*(j+1):=t7;clear bE c9;go_wp2_with fail;go_roundw
     case rel=>exact⟨j+1,bk,bl,cA,by go_num,by rw[cD.out.2],t7,by rw[cR.out,cD.out.1,bn.out,b4.out];simp,fc,bx.out.1,by rw[cD.out.2,cD.out.1];exact bx.out.2⟩
     case measure=>simp[intOf];omega
   ·have cv:¬(j:Int)< (us.length:Int):=t7;have c3:bT.take j=bT:=wC (by rw[dk.out];omega);have b3:Hid (xs=bP):=by show xs= _;rw[b4.out,c3,cW.out,eB.out]
    clear c3;have c2:=a4.out.2.2.1;have et:Hid (Below w.1.size w bR/\Own w.1.size bR a bP.length c bP):=⟨a4.out.1.trans (U.out.1.mono (by have:=a4.out.1.size;omega)),by rw[<-b3.out];exact U.out.2.mono (by have:=a4.out.1.size;omega)⟩;clear c2;go_wp2_with fail;go_ret;exact⟨a,c,by rw[<-b3.out];rfl,et.out.1,et.out.2⟩
end
