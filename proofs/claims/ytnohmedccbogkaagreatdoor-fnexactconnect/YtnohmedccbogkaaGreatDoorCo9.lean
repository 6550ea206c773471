import Derived.Test.YtnohmedccbogkaaGreatDoorCo7
import Derived.Test.YtnohmedccbogkaaGreatDoorCo6
namespace Go.Proofs.YtnohmedccbogkaaGreatDoor
open Go.Proofs.Tryz
open Go.RowKit
set_option linter.unusedVariables false
set_option maxRecDepth 100000
set_option maxHeartbeats 32000000
def py(g B:Nat)(l:List Int)(w:World)(e:Ending)(w':World):Prop:=
 OnlyB g w w'/\((et l<=l.length/\∃v,e= .returned (cK v (blP l))/\OBl w.1.size w' v (blP l)/\Cur w' g B (l.drop (et l)))\/(l.length<et l/\e= .panicked aU))
theorem pz:ElT 111 121 3 (.agg txz.toArray) 56:=⟨underlying111,Ih,rfl,kH⟩
theorem xS(v K):∀b∈txc v K,b.oneCell'=true:=by
 intro b a;simp only[txc,l3,List.not_mem_nil,or_false]at a;rcases a with rfl|rfl|rfl<;>rfl
theorem OTx.keepT{B w w' v K}(h:OTx B w v K)(b:KeepT 52 w w')(a:KeepT 3 w w'):OTx B w' v K:=⟨h.pts,dL h.ins b,dL h.outs a⟩
theorem xT(g B l w)(h:Cur w g B l)(cw:B<=w.1.size):
 Calls prog 123 #[.pointer (some ⟨g,0,none⟩)] w fun e w'=>py g B l w e w':=by
 have cD:=h.lt;have Z:=h.byte;have k0:=ao w 113 (bl4 z32 z32 0 (.slice none 0 0)).toArray;have bF:=bAl w (.cells (bl4 z32 z32 0 (.slice none 0 0)).toArray 113);have b6:(w.alloc (.cells (bl4 z32 z32 0 (.slice none 0 0)).toArray 113)).1.size=w.1.size+1:=by simp
 go_enter func123,ntmps123;go_upto_region 1 with fail
 change Code.wp _ _ _ _ (w.alloc (.cells (bl4 z32 z32 0 (.slice none 0 0)).toArray 113));generalize w.alloc (.cells (bl4 z32 z32 0 (.slice none 0 0)).toArray 113)=cf at*;have q:Blk cf 113 w.1.size (bl4 z32 z32 0 (.slice none 0 0)):=k0;have P:=h.below bF;have b1:=Below.onlyB bF g;have cg:w.1.size+1<=cf.1.size:=kH;have cC:=sY l (blN l);clear k0 bF b6 h;have b:Hid (∀w',OnlyB g cf w'->l.length<69->py g B l w (.panicked aU) w'):=fun w' D A=>⟨b1.trans D,kT ⟨by unfold et;omega,rfl⟩⟩;have d:=kG q b1;clear q b1;rcases nr l.length 32 with hk0|hk0
 ·go_wp2_with fail;refine q2 (rj g B l cf P hk0) ?_;rintro e w1 ⟨rfl,R⟩;go_wp2;exact⟨rfl,b.out _ R kH⟩
 have bw:=oo g B l cf P kH hk0;obtain⟨x,aw⟩:∃x,x=l.take 32:=⟨_,rfl⟩;have n:x.length=32:=by rw[aw,lw];omega
 rw[<-aw]at bw;have cu:Hid _:=aw;clear aw P;go_wp2_with fail;refine q2 bw ?_;rintro e w1 ⟨rfl,R,bu⟩;have b6:=k2 cg R.size;clear bw;rcases nr (l.drop 32).length 32 with hk1|hk1
 ·have A:l.length<69:=by rw[k3]at hk1;omega
  go_wp2_with fail;refine q2 (rj g B _ w1 bu hk1) ?_;rintro e b5 ⟨rfl,aX⟩;go_wp2;exact⟨rfl,b.out _ (R.trans aX) A⟩
 have bx:=oo g B _ w1 bu kH hk1;obtain⟨y,aH⟩:∃y,y=(l.drop 32).take 32:=⟨_,rfl⟩;have o:y.length=32:=by rw[aH,lw];omega
 rw[<-aH,m0]at bx;have cv:Hid _:=aH;clear aH bu;go_wp2_with fail;refine q2 bx ?_;rintro e b5 ⟨rfl,aX,bv⟩;have an:=R.trans aX;clear bx R aX;rcases nr (l.drop (32+32)).length 4 with hk2|hk2
 ·have A:l.length<69:=by rw[k3]at hk2;omega
  go_wp2_with fail;refine q2 (vp g B _ b5 bv hk2) ?_;rintro e s ⟨rfl,a0⟩;go_wp2;exact⟨rfl,b.out _ (an.trans a0) A⟩
 have bz:=om g B _ b5 bv hk2;obtain⟨f,ae⟩:∃f,f=low ((l.drop (32+32)).take 4):=⟨_,rfl⟩;rw[<-ae,m0]at bz;have cb:Hid _:=ae;clear ae bv;go_wp2_with fail;refine q2 bz ?_;rintro e s ⟨rfl,a0,b7⟩;have O:=an.trans a0;have bP:68<=l.length:=by rw[k3]at hk2;omega
 clear bz an a0 hk0 hk1 hk2;have ba:=In x y f n o;have cr:(prog.info? 113).map (·.size)=some (bl4 x y f (.slice none 0 0)).toArray.size:=by rw[k8,gL _ _ n o];exact fG
 have bt:(bl4 z32 z32 0 (.slice none 0 0)).toArray.size=(bl4 x y f (.slice none 0 0)).toArray.size:=by rw[k8,k8,gL _ _ n o,gL _ _ dX dX]
 have ch:(bl4 x y f (.slice none 0 0)).toArray.all (·.oneCell')=true:=jo x y f _ rfl;go_upto_region 2 with(first|(refine fK rfl _ _ rfl (cs:=(bl4 x y f (.slice none 0 0)).toArray) ?hbu ?_)|(refine aL rfl 113 _ _ rfl s (bl4 z32 z32 0 (.slice none 0 0)).toArray (bl4 x y f (.slice none 0 0)).toArray 113 rfl rfl cr bt ch ?_))
 case hbu=>exact ba
 have cq:=ao s 113 (bl4 x y f (.slice none 0 0)).toArray;have a5:=bAl s (.cells (bl4 x y f (.slice none 0 0)).toArray 113);have q:=(d.out.1.only O kH).below a5;have a1:=(d.out.2.trans O).trans (Below.onlyB a5 g);have ap:=b7.below a5;have cF:=k2 cg O.size;have cG:(s.alloc (.cells (bl4 x y f (.slice none 0 0)).toArray 113)).1.size=s.1.size+1:=by simp
 have b:Hid (∀w',OnlyB g (s.alloc (.cells (bl4 x y f (.slice none 0 0)).toArray 113)) w'->l.length<69->py g B l w (.panicked aU) w'):=fun w' D A=>⟨a1.trans D,kT ⟨by unfold et;omega,rfl⟩⟩;generalize s.alloc (.cells (bl4 x y f (.slice none 0 0)).toArray 113)=bE at*;have ak:Blk bE 113 s.1.size (bl4 x y f (.slice none 0 0)):=cq;clear d O b7 a5 cq ba cr bt ch b6;generalize cn:s.1.size=F at*;clear cn;rcases nr (l.drop (32+32+4)).length 1 with z|z
 ·have A:l.length<69:=by rw[k3]at z;omega
  have H:=ol g B _ bE ap z;clear q ak ap a1;go_wp2_with fail;refine q2 H ?_;rintro e J ⟨rfl,I⟩;go_wp2;exact⟨rfl,b.out _ I A⟩
 have H:=mE g B _ bE ap z;rw[lT,m2,m0]at H;obtain⟨bb,cx⟩:=iz Z 68;have L:Hid (blN l=(l.getD 68 0).toNat):=rfl;rw[show 32+32+4=68 from rfl,bb]at H;clear bb;generalize (l.getD 68 0).toNat=am at*;have bc:69<=l.length:=by rw[k3]at z;omega
 have d:=kG q (kR ak (kR a1 Z));clear q ak ap a1 z bP b Z;go_wp2_with fail;refine q2 H ?_;rintro e J ⟨rfl,I,b8⟩;have bi:=d.out.1.only I kH;have bl:=d.out.2.1.only I kH;have bd:=d.out.2.2.1.trans I;have cH:F+1<=J.1.size:=by have:=I.size;omega
 have cc:Hid _:=d.out.2.2.2;have U:=kG bi (kR bl (kR bd b8));clear d H bi bl bd b8 I;go_wp2;go_loopw [13] (fun i wr=> ∃j a c C,j<=am/\i= .int .i64 (j:Nat)/\bZ l j<=l.length/\OnlyB g w wr/\J.1.size<=wr.1.size/\Blk wr 113 w.1.size (bl4 z32 z32 0 (.slice none 0 0))/\Blk wr 113 F (bl4 x y f (.slice a j c))/\OTxs J.1.size wr a j c C (fu l)/\Cur wr g B (l.drop (bZ l j))) (fun i _=>am-(intOf i).toNat)
 case atStart=>exact⟨0,none,0,fun _=>⟨none,0,none,0⟩,kX _,rfl,bc,U.out.2.2.1,kE,U.out.1,U.out.2.1,⟨eU _ _ _ _ _,fun i af=>absurd af kH,fun i k _ z=>absurd z kH⟩,U.out.2.2.2⟩
 case round=>
  obtain⟨j,a,c,C,cE,rfl,bR,D,co,q,ah,a4,ct⟩:=hrel;clear U;by_cases cB:j<am
  ·have cs:wr.drew.cell? ⟨F,65,none⟩=some (.slice a j c):=by
    have:=ah.cell 65;rw[jL _ _ n o]at this;exact this
   have bS:(j:Int)< (am:Int):=kH;have bH:=bDr wr;have P:=ct.below bH;have ce:=Ik g B _ wr.drew P (show B<=wr.1.size by omega);have d:=kG D (kR q (kR ah a4));have b:Hid (∀w',OnlyB g wr.drew w'->l.length<bZ l (j+1)->py g B l w (.panicked aU) w'):=fun w' cy A=>⟨d.out.1.trans ((Below.onlyB bH g).trans cy),kT ⟨lk A (by unfold et;rw[L.out];exact pu l kH),rfl⟩⟩;clear D q ah a4 ct P;go_wp2_with fail;refine ay (fun v=>v.cell? ⟨F,65,none⟩=some (.slice a j c)) (fun k=>decide (5<=k)) kO ?_;refine aa 0 cs ?_;refine aa 1 cs ?_;refine aa 2 cs ?_;refine aj 3 fun u m=> ?_;go_wp2_with fail;refine q2 ce ?_;rintro e G ⟨b2,⟨ad,r,rfl,bq,ar⟩|⟨cm,rfl⟩⟩
   rotate_left
   ·go_wp2;refine⟨rfl,b.out _ b2 ?_⟩;rw[k3]at cm;simp only[bZ];omega
   clear ce b;have t:=(Below.onlyB bH g).trans b2;have M:=d.out.2.2.1.only t kH;have a8:=M.cell 65;rw[jL _ _ n o]at a8;go_wp2_with fail;refine al m ?_;clear m u;have bj:=d.out.2.1.only t kH;have E:=d.out.2.2.2.only t kH;have be:=d.out.1.trans t;have bh:=k2 co t.size;rw[m0]at ar;change Cur G g B (l.drop (bZ l (j+1)))at ar;have aO:bZ l (j+1)<=l.length:=by
    rw[k3]at ad;simp only[bZ];omega
   have b3:OTx wr.1.size G r (fu l j):=bq;have a6:Hid (∀i,i<j->pq (C i) r (fu l i) (fu l j)):=fun i af=>xK (d.out.2.2.2.each i af) b3 kE;have W:Hid _:=d.out.2.2.2.sep;have T:=bAl G (.cells (txc r (fu l j)).toArray 121);clear bq b2 d a8;have a9:=(M.below T).cell 65;rw[jL _ _ n o]at a9;refine aj 4 fun u m=> ?_;refine fj _ _ _ rfl (v:= .slice (some ⟨G.1.size,0,none⟩) 1 1) (w':=G.alloc (.cells (txc r (fu l j)).toArray 121)) ?bs ?_
   case bs=>
    simp only[k9,k4,k7];exact gF pz kH (.agg (txc r (fu l j)).toArray) (txc r (fu l j)) rfl rfl G
   refine al m ?_;clear m u a9;refine aj 5 fun u m=> ?_;refine jv _ _ pz rfl J.1.size a j c (bU C (fu l)) rfl E.row (txc r (fu l j)) rfl (xS _ _) rfl kH kH bh ?_;intro X Y K a2 Q bN;refine al m ?_;clear m u;replace a2:ORow 121 3 J.1.size K X (j+1) Y (bU (dN C j r) (fu l)):=a2.congr (fun i af=>by
    by_cases e:i=j
    ·subst e;rw[fJ];unfold bU;rw[fH]
    ·rw[iE _ _ kH];unfold bU;rw[eo _ _ _ e])
   have b0:KeepT 52 G K:=(aW T).trans (bJ (cj E.row T) bN kN);have bY:KeepT 3 G K:=(aW T).trans (bJ (cj E.row T) bN kN);have bn:OTxs J.1.size K X (j+1) Y (dN C j r) (fu l):=by
    refine⟨a2,fun i af=> ?_,fun i k cl z=> ?_⟩
    ·by_cases e:i=j
     ·subst e;rw[fH];exact(b3.mono co).keepT b0 bY
     ·rw[eo _ _ _ e];exact(E.each i kH).keepT b0 bY
    ·by_cases e:k=j
     ·subst e;rw[fH,eo _ _ _ kH];exact a6.out i kH
     ·rw[eo _ _ _ e,eo _ _ _ kH];exact W.out i k cl kH
   have bk:Blk K 113 w.1.size (bl4 z32 z32 0 (.slice none 0 0)):=(Q.block _ kH).trans bj;have N:Blk K 113 F (bl4 x y f (.slice a j c)):=(Q.block _ kH).trans M;have b9:=ar.belowB Q kH kH;have bf:=be.thenN Q kH;have cp:=k2 bh Q.size;have a7:=N.cell 65;rw[jL _ _ n o]at a7;have ck:=N.free 65;have ai:=N.set 65 (.slice X (j+1) Y);rw[xP _ _ _ n o]at ai;have S:=aB K F 65 (.slice X (j+1) Y);have p:=kG (bf.thenN (S.below kE kH) (show w.1.size<=F by omega)) (kR (k2 cp S.size) (kR (bk.only S kH) (kR ai (kR (bn.only S kH) (b9.only S kH kH)))));clear bj M E be bk N ar b9 bf a2 Q T S t b3 b0 bY bn ai bN a6 W ad;refine aj 6 fun u m=> ?_;go_wp2_with fail;refine al m ?_;clear m u;refine aj 7 fun u m=> ?_;go_wp2_with fail;refine al m ?_;clear m u;refine ax ?_;clear a7 ck cs;go_wp2;go_roundw
   case rel=>exact⟨j+1,X,Y,dN C j r,kH,by go_num,aO,p.out⟩
   case measure=>simp[intOf];omega
  ·obtain rfl:j=am:=kH;have bS:¬((j:Int)< (j:Int)):=kH;obtain⟨V,ab⟩:∃V:BlV,V=⟨a,c,C⟩:=⟨_,rfl⟩;have ci:bl4 x y f (.slice a j c)=blc V (blP l):=by
    rw[ab,cu.out,cv.out,cb.out,xL];show bl4 _ _ _ (Value.slice a j c)=bl4 _ _ _ (Value.slice a (blN l) c);rw[L.out]
    rfl
   have ag:=px cc.out bc;have b4:(prog.info? 113).map (·.size)=some (blc V (blP l)).toArray.size:=by rw[ii V ag];exact fG
   have cA:(bl4 z32 z32 0 (.slice none 0 0)).toArray.size=(blc V (blP l)).toArray.size:=by rw[ii V ag,k8,gL _ _ dX dX]
   rw[ci]at ah;have cz:=q.setRow (blc V (blP l));have a3:=aN wr w.1.size (blc V (blP l)).toArray;have bg:=D.thenN (a3.below kE kH) kE;have bp:=a4.only a3 kH;have ca:=ct.only a3 cw kH;have cd:OBl w.1.size (wr.setRow w.1.size (blc V (blP l)).toArray) V (blP l):=by
    refine⟨ag,?_⟩;show OTxs _ _ V.ta (blN l) V.tc V.tv (fu l);rw[L.out,show V.ta=a by rw[ab],show V.tc=c by rw[ab],show V.tv=C by rw[ab]];exact bp.mono kH
   have ac:et l=bZ l j:=by unfold et;rw[L.out]
   have p:=kG bg (kR cd (kR ca ac));clear bg bp cd ca ac a4 ct D a3 ci ab;go_wp2_with (first|(refine qi rfl 113 _ rfl F rfl 113 (blc V (blP l)).toArray (0,0) _ ah q7 rfl b4 ?_)|(refine qB rfl 113 _ _ rfl w.1.size (blc V (blP l)).toArray rfl rfl 113 _ q b4 cA (lS _ _) ?_));refine p6 (v:= .agg (blc V (blP l)).toArray) ?_ rfl ⟨p.out.1,kV ⟨by rw[p.out.2.2.2];exact bR,V,rfl,p.out.2.1,by rw[p.out.2.2.2];exact p.out.2.2.1⟩⟩;exact r3 results123 _ _ w.1.size 113 (blc V (blP l)).toArray (0,0) _ rfl cz q7 rfl b4
