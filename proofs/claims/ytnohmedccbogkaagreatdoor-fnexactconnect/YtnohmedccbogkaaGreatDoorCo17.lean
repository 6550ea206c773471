import Derived.Test.YtnohmedccbogkaaGreatDoorCo14
import Derived.Test.YtnohmedccbogkaaGreatDoorCo13
namespace Go.Proofs.YtnohmedccbogkaaGreatDoor
open Go.Proofs.Tryz
open Go.RowKit
set_option linter.unusedVariables false
set_option maxRecDepth 100000
set_option maxHeartbeats 32000000
structure SB(w W:World)(g t:Nat)(l:List Int)(q:Nat)(s:Bool)(X Y:List Int)(ht:Int)(u:Value):Prop where
 res:Blk W 113 w.1.size (bl4 z32 z32 0 (.slice none 0 0))
 blk:Blk W 113 t (bl4 X Y ht u)
 rd:Rdr W g w.1.size l q s
 bel:Below w.1.size w W
 hg:w.1.size<g
 gt:g<t
theorem SB.lt{w b g c l q s d e a f}(h:SB w b g c l q s d e a f):c<b.1.size:=h.blk.lt
theorem SB.ge{w b g e l q s c d a f}(h:SB w b g e l q s c d a f):w.1.size<=b.1.size:=h.bel.size
theorem SB.only{w f a g k l q d s e i j c m}(h:SB w f g k l q s i j c m)(b:OnlyB g f a)(hr:Rdr a g w.1.size l d e):SB w a g k l d e i j c m:=
 ⟨h.res.only b (by have:=h.hg;omega),h.blk.only b (by have:=h.gt;omega),hr,h.bel.trans (b.below (by have:=h.hg;omega) h.ge),h.hg,h.gt⟩
theorem SB.below{w d b g i l q s e f c j}(h:SB w d g i l q s e f c j)(a:Below d.1.size d b):SB w b g i l q s e f c j:=
 ⟨h.res.below a,h.blk.below a,h.rd.below a,h.bel.trans (a.mono h.ge),h.hg,h.gt⟩
theorem SB.belowB{w d b g j N l q s k m c o}(h:SB w d g j l q s k m c o)(a:Below N d b)(i:j<N)(n:N<=d.1.size):SB w b g j l q s k m c o:=by
 have e:=h.hg;have f:=h.gt;exact⟨(a.block _ kH).trans h.res,(a.block _ i).trans h.blk,h.rd.belowB a kH kH,h.bel.trans (a.mono kH),e,f⟩
theorem SB.put{w b g a l q s f i X' Y' e ht' j u'}(h:SB w b g a l q s f i e j):SB w (b.setRow a (bl4 X' Y' ht' u').toArray) g a l q s X' Y' ht' u':=by
 have o:=aN b a (bl4 X' Y' ht' u').toArray;have c:=h.hg;have d:=h.gt;exact⟨h.res.only o kH,h.blk.setRow _,h.rd.only o kH kH,h.bel.trans (o.below kH h.ge),c,d⟩
theorem SB.setH{w b g a l q s c d m n}(h:SB w b g a l q s c d m n)(i:c.length=32)(j:d.length=32)(x):SB w (b.setCell ⟨a,64,none⟩ (.int .i64 x)) g a l q s c d x n:=by
 have o:=aB b a 64 (.int .i64 x);have e:=h.hg;have f:=h.gt;have k:=h.blk.set 64 (.int .i64 x);rw[Il _ _ _ i j]at k;exact⟨h.res.only o kH,k,h.rd.only o kH kH,h.bel.trans (o.below kH h.ge),e,f⟩
theorem SB.setT{w c g b l q s d e a n}(h:SB w c g b l q s d e a n)(j:d.length=32)(m:e.length=32)(x):SB w (c.setCell ⟨b,65,none⟩ x) g b l q s d e a x:=by
 have o:=aB c b 65 x;have f:=h.hg;have i:=h.gt;have k:=h.blk.set 65 x;rw[xP _ _ _ j m]at k;exact⟨h.res.only o kH,k,h.rd.only o kH kH,h.bel.trans (o.below kH h.ge),f,i⟩
theorem Jx{l L M u v k m q3 t i n s3 p}(j:i=false->0+32<=l.length/\k=0+32/\L=(l.drop 0).take 32)(g:i=true->l.length<0+32)(q:n=false->i=false/\k+32<=l.length/\m=k+32/\M=(l.drop k).take 32)(o:n=true->i=true\/l.length<k+32)(w:s3=false->n=false/\m+4<=l.length/\q3=m+4/\u=(l.drop m).take 4)(s:s3=true->n=true\/l.length<m+4)(K:p=false->s3=false/\q3+1<=l.length/\t=q3+1/\v=(l.drop q3).take 1)(J:p=true->s3=true\/l.length<q3+1):
 (p=false->69<=l.length/\L=l.take 32/\M=(l.drop 32).take 32/\low u=low ((l.drop 64).take 4)/\blN l=(v.getD 0 0).toNat/\t=69)/\(p=true->l.length<69):=by
 refine⟨fun e=> ?_,fun e=> ?_⟩
 ·obtain⟨I,x,y,z⟩:=K e;obtain⟨H,N,A,B⟩:=w I;obtain⟨G,O,C,D⟩:=q H;obtain⟨P,E,F⟩:=j G;obtain rfl:k=32:=E;obtain rfl:m=64:=C;obtain rfl:q3=68:=A;refine⟨x,F,D,by rw[B],?_,y⟩;rw[z];unfold blN;simp[List.getD]
 ·rcases J e with h|h
  ·rcases s h with h|h
   ·rcases o h with h|h
    ·have:=g h;omega
    ·cases f:i with
     |true=>
      have:=g f;omega
     |false=>have:=j f;omega
   ·cases f:n with
    |true=>
     rcases o f with h|h
     ·have:=g h;omega
     ·cases d:i with
      |true=>
       have:=g d;omega
      |false=>have:=j d;omega
    |false=>
     have a:=q f;have b:=j a.1;omega
  ·cases f:s3 with
   |false=>
    have a:=w f;have b:=q a.1;have c:=j b.1;omega
   |true=>
    rcases s f with h|h
    ·rcases o h with h|h
     ·have:=g h;omega
     ·cases d:i with
      |true=>
       have:=g d;omega
      |false=>have:=j d;omega
    ·cases r:n with
     |true=>
      rcases o r with h|h
      ·have:=g h;omega
      ·cases d:i with
       |true=>
        have:=g d;omega
       |false=>have:=j d;omega
     |false=>
      have a:=q r;have b:=j a.1;omega
theorem Jy{l}(h:l.length<69):bI l=false:=by
 have:=sY l (blN l);unfold bI et;rw[q5 kH]
 rfl
theorem OTxs.congr{B w a n c g K K'}(h:OTxs B w a n c g K)(e:∀i,i<n->K i=K' i):OTxs B w a n c g K':=
 ⟨h.row.congr (fun i b=>by unfold bU;rw[e i b]),fun i b=>by rw[<-e i b];exact h.each i b,fun i j d f=>by rw[<-e i kH,<-e j f];exact h.sep i j d f⟩
theorem Jz{l}(c:IsB l)(a:69<=l.length)(d:et l<=l.length)(e:∀i,i<blN l->dJ (l.drop (bZ l i)))(b:cQ (blP l)=true):gM (blP l)=l.take (et l):=by
 rw[xZ b];exact yG c a (blN l) kE d e
theorem JA{l:List Int}{k}(h:k<=l.length):(l.take k=l)↔k=l.length:=by
 constructor
 ·intro e;have:=rx List.length e;rw[lw]at this;omega
 ·intro e;rw[e,ox]
theorem JB(a n c l w)(h:Bs w a n c l)(eb:l.length<=1048576):
 Calls prog 65 #[.slice a n c] w fun e w'=>Below w.1.size w w'/\∃v,e= .returned (.tuple #[cK v (aG l),.bool (bI l)])/\OBl w.1.size w' v (aG l):=by
 have aX:=h.byte;have ar:(prog.info? 113).map (·.size)=some (bl4 z32 z32 0 (.slice none 0 0)).toArray.size:=by rw[k8,gL _ _ dX dX];exact fG
 have k0:=ao w 113 (bl4 z32 z32 0 (.slice none 0 0)).toArray;have dD:=bAl w (.cells (bl4 z32 z32 0 (.slice none 0 0)).toArray 113);have dG:(w.alloc (.cells (bl4 z32 z32 0 (.slice none 0 0)).toArray 113)).1.size=w.1.size+1:=by simp
 go_enter func65,ntmps65;go_upto_region 1 with fail
 change Code.wp _ _ _ _ (w.alloc (.cells (bl4 z32 z32 0 (.slice none 0 0)).toArray 113));generalize w.alloc (.cells (bl4 z32 z32 0 (.slice none 0 0)).toArray 113)=L at*;have ca:Hid (L.1.size=w.1.size+1):=dG;clear dG;have dx:=ao L 172 #[.slice a n c,.int .i64 0,.bool false];have bS:=bAl L (.cells #[.slice a n c,.int .i64 0,.bool false] 172);have dW:(L.alloc (.cells #[.slice a n c,.int .i64 0,.bool false] 172)).1.size=L.1.size+1:=by simp
 go_upto_region 2 with fail
 change Code.wp _ _ _ _ (L.alloc (.cells #[.slice a n c,.int .i64 0,.bool false] 172));generalize L.alloc (.cells #[.slice a n c,.int .i64 0,.bool false] 172)=P at*;have cb:Hid (P.1.size=L.1.size+1):=dW;clear dW;have dy:=ao P 113 (bl4 z32 z32 0 (.slice none 0 0)).toArray;have bj:=bAl P (.cells (bl4 z32 z32 0 (.slice none 0 0)).toArray 113);go_upto_region 3 with(first|(refine fK rfl _ _ rfl jP ?_)|(refine aL rfl 113 _ _ rfl P (bl4 z32 z32 0 (.slice none 0 0)).toArray (bl4 z32 z32 0 (.slice none 0 0)).toArray 113 rfl rfl ar rfl (jo _ _ _ _ rfl) ?_))
 change Code.wp _ _ _ _ (P.alloc (.cells (bl4 z32 z32 0 (.slice none 0 0)).toArray 113));generalize P.alloc (.cells (bl4 z32 z32 0 (.slice none 0 0)).toArray 113)=b6 at*;have ci:w.1.size<L.1.size/\L.1.size<P.1.size:=by have:=ca.out;have:=cb.out;omega
 have cz:=(dD.trans (bS.mono kH)).trans (bj.mono kH);have b0:SB w b6 L.1.size P.1.size l 0 false z32 z32 0 (.slice none 0 0):=
  ⟨(k0.below bS).below bj,dy,⟨a,n,c,dx.below bj,h.below cz,fun b off ef e=>by obtain⟨d2,cO,c5,be,_⟩:=h.at_ ef;rw[e]at c5;cases c5;exact be,kX _,eb⟩,cz,ci.1,ci.2⟩
 clear k0 dx dy dD bS bj cz ca cb;generalize L.1.size=g at*;generalize P.1.size=a5 at*;have O:=iA g w.1.size l 0 32 false b6 b0.rd kH kH;go_wp2_with fail;refine q2 O ?_;rintro e ex ⟨d2,cO,M,Y,bS,ep,rfl,f⟩;have bn:=lE _ M Y ex f.bs;have o:=f.bs.len_eq;have cl:=f.bs.byte;have y:=b0.only f.only f.rd;have cv:=kG (fun e=>(f.yes e).2) (fun e=>(f.no e).resolve_left kN);clear O b0 f;go_wp2_with fail;refine q2 bn ?_;rintro e eA ⟨rfl,cd⟩;have B:=y.below cd;clear bn y cd;have bR:=B.blk;have bY:(prog.info? 32).map (·.size)=some (ob Y).length:=by rw[au,o];exact aJ
 have S:0+(ob Y).length<=(bl4 z32 z32 0 (.slice none 0 0)).length:=by rw[au,o,gL _ _ dX dX];omega
 have bx:Hid ((bl4 z32 z32 0 (.slice none 0 0)).take 0++ob Y++(bl4 z32 z32 0 (.slice none 0 0)).drop (0+(ob Y).length)=bl4 Y z32 0 (.slice none 0 0)):=xM 0 _ dX o;have I:Hid _:=B.put (X':=Y) (Y':=z32) (ht':=0) (u':= .slice none 0 0);clear B;unfold hA;go_upto_region 4 with(refine ur rfl 32 _ _ rfl a5 0 (ob Y) rfl rfl 113 _ bR bY S (ev _) ?_)
 rw[bx.out];generalize eA.setRow a5 (bl4 Y z32 0 (.slice none 0 0)).toArray=P at*;have b1:=I.out;clear I bx S bY bR;have O:=iA g w.1.size l bS 32 ep P b1.rd kH kH;go_wp2_with fail;refine q2 O ?_;rintro e ey ⟨eP,ej,d3,a6,bj,eq,rfl,f⟩;have bn:=lE _ d3 a6 ey f.bs;have u:=f.bs.len_eq;have cm:=f.bs.byte;have y:=b1.only f.only f.rd;have cw:=kG f.yes f.no;clear O b1 f;go_wp2_with fail;refine q2 bn ?_;rintro e eC ⟨rfl,ce⟩;have B:=y.below ce;clear bn y ce;have bR:=B.blk;have bY:(prog.info? 32).map (·.size)=some (ob a6).length:=by rw[au,u];exact aJ
 have S:32+(ob a6).length<=(bl4 Y z32 0 (.slice none 0 0)).length:=by rw[au,u,gL _ _ o dX];omega
 have bx:Hid ((bl4 Y z32 0 (.slice none 0 0)).take 32++ob a6++(bl4 Y z32 0 (.slice none 0 0)).drop (32+(ob a6).length)=bl4 Y a6 0 (.slice none 0 0)):=xO 0 _ o dX u;have I:Hid _:=B.put (X':=Y) (Y':=a6) (ht':=0) (u':= .slice none 0 0);clear B;unfold hA;go_upto_region 5 with(refine ur rfl 32 _ _ rfl a5 32 (ob a6) rfl rfl 113 _ bR bY S (ev _) ?_)
 rw[bx.out];generalize eC.setRow a5 (bl4 Y a6 0 (.slice none 0 0)).toArray=b6 at*;have b2:=I.out;clear I bx S bY bR;have O:=iA g w.1.size l bj 4 eq b6 b2.rd kH kH;go_wp2_with fail;refine q2 O ?_;rintro e dE ⟨eV,ek,d4,dF,q3,s3,rfl,f⟩;have cu:=iR _ 4 d4 dF dE f.bs kH;obtain⟨W,bE⟩:∃W,W=low dF:=⟨_,rfl⟩;rw[<-bE]at cu;have y:=b2.only f.only f.rd;have cx:=kG f.yes f.no;have b9:Hid _:=bE;clear O b2 f bE;go_wp2_with fail;refine q2 cu ?_;rintro e e1 ⟨rfl,cp⟩;obtain rfl:=cp.symm;clear cu;have cf:=y.blk.cell 64;rw[Im _ _ o u]at cf;have c9:=y.blk.free 64;have I:Hid _:=y.setH o u W;clear y cp;go_upto_region 6 with fail
 generalize dE.setCell ⟨a5,64,none⟩ (.int .i64 W)=d1 at*;have b3:=I.out;clear I cf c9;have O:=iA g w.1.size l q3 1 s3 d1 b3.rd kH kH;go_wp2_with fail;refine q2 O ?_;rintro e eH ⟨eW,em,eX,eK,en,er,rfl,f⟩;obtain⟨_,_,e,_,dd⟩:=f.bs.at_ kH;cases e;have cA:=dd 0 kH;rw[m2]at cA;obtain⟨co,eL⟩:=iz f.bs.byte 0;rw[co]at cA;have m:=Jx cv.out.1 cv.out.2 cw.out.1 cw.out.2 cx.out.1 cx.out.2 f.yes f.no;rw[<-b9.out]at m;have aO:Hid _:=m;have b4:=b3.only f.only f.rd;clear O b3 f dd co m cv cw cx b9;generalize (eK.getD 0 0).toNat=X at*;have bF:=b4.lt;have J:Hid _:=b4;clear b4;generalize ck:eH.1.size=N at*;go_wp2;go_loopw [6] (fun i wr=> ∃j a c ac t s q,j<=X/\i= .int .i64 ((X-j:Nat):Int)/\N<=wr.1.size/\SB w wr g a5 l q s Y a6 W (.slice a j c)/\OTxs N wr a j c ac t/\(∀i,i<j->(t i).ni<=256/\(t i).no<=256)/\(s=false->69<=l.length/\blN l=X/\q=bZ l j/\Y=l.take 32/\a6=(l.drop 32).take 32/\W=low ((l.drop 64).take 4)/\∀i,i<j->t i=fu l i/\dJ (l.drop (bZ l i)))/\(s=true->bI l=false)) (fun i _=>(intOf i).toNat)
 case atStart=>exact⟨0,none,0,fun _=>⟨none,0,none,0⟩,fun _=>⟨0,fun _=>fy,0,fun _=>0,0⟩,er,en,kX _,rfl,Nat.le_of_eq ck.symm,J.out,⟨eU _ _ _ _ _,fun i r=>absurd r kH,fun i k _ dr=>absurd dr kH⟩,fun i r=>absurd r kH,fun e=>⟨(aO.out.1 e).1,(aO.out.1 e).2.2.2.2.1,(aO.out.1 e).2.2.2.2.2,(aO.out.1 e).2.1,(aO.out.1 e).2.2.1,(aO.out.1 e).2.2.2.1,fun i r=>absurd r kH⟩,fun e=>Jy (aO.out.2 e)⟩
 case round=>
  obtain⟨j,Z,M,ac,t,s,q,eY,rfl,eh,sb,a2,af,H,ae⟩:=hrel;clear J aO cA;by_cases T:j<X/\s=false
  ·obtain⟨be,rfl⟩:=T;have d5:=sb.rd.cellS;have bH:(0:Int)< ((X-j:Nat):Int):=kH;have c4:=bDr wr;have ag:=sb.below c4;have cs:wr.drew.cell? ⟨a5,65,none⟩=some (.slice Z j M):=by
    have:=ag.blk.cell 65;rw[jL _ _ o u]at this;exact this
   have cV:Hid (q<=l.length):=ag.rd.le.1;have c1:=Jt g w.1.size l q wr.drew ag.rd ag.ge;have a7:=kG ag (kR (a2.below c4) (H rfl));have cq:N<=wr.drew.1.size:=eh;clear sb a2 H ae ag;go_wp2_with fail;refine ay (fun v=>v.cell? ⟨a5,65,none⟩=some (.slice Z j M)) (fun k=>decide (5<=k)) kO ?_;refine aa 0 cs ?_;refine aa 1 cs ?_;refine aa 2 cs ?_;generalize wr.drew=e2 at*;refine aT 3 kO rfl (fun D E=> ?_);rw[qb (show Region.wanted _ _=true from rfl)];go_wp2_with fail;refine q2 c1 ?_;rintro e G ⟨aH,z,rfl,aw⟩;clear c1;have d:∃ba bb,SB w G g a5 l ba bb Y a6 W (.slice Z j M)/\(bb=false->dJ (l.drop q)/\z=txP (l.drop q)/\ba=q+dk (l.drop q))/\(bb=true->¬dJ (l.drop q)):=by
    rcases aw.is with⟨bz,cD,am⟩|⟨bz,ba,am⟩
    ·exact⟨_,false,a7.out.1.only aw.only am,fun _=>⟨bz,cD,rfl⟩,(fun e=>by cases e)⟩
    ·exact⟨ba,true,a7.out.1.only aw.only am,(fun e=>by cases e),fun _=>bz⟩
   obtain⟨ba,bb,d,cT⟩:=d;have bl:Hid _:=cT;clear cT;have bv:=d.blk.cell 65;rw[jL _ _ o u]at bv;go_wp2_with fail;refine E.out _ _ (fun _=>bv) ?_;clear E D;have df:g<N:=by have:=d.gt;omega
   have a3:=a7.out.2.1.only aw.only df;have bP:=k2 cq aw.only.size;have cM:=aw.own;have cc:Hid (∀i,i<j->pq (ac i) aH (t i) z):=fun i r=>xK (a7.out.2.1.each i r) cM kE;have bq:Hid _:=a7.out.2.1.sep;have bk:=bAl G (.cells (txc aH z).toArray 121);have bw:=(d.below bk).blk.cell 65;rw[jL _ _ o u]at bw;have ds:z.ni<=256/\z.no<=256:=⟨aw.ni,aw.no⟩;have c0:Hid _:=a7.out.2.2;clear a7 bv aw;refine aT 4 kO rfl (fun D E=> ?_);rw[qb (show Region.wanted _ _=true from rfl)];refine fj _ _ _ rfl (v:= .slice (some ⟨G.1.size,0,none⟩) 1 1) (w':=G.alloc (.cells (txc aH z).toArray 121)) ?bs ?_
   case bs=>
    simp only[k9,k4,k7];exact gF pz kH (.agg (txc aH z).toArray) (txc aH z) rfl rfl G
   refine E.out _ _ (fun _=>bw) ?_;clear E D bw;refine aT 5 kO rfl (fun D E=> ?_);rw[qb (show Region.wanted _ _=true from rfl)];refine jv _ _ pz rfl N Z j M (bU ac t) rfl a3.row (txc aH z) rfl (xS _ _) rfl kH kH bP ?_;intro bt bu b5 b7 cy cC;refine E.out _ _ (fun h=>absurd h kN) ?_;clear E D;replace b7:ORow 121 3 N b5 bt (j+1) bu (bU (dN ac j aH) (dN t j z)):=b7.congr (fun i r=>by
    by_cases e:i=j
    ·subst e;rw[fJ];unfold bU;rw[fH,fH]
    ·rw[iE _ _ kH];unfold bU;rw[eo _ _ _ e,eo _ _ _ e])
   have cH:KeepT 52 G b5:=(aW bk).trans (bJ (cj a3.row bk) cC kN);have cG:KeepT 3 G b5:=(aW bk).trans (bJ (cj a3.row bk) cC kN);have cr:OTxs N b5 bt (j+1) bu (dN ac j aH) (dN t j z):=by
    refine⟨b7,fun i r=> ?_,fun i k dl dr=> ?_⟩
    ·by_cases e:i=j
     ·subst e;rw[fH,fH];exact(cM.mono cq).keepT cH cG
     ·rw[eo _ _ _ e,eo _ _ _ e];exact(a3.each i kH).keepT cH cG
    ·by_cases e:k=j
     ·subst e;rw[fH,fH,eo _ _ _ kH,eo _ _ _ kH];exact cc.out i kH
     ·rw[eo _ _ _ e,eo _ _ _ e,eo _ _ _ kH,eo _ _ _ kH];exact bq.out i k dl kH
   have bh:=d.belowB cy bF bP;have dv:=k2 bP cy.size;have cg:=bh.blk.cell 65;rw[jL _ _ o u]at cg;have da:=bh.blk.free 65;have cP:=aB b5 a5 65 (.slice bt (j+1) bu);have C:(bb=false->69<=l.length/\blN l=X/\ba=bZ l (j+1)/\Y=l.take 32/\a6=(l.drop 32).take 32/\W=low ((l.drop 64).take 4)/\∀i,i<j+1->dN t j z i=fu l i/\dJ (l.drop (bZ l i)))/\(bb=true->bI l=false):=by
    obtain⟨bz,cD,am,d7,d8,d9,ea⟩:=c0.out;refine⟨fun e=> ?_,fun e=> ?_⟩
    ·obtain⟨g1,g2,d6⟩:=bl.out.1 e;refine⟨bz,cD,by rw[d6,am];rfl,d7,d8,d9,fun i r=> ?_⟩;by_cases e:i=j
     ·subst e;rw[fH,g2,<-am];exact⟨by unfold fu;rw[am],g1⟩
     ·rw[eo _ _ _ e];exact ea i kH
    ·have dc:=bl.out.2 e;rw[am]at dc;have cE:=d.rd;exact IV aX kH (by rw[<-am];exact cV.out) dc
   have cS:=kG (k2 dv cP.size) (kR (bh.setT o u (.slice bt (j+1) bu)) (kR (cr.only cP bF) (kR (show∀i,i<j+1->(dN t j z i).ni<=256/\(dN t j z i).no<=256 from fun i r=>by
    by_cases e:i=j
    ·subst e;rw[fH];exact ds
    ·rw[eo _ _ _ e];exact af i kH) C)))
   clear d bh a3 cr b7 cy bk cP cM cH cG cC cc bq bl c0 C;refine aT 6 kO rfl (fun D E=> ?_);rw[qb (show Region.wanted _ _=true from rfl)];go_wp2_with fail;refine E.out _ _ (fun h=>absurd h kN) ?_;clear E D;refine aT 7 kO rfl (fun D E=> ?_);rw[qb (show Region.wanted _ _=true from rfl)];go_wp2_with fail;refine E.out _ _ (fun h=>absurd h kN) ?_;clear E D;refine ax ?_;clear cg da cs;have cF:((X-j:Nat):Int)-1=((X-(j+1):Nat):Int):=kH;go_wp2;go_roundw
   case rel=>exact⟨j+1,bt,bu,dN ac j aH,dN t j z,bb,ba,kH,by rw[<-cF],cS.out⟩
   case measure=>simp[intOf];omega
  ·by_cases dn:j=X
   ·subst dn;have bH:¬((0:Int)< ((j-j:Nat):Int)):=kH;cases s with
    |true=>
     obtain⟨V,R⟩:∃V:BlV,V=⟨Z,M,ac⟩:=⟨_,rfl⟩;obtain⟨K,p⟩:∃K:BlK,K=⟨Y,a6,W,j,t⟩:=⟨_,rfl⟩;have F:BlOk K:=by rw[p];exact⟨o,u,cl,cm⟩
     have ah:OBl N wr V K:=⟨F,by rw[R,p];exact a2⟩;have m:Hid (bI l=false):=ae rfl;have C:=tf V K wr ah.reads (by rw[p];show j<=_;omega) (fun i r=>by rw[p]at r ⊢;have:=af i r;exact⟨by show(t i).ni<=_;omega,by show(t i).no<=_;omega⟩);unfold cK at C;have ab:Blk wr 113 a5 (blc V K):=by rw[R,p];exact sb.blk
     have a4:(prog.info? 113).map (·.size)=some (blc V K).toArray.size:=by rw[ii V F];exact fG
     have J:Hid _:=sb;clear sb a2 ah H ae R p af T;go_wp2_with (refine qi rfl 113 _ rfl a5 rfl 113 (blc V K).toArray (0,0) _ ab q7 rfl a4 ?_);refine C.mono ?_;rintro e G ⟨c2,c3,rfl,Q,a1⟩;have d:=J.out.below Q;have bd:=d.rd.cellS;have x:=d.res;have ap:=x.setRow (bl4 z32 z32 0 (.slice none 0 0));have ak:=d.bel.trans ((aN G w.1.size (bl4 z32 z32 0 (.slice none 0 0)).toArray).below kE d.ge);clear C J Q a1 ab d;generalize cQ K=dC at*;go_wp2_with (first|(refine fK rfl _ _ rfl jP ?_)|(refine qB rfl 113 _ _ rfl w.1.size (bl4 z32 z32 0 (.slice none 0 0)).toArray rfl rfl 113 _ x ar rfl (jo _ _ _ _ rfl) ?_));refine p6 (v:= .tuple #[.agg (bl4 z32 z32 0 (.slice none 0 0)).toArray,.bool false]) ?_ rfl ⟨ak,iy,by rw[gP m.out,m.out];rfl,by rw[gP m.out];exact kZ _ _⟩;exact bA results65 _ _ w.1.size 113 (bl4 z32 z32 0 (.slice none 0 0)).toArray _ rfl ap q7 rfl ar rfl
    |false=>
     obtain⟨ch,bf,cE,c7,c8,c6,bN⟩:=H rfl;obtain⟨V,R⟩:∃V:BlV,V=⟨Z,M,ac⟩:=⟨_,rfl⟩;have F:=px aX ch;have ah:OBl N wr V (blP l):=⟨F,by
      show OTxs _ _ V.ta (blN l) V.tc V.tv (fu l);rw[R,bf];exact a2.congr (fun i r=>(bN i r).1)⟩
     have cn:=sb.rd.le.1;have ct:Hid (et l<=l.length/\∀i,i<blN l->dJ (l.drop (bZ l i))):=⟨by unfold et;rw[bf,<-cE];exact cn,fun i r=>(bN i kH).2⟩;have a9:=yP aX;have C:=tf V (blP l) wr ah.reads a9.1 a9.2;unfold cK at C;have ab:Blk wr 113 a5 (blc V (blP l)):=by
      have e:bl4 Y a6 W (.slice Z j M)=blc V (blP l):=by
       rw[R,c7,c8,c6,xL];show bl4 _ _ _ (Value.slice Z j M)=bl4 _ _ _ (Value.slice Z (blN l) M);rw[bf]
       rfl
      rw[<-e];exact sb.blk
     have a4:(prog.info? 113).map (·.size)=some (blc V (blP l)).toArray.size:=by rw[ii V F];exact fG
     have es:(bl4 z32 z32 0 (.slice none 0 0)).toArray.size=(blc V (blP l)).toArray.size:=by rw[ii V F,k8,gL _ _ dX dX]
     have J:=kG sb ah;have ck:w.1.size<N:=by have:=sb.hg;have:=sb.gt;omega
     clear sb a2 ah H ae R af a9 T c7 c8 c6 bN cE cn bf;go_wp2_with (refine qi rfl 113 _ rfl a5 rfl 113 (blc V (blP l)).toArray (0,0) _ ab q7 rfl a4 ?_);refine C.mono ?_;rintro e G ⟨c2,c3,rfl,Q,a1⟩;have d:=J.out.1.below Q;have bd:=d.rd.cellS;have x:=d.res;have bg:=ab.below Q;have bc:=J.out.2.below Q;clear C J;by_cases U:cQ (blP l)=true
     ·rw[U];have cB:=Jz aX ch ct.out.1 ct.out.2 U;have a8:=uN _ a _ n _ c _ l G (a1.bs (by rw[cB];exact dR aX _)) (h.below (d.bel));have cR:Hid (decide (gM (blP l)=l)=bI l):=by
       show decide (gM (blP l)=l)=bI l;unfold bI;rw[cB,U,Bool.and_true,decide_eq_decide.2 (JA ct.out.1)]
      rw[cR.out]at a8;have ad:Hid _:=d;clear cR cB Q ab d;generalize (gM (blP l)).length=eN at*;cases bi:bI l with
      |false=>
       rw[bi]at a8;have m:Hid _:=bi;go_wp2_with fail;refine a8.mono ?_;rintro e b8 ⟨rfl,ai⟩;have a0:=x.below ai;have A:=ad.out.bel.trans (ai.mono ad.out.ge);have ap:=a0.setRow (bl4 z32 z32 0 (.slice none 0 0));have ak:=A.trans ((aN b8 w.1.size (bl4 z32 z32 0 (.slice none 0 0)).toArray).below kE A.size);clear a8 ad ai a1 x bg bc bi bd A;go_wp2_with (first|(refine fK rfl _ _ rfl jP ?_)|(refine qB rfl 113 _ _ rfl w.1.size (bl4 z32 z32 0 (.slice none 0 0)).toArray rfl rfl 113 _ a0 ar rfl (jo _ _ _ _ rfl) ?_));refine p6 (v:= .tuple #[.agg (bl4 z32 z32 0 (.slice none 0 0)).toArray,.bool false]) ?_ rfl ⟨ak,iy,by rw[gP m.out,m.out];rfl,by rw[gP m.out];exact kZ _ _⟩;exact bA results65 _ _ w.1.size 113 (bl4 z32 z32 0 (.slice none 0 0)).toArray _ rfl ap q7 rfl ar rfl
      |true=>
       rw[bi]at a8;have m:Hid _:=bi;go_wp2_with fail;refine a8.mono ?_;rintro e b8 ⟨rfl,ai⟩;have a0:=x.below ai;have dA:=bg.below ai;have bp:=bc.below ai;have A:=ad.out.bel.trans (ai.mono ad.out.ge);have ap:=a0.setRow (blc V (blP l));have cL:=aN b8 w.1.size (blc V (blP l)).toArray;have ak:=A.trans (cL.below kE A.size);have dB:OBl w.1.size (b8.setRow w.1.size (blc V (blP l)).toArray) V (blP l):=⟨bp.ok,(bp.txs.only cL kH).mono kH⟩;clear a8 ad ai a1 x bg bc bp bi bd A cL;go_wp2_with (first|(refine qi rfl 113 _ rfl a5 rfl 113 (blc V (blP l)).toArray (0,0) _ dA q7 rfl a4 ?_)|(refine qB rfl 113 _ _ rfl w.1.size (blc V (blP l)).toArray rfl rfl 113 _ a0 a4 es (lS _ _) ?_));refine p6 (v:= .tuple #[.agg (blc V (blP l)).toArray,.bool true]) ?_ rfl ⟨ak,V,by rw[m6 m.out,m.out];rfl,by rw[m6 m.out];exact dB⟩;exact bA results65 _ _ w.1.size 113 (blc V (blP l)).toArray _ rfl ap q7 rfl a4 rfl
     ·have an:cQ (blP l)=false:=by simpa using U
      have m:Hid (bI l=false):=by show bI l=false;unfold bI;rw[an,Bool.and_false]
      rw[an];have ap:=x.setRow (bl4 z32 z32 0 (.slice none 0 0));have ak:=d.bel.trans ((aN G w.1.size (bl4 z32 z32 0 (.slice none 0 0)).toArray).below kE d.ge);clear Q a1 ab d bg bc U an;go_wp2_with (first|(refine fK rfl _ _ rfl jP ?_)|(refine qB rfl 113 _ _ rfl w.1.size (bl4 z32 z32 0 (.slice none 0 0)).toArray rfl rfl 113 _ x ar rfl (jo _ _ _ _ rfl) ?_));refine p6 (v:= .tuple #[.agg (bl4 z32 z32 0 (.slice none 0 0)).toArray,.bool false]) ?_ rfl ⟨ak,iy,by rw[gP m.out,m.out];rfl,by rw[gP m.out];exact kZ _ _⟩;exact bA results65 _ _ w.1.size 113 (bl4 z32 z32 0 (.slice none 0 0)).toArray _ rfl ap q7 rfl ar rfl
   ·have be:j<X:=kH;obtain rfl:s=true:=by
     cases s with
     |true=>rfl
     |false=>exact absurd ⟨be,rfl⟩ T
    have d5:=sb.rd.cellS;have bH:(0:Int)< ((X-j:Nat):Int):=kH;obtain⟨V,R⟩:∃V:BlV,V=⟨Z,M,ac⟩:=⟨_,rfl⟩;obtain⟨K,p⟩:∃K:BlK,K=⟨Y,a6,W,j,t⟩:=⟨_,rfl⟩;have F:BlOk K:=by rw[p];exact⟨o,u,cl,cm⟩
    have ah:OBl N wr V K:=⟨F,by rw[R,p];exact a2⟩;have m:Hid (bI l=false):=ae rfl;have C:=tf V K wr ah.reads (by rw[p];show j<=_;omega) (fun i r=>by rw[p]at r ⊢;have:=af i r;exact⟨by show(t i).ni<=_;omega,by show(t i).no<=_;omega⟩);unfold cK at C;have ab:Blk wr 113 a5 (blc V K):=by rw[R,p];exact sb.blk
    have a4:(prog.info? 113).map (·.size)=some (blc V K).toArray.size:=by rw[ii V F];exact fG
    have J:Hid _:=sb;clear sb a2 ah H ae R p af T;go_wp2_with (refine qi rfl 113 _ rfl a5 rfl 113 (blc V K).toArray (0,0) _ ab q7 rfl a4 ?_);refine C.mono ?_;rintro e G ⟨c2,c3,rfl,Q,a1⟩;have d:=J.out.below Q;have bd:=d.rd.cellS;have x:=d.res;have ap:=x.setRow (bl4 z32 z32 0 (.slice none 0 0));have ak:=d.bel.trans ((aN G w.1.size (bl4 z32 z32 0 (.slice none 0 0)).toArray).below kE d.ge);clear C J Q a1 ab d;generalize cQ K=dC at*;go_wp2_with (first|(refine fK rfl _ _ rfl jP ?_)|(refine qB rfl 113 _ _ rfl w.1.size (bl4 z32 z32 0 (.slice none 0 0)).toArray rfl rfl 113 _ x ar rfl (jo _ _ _ _ rfl) ?_));refine p6 (v:= .tuple #[.agg (bl4 z32 z32 0 (.slice none 0 0)).toArray,.bool false]) ?_ rfl ⟨ak,iy,by rw[gP m.out,m.out];rfl,by rw[gP m.out];exact kZ _ _⟩;exact bA results65 _ _ w.1.size 113 (bl4 z32 z32 0 (.slice none 0 0)).toArray _ rfl ap q7 rfl ar rfl
