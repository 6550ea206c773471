import Derived.Test.YtnohmedccbogkaaGreatDoorCo12
namespace Go.Proofs.YtnohmedccbogkaaGreatDoor
open Go.Proofs.Tryz
open Go.RowKit
set_option linter.unusedVariables false
set_option maxRecDepth 100000
set_option maxHeartbeats 32000000
structure STx(g B:Nat)(l:List Int)(p:Nat)(w w':World)(v:TxV)(K:TxK):Prop where
 only:OnlyB g w w'
 own:OTx w.1.size w' v K
 ni:K.ni<=256
 no:K.no<=256
 is:(dJ (l.drop p)/\K=txP (l.drop p)/\Rdr w' g B l (p+dk (l.drop p)) false)\/(¬dJ (l.drop p)/\∃q,Rdr w' g B l q true)
theorem Jq{w g y}(h:Blk w 32 g (ob y))(a:y.length=32):(Instr.loadAt 32 (.pointer (some ⟨g,0,none⟩))).run prog w= .ok (.agg (ob y).toArray) w:=by
 have s:(prog.info? 32).map (·.size)=some (ob y).toArray.size:=by rw[aE,a];exact aJ
 simp only[Instr.loadAt,Instr.sureAddr,q9,r2,Result.andThen];exact sL w g 32 32 (ob y).toArray (0,0) _ h qa rfl s
theorem Jr{l B s p q a r j c b d P}(C:IsB l)(D:j<c)(g:inN (l.drop p)=c)(H:q=p+1+33*j)(x:∀i,i<j->P i=dU (l.drop p) i)(t:b=false->q+32<=l.length/\a=q+32/\B=(l.drop q).take 32)(o:b=true->l.length<q+32)(A:d=false->b=false/\a+1<=l.length/\r=a+1/\s=(l.drop a).take 1)(z:d=true->b=true\/l.length<a+1):
 (d=false->inN (l.drop p)=c/\r=p+1+33*(j+1)/\∀i,i<j+1->dN P j (B,s.getD 0 0) i=dU (l.drop p) i)/\(d=true->¬dJ (l.drop p)):=by
 refine⟨fun e=> ?_,fun e y=> ?_⟩
 ·obtain⟨u,m,v,n⟩:=A e;obtain⟨E,F,w⟩:=t u;refine⟨g,kH,fun i G=> ?_⟩;by_cases f:i=j
  ·subst f;rw[fH,n,w];unfold dU;rw[lT,m0,show p+(1+33*i)=q by omega,show p+(1+33*i+32)=a by omega];simp[List.getD]
  ·rw[eo _ _ _ f];exact x i kH
 ·have m:=y.1;rw[k3]at m;have v:1+33*c+5<=dk (l.drop p):=by unfold dk fV inE;rw[g];omega
  have n:l.length<q+33:=by
   rcases z e with h|h
   ·have:=o h;omega
   ·cases k:b with
    |true=>
     have:=o k;omega
    |false=>
     have:=(t k).2.1;omega
  omega
theorem Js{l x p q q3 k o s3 V}(h:IsB l)(u:k<o)(j:outN (l.drop p)=o)(y:q=p+inE (l.drop p)+1+8*k)(s:∀i,i<k->V i=gA (l.drop p) i/\(l.drop p).getD (inE (l.drop p)+1+8*i+7) 0=0)(r:s3=false->q+8<=l.length/\q3=q+8/\x=(l.drop q).take 8)(t:s3=true->l.length<q+8):
 (s3=false->x.getD 7 0=0->q3=p+inE (l.drop p)+1+8*(k+1)/\∀i,i<k+1->dN V k (low (x.take 7)) i=gA (l.drop p) i/\(l.drop p).getD (inE (l.drop p)+1+8*i+7) 0=0)/\(s3=true->¬dJ (l.drop p))/\(s3=false->x.getD 7 0≠0->¬dJ (l.drop p)):=by
 have g:s3=false->x.getD 7 0=(l.drop p).getD (inE (l.drop p)+1+8*k+7) 0:=fun e=>by
  rw[(r e).2.2,lT,show p+(inE (l.drop p)+1+8*k+7)=q+7 by omega];simp[List.getD]
 refine⟨fun e b=> ?_,fun e f=> ?_,fun e b f=> ?_⟩
 ·obtain⟨a,v,d⟩:=r e;refine⟨kH,fun i w=> ?_⟩;by_cases c:i=k
  ·subst c;refine⟨?_,by rw[<-g e];exact b⟩;have hx:x=((l.drop p).drop (inE (l.drop p)+1+8*i)).take 8:=by rw[m0,show p+(inE (l.drop p)+1+8*i)=q by omega];exact d
   have n:x.length=8:=by rw[d,lw,k3];omega
   have m:IsB x:=by rw[d];exact dR (ff h _) _
   rw[fH];unfold gA;rw[<-hx];exact((od m n).1 b).symm
  ·rw[eo _ _ _ c];exact s i kH
 ·have a:=f.1;rw[k3]at a;have:=t e;unfold dk fV at a;rw[j]at a;omega
 ·exact b (by rw[g e];exact f.2 k kH)
theorem y8{l x:List Int}{p q q3 j k s s3}{P:Nat->List Int×Int}{V:Nat->Int}(b:s=false->outN (l.drop p)=k/\q=p+inE (l.drop p)+1+8*k/\inN (l.drop p)=j/\(∀i,i<j->P i=dU (l.drop p) i)/\∀i,i<k->V i=gA (l.drop p) i/\(l.drop p).getD (inE (l.drop p)+1+8*i+7) 0=0)(n:s=true->¬dJ (l.drop p))(w:s3=false->s=false/\q+4<=l.length/\q3=q+4/\x=(l.drop q).take 4)(v:s3=true->s=true\/l.length<q+4):
 ∃K:TxK,K.ni=j/\K.no=k/\K.h=low x/\(∀i,i<j->P i=K.P i)/\(∀i,i<k->V i=K.V i)/\((s3=false/\dJ (l.drop p)/\K=txP (l.drop p)/\q3=p+dk (l.drop p))\/(s3=true/\¬dJ (l.drop p))):=by
 cases d:s3 with
 |false=>
  obtain⟨t,c,y,u⟩:=w d;obtain⟨g1,g2,f,g,e⟩:=b t;have r:q=p+fV (l.drop p):=by unfold fV;rw[g1];omega
  refine⟨txP (l.drop p),f,g1,?_,g,fun i m=>(e i m).1,kV ⟨rfl,⟨?_,fun i m=> ?_⟩,rfl,?_⟩⟩
  ·rw[u,r,<-m0]
   rfl
  ·rw[k3];unfold dk;omega
  ·exact(e i kH).2
  ·unfold dk;omega
 |true=>
  refine⟨⟨j,P,k,V,low x⟩,rfl,rfl,rfl,fun _ _=>rfl,fun _ _=>rfl,kT ⟨rfl,fun o=> ?_⟩⟩;cases a:s with
  |true=>exact n a o
  |false=>
   obtain⟨g1,g2,f,g,e⟩:=b a;rcases v d with h|h
   ·rw[a]at h;cases h
   ·have c:=o.1;rw[k3]at c;unfold dk fV at c;rw[g1]at c;omega
theorem Jt(g B l p w)(h:Rdr w g B l p false)(er:B<=w.1.size):
 Calls prog 109 #[.pointer (some ⟨g,0,none⟩)] w fun e w'=> ∃v K,e= .returned (dM v K)/\STx g B l p w w' v K:=by
 have e9:=h.lt;have co:=h.byte;have e3:=h.le;have k0:=ao w 121 txz.toArray;have c3:=ao (w.alloc (.cells txz.toArray 121)) 121 txz.toArray;have cD:=k0.below (kF.alloc kE (.cells txz.toArray 121));have c1:Below w.1.size w ((w.alloc (.cells txz.toArray 121)).alloc (.cells txz.toArray 121)):=eT w _ _;have cg:(w.alloc (.cells txz.toArray 121)).1.size=w.1.size+1:=by simp
 have eV:((w.alloc (.cells txz.toArray 121)).alloc (.cells txz.toArray 121)).1.size=w.1.size+1+1:=by simp
 rw[cg]at c3;go_enter func109,ntmps109;go_upto_region 2 with fail
 change Code.wp _ _ _ _ ((w.alloc (.cells txz.toArray 121)).alloc (.cells txz.toArray 121));generalize (w.alloc (.cells txz.toArray 121)).alloc (.cells txz.toArray 121)=eb at*;have X:Blk eb 121 w.1.size txz:=cD;have Y:Blk eb 121 (w.1.size+1) txz:=c3;have ef:=h.below c1;have d2:=Below.onlyB c1 g;have Z2:w.1.size+1+1<=eb.1.size:=kH;clear k0 c3 cD c1 cg eV h;have dd:=iA g B l p 1 false eb ef kH kH;have f:=kG X (kR Y d2);clear X Y d2;go_wp2_with fail;refine q2 dd ?_;rintro e w1 ⟨e6,eC,df,d9,d5,bq,rfl,af⟩;obtain⟨_,_,e,_,a8⟩:=af.bs.at_ kH;cases e;have bj:=a8 0 kH;rw[m2]at bj;have d1:=af.bs.byte 0;obtain⟨cq,es⟩:=iz af.bs.byte 0;rw[cq]at bj;have bH:Hid (bq=false->inN (l.drop p)=(d9.getD 0 0).toNat/\p+1<=l.length/\d5=p+1):=fun e=>by
  obtain⟨_,W,bx,bk⟩:=af.yes e;refine⟨?_,W,bx⟩;rw[bk];unfold inN;simp[List.getD]
 have ab:Hid (bq=true->¬dJ (l.drop p)):=fun e bn=>by
  rcases af.no e with h|h
  ·cases h
  ·have:=bn.1;rw[k3]at this;unfold dk fV inE at this;omega
 have cF:=f.out.1.only af.only kH;have cM:=f.out.2.1.only af.only kH;have d3:=f.out.2.2.trans af.only;have cg:=k2 Z2 af.only.size;have O:=kG cF (kR cM (kR d3 af.rd));clear f dd cF cM d3 af a8 cq d1 Z2;generalize (d9.getD 0 0).toNat=am at*;go_wp2;go_loopw [4] (fun i wr=> ∃j a c P s q,j<=am/\i= .int .i64 ((am-j:Nat):Int)/\IsPts P j/\OnlyB g w wr/\w.1.size+1+1<=wr.1.size/\Blk wr 121 w.1.size txz/\Blk wr 121 (w.1.size+1) [.slice a j c,.slice none 0 0,.int .i64 0]/\ORow 52 33 (w.1.size+1+1) wr a j c (dH P)/\Rdr wr g B l q s/\(s=false->inN (l.drop p)=am/\q=p+1+33*j/\∀i,i<j->P i=dU (l.drop p) i)/\(s=true->¬dJ (l.drop p))) (fun i _=>(intOf i).toNat)
 case atStart=>exact⟨0,none,0,fun _=>fy,bq,d5,kX _,rfl,⟨fun i E=>absurd E kH,fun i E=>absurd E kH⟩,O.out.2.2.1,cg,O.out.1,O.out.2.1,eU _ _ _ _ _,O.out.2.2.2,fun e=>⟨(bH.out e).1,(bH.out e).2.2,fun i E=>absurd E kH⟩,ab.out⟩
 case round=>
  obtain⟨j,a,c,P,s,q,fd,rfl,bw,aw,bz,X,Y,aX,bg,F,G⟩:=hrel;clear O bH ab bj;by_cases b4:j<am/\s=false
  ·obtain⟨ad,rfl⟩:=b4;have bY:=bg.cellS;have ae:(0:Int)< ((am-j:Nat):Int):=kH;have ar:=iA g B l q 32 false wr bg kH kH;have f:=kG X (kR Y (kR aX (kR aw (kR bw (F rfl)))));clear X Y aX aw bw F G bg;go_wp2_with fail;refine q2 ar ?_;rintro e bt ⟨ek,c5,bS,U,ce,cb,rfl,m⟩;have c9:=lE _ bS U bt m.bs;have ac:=m.bs.len_eq;have dD:=m.bs.byte;clear ar bY;go_wp2_with fail;refine q2 c9 ?_;rintro e z ⟨rfl,bh⟩;clear c9;have d8:(prog.info? 32).map (·.size)=some (ob U).toArray.size:=by rw[aE,ac];exact aJ
   have cV:zH.toArray.size=(ob U).toArray.size:=by rw[aE,ac];rfl
   have q3:=bAl z (.cells (ob U).toArray 32);have kI:=ao z 32 (ob U).toArray;unfold hA;go_upto_region 6 with(refine aL rfl 32 _ _ rfl z zH.toArray (ob U).toArray 32 rfl rfl d8 cV (bQ _) ?_)
   have c4:OnlyB g wr z:=m.only.thenN bh m.only.size;have N:=c4.trans (Below.onlyB q3 g);have S:=f.out.1.only N kH;have H:=f.out.2.1.only N kH;have T:=f.out.2.2.1.only N kH;have R:=f.out.2.2.2.1.trans N;have a6:=(m.rd.below bh).below q3;have ba:=k2 bz N.size;have e2:w.1.size+1+1<=z.1.size:=k2 bz c4.size;generalize z.alloc (.cells (ob U).toArray 32)=bR at*;have A:=kG f.out.2.2.2.2 (kR (fun e=>(m.yes e).2) (fun e=>(m.no e).resolve_left kN));have cE:Blk bR 32 z.1.size (ob U):=kI;have ak:=bDr bR;have a4:Hid (∀v,OnlyB g bR.drew v->v.cell? ⟨w.1.size+1,0,none⟩=some (.slice a j c)/\(Instr.loadAt 32 (.pointer (some ⟨z.1.size,0,none⟩))).run prog v= .ok (.agg (ob U).toArray) v):=fun v d4=>⟨(H.only ((Below.onlyB ak g).trans d4) kH).cell 0,Jq (cE.only ((Below.onlyB ak g).trans d4) kH) ac⟩;have cs:=a4.out bR.drew (OnlyB.refl _ _);have cl:=iA g B l ce 1 cb bR.drew (a6.below ak) kH kH;have a0:=kG S (kR H (kR T R));clear f S H T R c4 N a6 kI cE bh q3 m d8 cV;refine ay (fun v=>v.cell? ⟨w.1.size+1,0,none⟩=some (.slice a j c)/\(Instr.loadAt 32 (.pointer (some ⟨z.1.size,0,none⟩))).run prog v= .ok (.agg (ob U).toArray) v) (fun k=>decide (10<=k)) kO ?_;refine aa 0 cs ?_;refine Cd 1 29 (v:= ?vv1) rfl ?hy1 cs ?rest1
   case hy1=>(intro w b3;have eY:=b3.1;go_simp;try with_reducible rfl)
   simp only[Act.put,iQ,List.set];refine aC 2 (.agg (ob U).toArray) cs ?hy2 ?_
   case hy2=>exact fun w b3=>bO (p:= .pointer (some ⟨z.1.size,0,none⟩)) rfl rfl b3.2
   refine aa 3 cs ?_;refine aj 4 fun t d=> ?_;go_wp2_with fail;refine q2 cl ?_;rintro e ap ⟨e7,eH,e8,eP,eK,eL,rfl,I⟩;clear cl;go_wp2_with fail;refine d.out _ _ (fun _=>a4.out _ I.only) ?_;clear d t;obtain⟨_,_,en,_,cp⟩:=I.bs.at_ kH;cases en;have b0:=cp 0 kH;rw[m2]at b0;have ey:=I.bs.byte 0;have a5:=Jr co ad A.out.1.2.1 A.out.1.2.2.1 A.out.1.2.2.2 A.out.2.1 A.out.2.2 I.yes I.no;have eh:=a4.out _ I.only;obtain⟨y,cB⟩:∃y,y=eP.getD 0 0:=⟨_,rfl⟩;rw[<-cB]at b0 ey a5;have c7:Hid _:=a5;have a2:Hid _:=A.out.1.1;clear cB a5 cp A;have bE:=(Below.onlyB ak g).trans I.only;have cL:=a0.out.1.only bE kH;have bv:=a0.out.2.1.only bE kH;have bc:=a0.out.2.2.1.only bE kH;have cu:=a0.out.2.2.2.trans bE;have cC:=k2 ba bE.size;have a7:=I.rd;have d7:=bAl ap (.cells (pc (U,y)).toArray 52);have ej:=a4.out (ap.alloc (.cells (pc (U,y)).toArray 52)) (I.only.trans (Below.onlyB d7 g));clear a0 a4 I bE ak;refine aj 5 fun t d=> ?_;go_wp2_with fail;refine al d ?_;clear d t;refine aj 6 fun t d=> ?_;go_wp2_with fail;refine al d ?_;clear d t;refine aj 7 fun t d=> ?_;go_wp2_with fail;refine al d ?_;clear d t;refine aj 8 fun t d=> ?_;refine jV _ _ rfl (cs:=(pc (U,y)).toArray) ?hb ?_
   case hb=>
    simp only[k9,k4,k7];exact lH U y ac
   refine al d ?_;clear d t;refine aj 9 fun t d=> ?_;refine fj _ _ _ rfl (v:= .slice (some ⟨ap.1.size,0,none⟩) 1 1) (w':=ap.alloc (.cells (pc (U,y)).toArray 52)) ?bs ?_
   case bs=>
    simp only[k9,k4,k7];exact gF kh kH (.agg (pc (U,y)).toArray) (pc (U,y)) rfl (dS (U,y) ac) ap
   refine al d ?_;clear d t;refine aj 10 fun t d=> ?_;refine jv _ _ kh rfl (w.1.size+1+1) a j c (dH P) rfl bc (pc (U,y)) (dS (U,y) ac) (kf (U,y)) rfl kH kH cC ?_;intro ah ai ag aO L _;refine al d ?_;clear d t;replace aO:ORow 52 33 (w.1.size+1+1) ag ah (j+1) ai (dH (dN P j (U,y))):=aO.congr (fun i E=>by
    by_cases e:i=j
    ·subst e;rw[fJ];unfold dH;rw[fH]
    ·rw[iE _ _ kH];unfold dH;rw[eo _ _ _ e])
   have ca:IsPts (dN P j (U,y)) (j+1):=⟨fun i E=>by
    by_cases e:i=j
    ·subst e;rw[fH];exact ac
    ·rw[eo _ _ _ e];exact a2.out.len i kH,fun i E=>by
    by_cases e:i=j
    ·subst e;rw[fH];exact dD
    ·rw[eo _ _ _ e];exact a2.out.byte i kH⟩
   have bb:Blk ag 121 w.1.size txz:=(L.block _ kH).trans cL;have M:Blk ag 121 (w.1.size+1) [.slice a j c,.slice none 0 0,.int .i64 0]:=(L.block _ kH).trans bv;have bN:=a7.belowB L kH kH;have a9:=cu.thenN L kH;have b7:=k2 cC L.size;have em:=M.cell 0;have ep:=M.free 0;have u:=aB ag (w.1.size+1) 0 (.slice ah (j+1) ai);have D:=kG ca (kR (a9.thenN (u.below kE kH) (show w.1.size<=w.1.size+1 by omega)) (kR (k2 b7 u.size) (kR (bb.only u kH) (kR (M.set 0 (.slice ah (j+1) ai)) (kR (aO.only u kH) (kR (bN.only u kH kH) c7.out))))));clear cL bv bc cu bb M a7 bN a9 aO L d7 u eh ej ca b0;refine aj 11 fun t d=> ?_;go_wp2_with fail;refine al d ?_;clear d t;refine aj 12 fun t d=> ?_;go_wp2_with fail;refine al d ?_;clear d t;refine ax ?_;clear em ep cs;have aH:((am-j:Nat):Int)-1=((am-(j+1):Nat):Int):=kH;go_wp2;go_roundw
   case rel=>exact⟨j+1,ah,ai,dN P j (U,y),eL,eK,kH,by rw[<-aH],D.out⟩
   case measure=>simp[intOf];omega
  by_cases dE:j=am;subst dE;have ae:¬((0:Int)< ((j-j:Nat):Int)):=kH;have be:Hid (s=false->inN (l.drop p)=j/\q=p+inE (l.drop p)/\∀i,i<j->P i=dU (l.drop p) i):=fun e=>by
   obtain⟨W,bx,bk⟩:=F e;exact⟨W,by unfold inE;rw[W];omega,bk⟩
  have ar:=iA g B l q 1 s wr bg kH kH;have bF:Hid _:=G;have ci:Hid (l.length<q+1->¬dJ (l.drop p)):=fun h bn=>by
   cases cw:(s:Bool)with
   |true=>exact G cw bn
   |false=>
    have W:=bn.1;rw[k3]at W;have bx:=(be.out cw).2.1;unfold dk fV at W;omega
  rotate_left
  have ad:j<am:=kH;obtain rfl:s=true:=by
   cases s with
   |true=>rfl
   |false=>exact absurd ⟨ad,rfl⟩ b4
  have bY:=bg.cellS;have ae:(0:Int)< ((am-j:Nat):Int):=kH;have be:Hid (true=false->inN (l.drop p)=j/\q=p+inE (l.drop p)/\∀i,i<j->P i=dU (l.drop p) i):=fun e=>by cases e
  have ar:=iA g B l q 1 true wr bg kH kH;have bF:Hid (true=true->¬dJ (l.drop p)):=G;have ci:Hid (l.length<q+1->¬dJ (l.drop p)):=fun _=>G rfl
  all_goals
   have f:=kG X (kR Y (kR aX (kR aw bw)));clear X Y aX aw bw F G bg b4;go_wp2_with fail;refine q2 ar ?_;rintro e bt ⟨ek,c5,bS,ea,ce,cb,rfl,m⟩;obtain⟨_,_,e,_,a8⟩:=m.bs.at_ kH;cases e;have bj:=a8 0 kH;rw[m2]at bj;obtain⟨b5,ex⟩:=iz m.bs.byte 0;rw[b5]at bj;have a1:Hid (cb=false->outN (l.drop p)=(ea.getD 0 0).toNat/\ce=p+inE (l.drop p)+1/\inN (l.drop p)=j/\∀i,i<j->P i=dU (l.drop p) i):=fun e=>by
    obtain⟨b2,W,bx,bk⟩:=m.yes e;obtain⟨g1,g2,eq⟩:=be.out b2;refine⟨?_,kH,g1,eq⟩;rw[bk];unfold outN;rw[lT,<-g2];simp[List.getD]
   have ab:Hid (cb=true->¬dJ (l.drop p)):=fun e bn=>(m.no e).elim (fun h=>bF.out (by first|exact h|exact trivial) bn) (fun h=>ci.out h bn);have cG:=f.out.1.only m.only kH;have cO:=f.out.2.1.only m.only kH;have b9:=f.out.2.2.1.only m.only kH;have cr:=f.out.2.2.2.1.trans m.only;have e4:=k2 bz m.only.size;have O:=kG cG (kR cO (kR b9 (kR cr (kR m.rd f.out.2.2.2.2))));have c2:Hid (∀k,(Value.slice a j c).ownBlock=some k->k<bt.1.size):=fun k dF=>(qX b9 k dF).2;clear f ar cG cO b9 cr m a8 b5 be bF;generalize (ea.getD 0 0).toNat=Z at*;go_wp2;go_loopw [6] (fun i wr=> ∃k C bS V s q,k<=Z/\i= .int .i64 ((Z-k:Nat):Int)/\OnlyB g w wr/\bt.1.size<=wr.1.size/\Blk wr 121 w.1.size txz/\Blk wr 121 (w.1.size+1) [.slice a j c,.slice C k bS,.int .i64 0]/\ORow 52 33 (w.1.size+1+1) wr a j c (dH P)/\ORow 3 1 bt.1.size wr C k bS (eg V)/\Rdr wr g B l q s/\(s=false->outN (l.drop p)=Z/\q=p+inE (l.drop p)+1+8*k/\inN (l.drop p)=j/\(∀i,i<j->P i=dU (l.drop p) i)/\∀i,i<k->V i=gA (l.drop p) i/\(l.drop p).getD (inE (l.drop p)+1+8*i+7) 0=0)/\(s=true->¬dJ (l.drop p))) (fun i _=>(intOf i).toNat)
   case atStart=>exact⟨0,none,0,fun _=>0,cb,ce,kX _,rfl,O.out.2.2.2.1,kE,O.out.1,O.out.2.1,O.out.2.2.1,eU _ _ _ _ _,O.out.2.2.2.2.1,fun e=>⟨(a1.out e).1,(a1.out e).2.1,(a1.out e).2.2.1,(a1.out e).2.2.2,fun i E=>absurd E kH⟩,ab.out⟩
   case round=>
    obtain⟨k,C,o,V,s,q,dF,rfl,aw,bz,X,Y,aX,cd,bg,F,G⟩:=hrel;have a2:Hid _:=O.out.2.2.2.2.2;clear O a1 ab bj;by_cases bl:k<Z/\s=false
    ·obtain⟨ad,rfl⟩:=bl;have bY:=bg.cellS;have ae:(0:Int)< ((Z-k:Nat):Int):=kH;have cm:=iA g B l q 8 false wr bg kH kH;have f:=kG X (kR Y (kR aX (kR cd (kR aw (F rfl)))));clear X Y aX cd aw F G bg;go_wp2_with fail;refine q2 cm ?_;rintro e z ⟨bh,bp,bi,x,q3,s3,rfl,r⟩;obtain⟨_,_,e,_,a8⟩:=r.bs.at_ kH;cases e;have cn:=a8 7 kH;have cz:=r.bs.byte 7;have a5:=Js co ad f.out.2.2.2.2.2.1 f.out.2.2.2.2.2.2.1 f.out.2.2.2.2.2.2.2.2.2 (fun e=>(r.yes e).2) (fun e=>(r.no e).resolve_left kN);obtain⟨cf,cA⟩:∃cf,cf=x.getD 7 0:=⟨_,rfl⟩;rw[<-cA]at cn cz a5;obtain⟨y,b6⟩:∃y,y=low (x.take 7):=⟨_,rfl⟩;rw[<-b6]at a5;have c8:Hid _:=b6;have A:Hid _:=a5;have J:Hid _:=r;have dl:=r.rd.cellS;have dA:=r.rd.freeS;clear a5 cA a8 r cm bY b6;by_cases dC:cf=0;subst dC;have ck:Hid ((s3=false->outN (l.drop p)=Z/\q3=p+inE (l.drop p)+1+8*(k+1)/\inN (l.drop p)=j/\(∀i,i<j->P i=dU (l.drop p) i)/\∀i,i<k+1->dN V k y i=gA (l.drop p) i/\(l.drop p).getD (inE (l.drop p)+1+8*i+7) 0=0)/\(s3=true->¬dJ (l.drop p))):=⟨fun e=>⟨f.out.2.2.2.2.2.1,(A.out.1 e rfl).1,f.out.2.2.2.2.2.2.2.1,f.out.2.2.2.2.2.2.2.2.1,(A.out.1 e rfl).2⟩,A.out.2.1⟩;have a3:Hid (OnlyB g wr z/\Rdr z g B l q3 s3/\Bs z (some ⟨bh,bp,none⟩) 8 bi x):=⟨J.out.only,J.out.rd,J.out.bs⟩;clear J A dl dA;go_upto_region 13 with fail
     generalize z=an at*
     rotate_left
     have eW:0<cf:=kH;have ck:Hid ((true=false->outN (l.drop p)=Z/\q3=p+inE (l.drop p)+1+8*(k+1)/\inN (l.drop p)=j/\(∀i,i<j->P i=dU (l.drop p) i)/\∀i,i<k+1->dN V k y i=gA (l.drop p) i/\(l.drop p).getD (inE (l.drop p)+1+8*i+7) 0=0)/\(true=true->¬dJ (l.drop p))):=⟨(fun e=>by cases e),fun _=>by
      cases cx:s3 with
      |true=>exact A.out.2.1 cx
      |false=>exact A.out.2.2 cx dC⟩
     have u:=aB z g 2 (.bool true);have a3:Hid (OnlyB g wr (z.setCell ⟨g,2,none⟩ (.bool true))/\Rdr (z.setCell ⟨g,2,none⟩ (.bool true)) g B l q3 true/\Bs (z.setCell ⟨g,2,none⟩ (.bool true)) (some ⟨bh,bp,none⟩) 8 bi x):=⟨J.out.only.trans u,J.out.rd.cut,J.out.bs.only u (fun b off _ e=>by cases e;exact J.out.ne)⟩;clear J A u;go_upto_region 13 with fail
     generalize z.setCell ⟨g,2,none⟩ (.bool true)=an at*
     all_goals
      have ak:=bDr an;have N:=a3.out.1.trans (Below.onlyB ak g);have S:=f.out.1.only N kH;have H:=f.out.2.1.only N kH;have T:=f.out.2.2.1.only N kH;have bd:=f.out.2.2.2.1.only N kH;have R:=f.out.2.2.2.2.1.trans N;have ba:=k2 bz N.size;have a6:=a3.out.2.1.below ak;have c0:=(a3.out.2.2.below ak).cut 0 7 kH bi (by have:=a3.out.2.2.le;omega) a3.out.2.2.le';rw[m2,List.drop_zero]at c0;have bf:=rf _ 7 bi (x.take 7) an.drew c0 kH;rw[<-c8.out]at bf;have e1:=a3.out.2.2.le;have cs:=H.cell 1;have eX:(7:Int)<=(bi:Int):=kH;clear ak a3 f c0 N;refine ay (fun v=>v.cell? ⟨w.1.size+1,1,none⟩=some (.slice C k o)) (fun k=>decide (6<=k)) kO ?_;refine aa 0 cs ?_;refine aa 1 cs ?_;refine aa 2 cs ?_;refine aa 3 cs ?_;generalize an.drew=ap at*;have d6:=bAl ap (.cells [Value.int .i64 y].toArray 3);have dr:=(H.below d6).cell 1;clear d6;refine aj 4 fun t d=> ?_;go_wp2_with fail;refine q2 bf ?_;rintro e ag ⟨rfl,dW⟩;obtain rfl:=dW.symm;clear bf;go_wp2_with fail;refine al d ?_;clear d t;refine aj 5 fun t d=> ?_;refine fj _ _ _ rfl (v:= .slice (some ⟨ap.1.size,0,none⟩) 1 1) (w':=ap.alloc (.cells [Value.int .i64 y].toArray 3)) ?bsav ?_
      case bsav=>
       simp only[k9,k4,k7];exact gF oq kH (.int .i64 y) [.int .i64 y] rfl rfl ap
      refine al d ?_;clear d t;refine aj 6 fun t d=> ?_;refine jv _ _ oq rfl bt.1.size C k o (eg V) rfl bd [.int .i64 y] rfl (by simp[Value.oneCell']) rfl kH kH ba ?_;intro ah ai ag aO L _;refine al d ?_;clear d t;replace aO:ORow 3 1 bt.1.size ag ah (k+1) ai (eg (dN V k y)):=aO.congr (fun i E=>by
       by_cases e:i=k
       ·subst e;rw[fJ];unfold eg;rw[fH]
       ·rw[iE _ _ kH];unfold eg;rw[eo _ _ _ e])
      have bb:Blk ag 121 w.1.size txz:=(L.block _ kH).trans S;have M:Blk ag 121 (w.1.size+1) [.slice a j c,.slice C k o,.int .i64 0]:=(L.block _ kH).trans H;have cR:ORow 52 33 (w.1.size+1+1) ag a j c (dH P):=uS T L c2.out;have bN:=a6.belowB L kH kH;have a9:=R.thenN L kH;have b7:=k2 ba L.size;have df:=M.cell 1;have f1:=M.free 1;have u:=aB ag (w.1.size+1) 1 (.slice ah (k+1) ai);have D:=kG (a9.thenN (u.below kE kH) (show w.1.size<=w.1.size+1 by omega)) (kR (k2 b7 u.size) (kR (bb.only u kH) (kR (M.set 1 (.slice ah (k+1) ai)) (kR (cR.only u kH) (kR (aO.only u kH) (kR (bN.only u kH kH) ck.out))))));clear S H T bd R bb M cR a6 bN a9 aO L u dr cn cz;refine aj 7 fun t d=> ?_;go_wp2_with fail;refine al d ?_;clear d t;refine aj 8 fun t d=> ?_;go_wp2_with fail;refine al d ?_;clear d t;refine ax ?_;clear df f1 cs;have aH:((Z-k:Nat):Int)-1=((Z-(k+1):Nat):Int):=kH;go_wp2;go_roundw
      case rel=>first|exact⟨k+1,ah,ai,dN V k y,s3,q3,kH,by rw[<-aH],D.out⟩|exact⟨k+1,ah,ai,dN V k y,true,q3,kH,by rw[<-aH],D.out.1,D.out.2.1,D.out.2.2.1,D.out.2.2.2.1,D.out.2.2.2.2.1,D.out.2.2.2.2.2.1,D.out.2.2.2.2.2.2.1,D.out.2.2.2.2.2.2.2.1,fun _=>D.out.2.2.2.2.2.2.2.2 trivial⟩
      case measure=>simp[intOf];omega
    ·by_cases dG:k=Z;subst dG;have ae:¬((0:Int)< ((k-k:Nat):Int)):=kH;have hx:=fun(x:List Int)(q3:Nat)(s3:Bool) y n=>y8 (x:=x) (q3:=q3) (s3:=s3) F G y n;have bP:=iA g B l q 4 s wr bg kH kH
     rotate_left
     have ad:k<Z:=kH;obtain rfl:s=true:=by
      cases s with
      |true=>rfl
      |false=>exact absurd ⟨ad,rfl⟩ bl
     have bY:=bg.cellS;have ae:(0:Int)< ((Z-k:Nat):Int):=kH;have hx:=fun(x:List Int)(q3:Nat)(s3:Bool) y n=>y8 (x:=x) (q3:=q3) (s3:=s3) (s:=true) (j:=j) (k:=k) (P:=P) (V:=V) (q:=q) (p:=p) (fun e=>by cases e) G y n;have bP:=iA g B l q 4 true wr bg kH kH
     all_goals
      have be:Hid _:=hx;have f:=kG X (kR Y (kR aX (kR cd aw)));clear X Y aX cd aw F G bg bl hx;go_wp2_with fail;refine q2 bP ?_;rintro e z ⟨bh,bp,bi,x,q3,s3,rfl,r⟩;obtain⟨K,b1,cc,ds,dx,dy,ch⟩:=be.out x q3 s3 r.yes (fun h=>(r.no h).imp (fun h=>by first|exact h|exact trivial) id);have bf:=iR _ 4 bi x z r.bs kH;rw[<-ds]at bf;have cH:=f.out.1.only r.only kH;have bu:=f.out.2.1.only r.only kH;have cP:=f.out.2.2.1.only r.only kH;have cS:=f.out.2.2.2.1.only r.only kH;have ct:=f.out.2.2.2.2.trans r.only;have e5:=k2 bz r.only.size;have dc:=r.rd;have dn:=bu.cell 2;have dB:=bu.free 2;have u:=aB z (w.1.size+1) 2 (.int .i64 K.h);have c6:=kG (cH.only u kH) (kR (bu.set 2 (.int .i64 K.h)) (kR (cP.only u kH) (kR (cS.only u kH) (kR (ct.thenN (u.below kE kH) (show w.1.size<=w.1.size+1 by omega)) (dc.only u kH kH)))));have Q:=kG dx (kR dy ch);clear f bP cH bu cP cS ct dc u r dx dy ch ds be;go_wp2_with fail;refine q2 bf ?_;rintro e an ⟨rfl,cy⟩;obtain rfl:=cy.symm;clear bf cy;go_upto_region 15 with fail
      obtain⟨S,H,T,bd,R,a6⟩:=c6.out;have ba:w.1.size+1+1<=(z.setCell ⟨w.1.size+1,2,none⟩ (.int .i64 K.h)).1.size:=by simp;omega
      clear c6 dn dB;generalize z.setCell ⟨w.1.size+1,2,none⟩ (.int .i64 K.h)=an at*;have dv:[Value.slice a j c,.slice C k o,.int .i64 K.h]=txc ⟨a,c,C,o⟩ K:=by
       unfold txc;rw[b1,cc]
      have bv:Blk an 121 (w.1.size+1) (txc ⟨a,c,C,o⟩ K):=by rw[<-dv];exact H
      have bq:(prog.info? 121).map (·.size)=some (txc ⟨a,c,C,o⟩ K).toArray.size:=kO;have eN:txz.toArray.size=(txc ⟨a,c,C,o⟩ K).toArray.size:=rfl;have eA:=S.setRow (txc ⟨a,c,C,o⟩ K);have b8:=aN an w.1.size (txc ⟨a,c,C,o⟩ K).toArray;have cv:=R.thenN (b8.below kE kH) kE;have bc:=T.only b8 kH;have cT:=bd.only b8 kH;have a7:=a6.only b8 er kH;have da:OTx w.1.size (an.setRow w.1.size (txc ⟨a,c,C,o⟩ K).toArray) ⟨a,c,C,o⟩ K:=by
       refine⟨?_,?_,?_⟩
       ·rw[b1];exact⟨fun i E=>by rw[<-Q.out.1 i E];exact a2.out.len i E,fun i E=>by rw[<-Q.out.1 i E];exact a2.out.byte i E⟩
       ·show ORow _ _ _ _ a K.ni c (dH K.P);rw[b1];exact(bc.mono kH).congr (fun i E=>by unfold dH;rw[Q.out.1 i E])
       ·show ORow _ _ _ _ C K.no o (eg K.V);rw[cc];exact(cT.mono kH).congr (fun i E=>by unfold eg;rw[Q.out.2.1 i E])
      have D:Hid (STx g B l p w (an.setRow w.1.size (txc ⟨a,c,C,o⟩ K).toArray) ⟨a,c,C,o⟩ K):=⟨cv,da,by rw[b1];omega,by rw[cc];omega,by
       rcases Q.out.2.2 with⟨b2,W,bx,bk⟩|⟨b2,W⟩
       ·rw[b2,bk]at a7;exact kV ⟨W,bx,a7⟩
       ·rw[b2]at a7;exact kT ⟨W,q3,a7⟩⟩
      clear cv bc cT a7 da T bd R a6 H b8 dv Q b1 cc;go_wp2_with (first|(refine qi rfl 121 _ rfl (w.1.size+1) rfl 121 (txc ⟨a,c,C,o⟩ K).toArray (0,0) _ bv underlying121 rfl bq ?_)|(refine qB rfl 121 _ _ rfl w.1.size (txc ⟨a,c,C,o⟩ K).toArray rfl rfl 121 _ S bq eN (rz _ _) ?_));refine p6 (v:= .agg (txc ⟨a,c,C,o⟩ K).toArray) ?_ rfl ⟨⟨a,c,C,o⟩,K,rfl,D.out⟩;exact r3 results109 _ _ w.1.size 121 (txc ⟨a,c,C,o⟩ K).toArray (0,0) _ rfl eA underlying121 rfl bq
