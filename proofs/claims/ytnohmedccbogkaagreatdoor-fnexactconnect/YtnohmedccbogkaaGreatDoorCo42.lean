import Derived.Test.YtnohmedccbogkaaGreatDoorCo40
import Derived.Test.YtnohmedccbogkaaGreatDoorCo41
namespace Go.Proofs.YtnohmedccbogkaaGreatDoor
open Go.Proofs.Tryz
open Go.RowKit
set_option linter.unusedVariables false
set_option maxRecDepth 100000
set_option maxHeartbeats 32000000
theorem Ma{w b rest o a g}(c:o.guard=none)(x)(e:o.op= .buildSlice 117 1 #[(0,x)])(z)(f:z.length=32)(hx:a.eval x= .agg (ob z).toArray)(h:wpList prog b g rest (a.put o.dst (.slice (some ⟨w.1.size,0,none⟩) 1 1)) (w.alloc (.cells (ob z).toArray 32))):wpList prog b g (o::rest) a w:=
 sH c fun _ d=>mV _ _ _ e (by
  simp only[k9,k4,k7];exact mW _ z hx f w) (d _ _ h)
theorem Mb{w1 f rest o b w}(i:o.guard=none)(s x)(t:o.op= .call {callee:= .builtin .append,args:=#[s,x],argTypes:=#[117,117]})(B a n c h)(u:b.eval s= .slice a n c)(g:OHs B w1 a n c h)(v:(h n).length=32)(hx:b.eval x= .slice (some ⟨w1.1.size,0,none⟩) 1 1)(r:n<=1048576)(m:B<=w1.1.size)(q:∀d e w',OHs B w' d (n+1) e h->Below B w1 w'->(w1.alloc (.cells (ob (h n)).toArray 32)).grownBy w' (Value.slice a n c).ownBlock->wpList prog f w rest (b.put o.dst (.slice d (n+1) e)) w'):
 wpList prog f w (o::rest) b (w1.alloc (.cells (ob (h n)).toArray 32)):=
 sH i fun _ p=>mL s x t B a n c h u g (h n) v hx r m fun d e w' j k l=>p _ _ (q d e w' (mU j) k l)
noncomputable def av(K:Nat->TxK):Nat->List Int:=fun i=>aZ (K i)
theorem A7(a n c g K w)(h:RTxs w a n c g K)(M:∀i,i<n->(K i).ni<=1048576/\(K i).no<=1048576)(af:n<=1048576):
 Calls prog 67 #[.slice a n c] w fun e w'=> ∃F G,e= .returned (.slice F n G)/\OHs w.1.size w' F n G (av K)/\Below w.1.size w w':=by
 have Q:=bAl w (.cells #[] 32);have P:OHs w.1.size (w.alloc (.cells #[] 32)) (some ⟨w.1.size,0,none⟩) 0 0 (av K):=by
  have:=World.ownsRow_lit (base:=w.1.size) (e:=32) (size:=32) w #[] 0 kE (by unfold maxLen;omega) kP;simpa [OHs,aS]using this
 have D:=kG Q P;clear Q P;go_enter func67,ntmps67;go_upto_region 2 with fail
 generalize w.alloc (.cells #[] 32)=ac at*;go_wp2_with fail;go_loopw [3,4] (fun s i wr=> ∃(j:Nat)(m:Option Addr)(o:Nat),s= .slice m j o/\i= .int .i64 (j:Nat)/\j<=n/\OHs w.1.size wr m j o (av K)/\Below w.1.size w wr) (fun _ i _=>n-(intOf i).toNat)
 case atStart=>exact⟨0,_,0,rfl,rfl,kX _,D.out.2,D.out.1⟩
 case round=>
  obtain⟨j,m,o,rfl,rfl,ae,t,f⟩:=hrel;obtain⟨u,rfl⟩:∃x,x=wr:=⟨_,rfl⟩;by_cases d:j<n
  ·have W:(j:Int)< (n:Int):=kH;have z:=h.below f;obtain⟨b,off,rfl,Z,r⟩:=z.row.at_ kH;have H:u.cell? ⟨b,off+j*3,none⟩=some (.slice (g j).ia (K j).ni (g j).ic):=by have:=r j 0 d kH;simpa [bU,txc]using this
   have I:u.cell? ⟨b,off+j*3+1,none⟩=some (.slice (g j).oa (K j).no (g j).oc):=by have:=r j 1 d kH;simpa [bU,txc]using this
   have J:u.cell? ⟨b,off+j*3+2,none⟩=some (.int .i64 (K j).h):=by have:=r j 2 d kH;simpa [bU,txc]using this
   have v:=IE (g j) (K j) u (z.each j d) (M j d).1 (M j d).2;unfold dM at v;have S:Hid (av K j=aZ (K j)):=rfl;have p:(aZ (K j)).length=32:=fW _;have k:=kG t f;clear r z t f;generalize aZ (K j)=l at*;generalize aF (K j)=ag at*;have B:(prog.info? 32).map (·.size)=some (ob l).toArray.size:=by rw[aE,p];exact aJ
   have R:zH.toArray.size=(ob l).toArray.size:=by rw[aE,p];rfl
   go_wp2_with fail;refine v.mono ?_;rintro e w1 ⟨rfl,q⟩;have A:=bAl w1 (.cells (ob l).toArray 32);have O:Blk (w1.alloc (.cells (ob l).toArray 32)) 32 w1.1.size (ob l):=ao w1 _ _;have X:=(OHs.below k.out.1 q).below A;have y:=(k.out.2.trans (q.mono k.out.2.size)).trans (A.mono (k.out.2.trans (q.mono k.out.2.size)).size);have E:Hid _:=y;have N:=y.size;clear v q A H I J y;go_upto_region 6 with(refine aL rfl 32 _ _ rfl w1 zH.toArray (ob l).toArray 32 rfl rfl B R (bQ _) ?_)
   generalize w1.alloc (.cells (ob l).toArray 32)=ad at*;generalize w1.1.size=f at*;rw[<-S.out]at p O B R ⊢;go_wp2_with (first|(refine qi rfl 32 _ rfl f rfl 32 (ob (av K j)).toArray (0,0) _ O qa rfl B ?_)|(refine Ma rfl _ rfl (av K j) p rfl ?_)|(refine Mb rfl _ _ rfl w.1.size m j o (av K) rfl X p rfl kH N ?_;rintro T V ah Y U _));go_roundw
   case rel=>exact⟨j+1,T,V,rfl,by go_num,kH,Y,E.out.trans U⟩
   case measure=>simp[intOf];omega
  ·have L:j=n:=kH;subst L;have ab:¬(j:Int)< (j:Int):=kH;have C:=kG t f;clear h t f;go_wp2_with fail;go_ret;exact⟨m,o,rfl,C.out⟩
def jnC(gw:Nat)(v:BlV)(K:BlK)(x y:Value):List Value:= .pointer (some ⟨gw,0,none⟩)::(blc v K++[x,y])
def jnZ:List Value:= .pointer none::(ob (List.replicate 32 0)++(ob (List.replicate 32 0)++[.int .i64 0,.slice none 0 0])++[.slice none 0 0,.slice none 0 0])
theorem Mc:mq prog 189=some (jnZ.toArray,[(0,1),(1,66),(67,1),(68,1)]):=kO
theorem Md(gw v K)(d:BlOk K):prog.built 189 [(0,.pointer (some ⟨gw,0,none⟩)),(1,.agg (blc v K).toArray)]=some (jnC gw v K (.slice none 0 0) (.slice none 0 0)).toArray:=by
 have a:=eO v d;have b:jnZ.length=69:=rfl;rw[nH Mc,jw _ _ 0 0 _ [.pointer (some ⟨gw,0,none⟩)] _ kP rfl (by simp[b])];rw[jw _ _ 1 1 _ (blc v K) _ (by simp[a]) rfl (by simp[a,b])];simp only[Instr.fill,o7,m7,ld,m1,List.length_nil,a];have c:jnZ.drop 1=ob (List.replicate 32 0)++(ob (List.replicate 32 0)++[.int .i64 0,.slice none 0 0])++[.slice none 0 0,.slice none 0 0]:=rfl;rw[c];congr 1
theorem A8(gw v){K}(a:BlOk K)(x y):(jnC gw v K x y)[67]?=some x:=by
 show(blc v K++[x,y])[66]?=some x;rw[m4 (by rw[eO v a];omega),eO v a]
 rfl
theorem Me(gw v){K}(a:BlOk K)(x y z):(jnC gw v K x y).set 67 z=jnC gw v K z y:=by
 show .pointer (some ⟨gw,0,none⟩)::(blc v K++[x,y]).set 66 z= _;rw[n2 _ _ (by rw[eO v a];omega),eO v a]
 rfl
structure JnS(w u:World)(g gw:Nat)(v:BlV)(K:BlK)(a:Option Addr)(c j:Nat):Prop where
 blk:Blk u 189 g (jnC gw v K (.slice a j c) (.slice none 0 0))
 ids:OHs w.1.size u a j c (av K.tx)
 bel:Below w.1.size w u
theorem JnS.below{w d u' g gw v K a c j}(h:JnS w d g gw v K a c j)(b:Below d.1.size d u'):JnS w u' g gw v K a c j:=⟨h.blk.below b,h.ids.below b,h.bel.trans (b.mono h.bel.size)⟩
theorem Mf(gw v K w)(T:Tabs w)(h:RBl w v K)(a7:∀i,i<K.nt->(K.tx i).ni<=1048576/\(K.tx i).no<=1048576)(bx:K.nt<=1048576):
 Calls prog 73 #[.pointer (some ⟨gw,0,none⟩),cK v K] w fun e w'=> ∃g a c,e= .returned (.pointer (some ⟨g,0,none⟩))/\w.1.size<=g/\JnS w w' g gw v K a c K.nt:=by
 unfold cK;have M:=h.ok;obtain⟨f,s⟩:∃bg,bg=w.alloc (.cells (blc v K).toArray 113):=⟨_,rfl⟩;obtain⟨aX,D⟩:∃bg,bg=f.alloc (.cells (jnC gw v K (.slice none 0 0) (.slice none 0 0)).toArray 189):=⟨_,rfl⟩;have V:Below w.1.size w f:=by rw[s];exact bAl _ _
 have A:Below f.1.size f aX:=by rw[D];exact bAl _ _
 have bp:f.1.size=w.1.size+1:=by rw[s];simp
 have an:Blk f 113 w.1.size (blc v K):=by rw[s];exact ao w _ _
 have ab:=an.below A;have bh:=(ab.cell 65).trans (jm v M);have bd:(prog.info? 113).map (·.size)=some (blc v K).toArray.size:=by rw[k8,eO v M];exact fG
 have W:Hid _:=Md gw v K M;have X:Hid (JnS w aX f.1.size gw v K none 0 0):=⟨by rw[D];exact ao f _ _,wo _ _ _,V.trans (A.mono V.size)⟩;have ad:Hid (w.1.size<=f.1.size):=V.size;have aH:=kG h T;clear V A ab h T bp;go_enter func73,ntmps73;go_upto_region 1 with fail
 change Code.wp _ _ _ _ (w.alloc (.cells (blc v K).toArray 113));rw[<-s];clear s;go_upto_region 2 with(first|(refine qi rfl 113 _ rfl w.1.size rfl 113 (blc v K).toArray (0,0) _ an q7 rfl bd ?_)|(refine fK rfl _ _ rfl (cs:=(jnC gw v K (.slice none 0 0) (.slice none 0 0)).toArray) ?hbu ?_))
 case hbu=>
  show prog.built 189 [(0,.pointer (some ⟨gw,0,none⟩)),(1,.agg (blc v K).toArray)]= _;exact W.out
 change Code.wp _ _ _ _ (f.alloc (.cells (jnC gw v K (.slice none 0 0) (.slice none 0 0)).toArray 189));rw[<-D];clear D W an bd;generalize f.1.size=g at*;go_wp2_with fail;go_loopw [17] (fun i wr=> ∃(j:Nat)(o:Option Addr)(q:Nat),i= .int .i64 (j:Nat)/\j<=K.nt/\JnS w wr g gw v K o q j) (fun i _=>K.nt-(intOf i).toNat)
 case atStart=>exact⟨0,none,0,rfl,kX _,X.out⟩
 case round=>
  obtain⟨j,o,q,rfl,bw,y⟩:=hrel;obtain⟨d,rfl⟩:∃x,x=wr:=⟨_,rfl⟩;clear X;by_cases n:j<K.nt
  ·have bk:(j:Int)< (K.nt:Int):=kH;have ak:=aH.out.1.txs.below y.bel;obtain⟨b,off,a8,bq,S⟩:=ak.row.at_ kH;have hr:=ak.each j n;rw[a8]at bh ⊢;have a0:d.cell? ⟨b,off+j*3,none⟩=some (.slice (v.tv j).ia (K.tx j).ni (v.tv j).ic):=by have:=S j 0 n kH;simpa [bU,txc]using this
   have a1:d.cell? ⟨b,off+j*3+1,none⟩=some (.slice (v.tv j).oa (K.tx j).no (v.tv j).oc):=by have:=S j 1 n kH;simpa [bU,txc]using this
   have a2:d.cell? ⟨b,off+j*3+2,none⟩=some (.int .i64 (K.tx j).h):=by have:=S j 2 n kH;simpa [bU,txc]using this
   have ap:=bAl d (.cells (txc (v.tv j) (K.tx j)).toArray 121);have U:Blk (d.alloc (.cells (txc (v.tv j) (K.tx j)).toArray 121)) 121 d.1.size (txc (v.tv j) (K.tx j)):=ao d _ _;have Y:Hid _:=y.below ap;have aw:Hid (∀k,(Value.slice o j q).ownBlock=some k->k<d.1.size):=fun k e=>(qX y.ids k e).2;have bu:d.1.size< (d.alloc (.cells (txc (v.tv j) (K.tx j)).toArray 121)).1.size:=by simp
   have af:=IF (v.tv j) (K.tx j) _ (aH.out.2.below Y.out.bel) (hr.below ap) (a7 j n).1 (a7 j n).2;unfold dM at af;have be:Hid (av K.tx j=aZ (K.tx j)):=rfl;have G:(aZ (K.tx j)).length=32:=fW _;have d0:(d.alloc (.cells (txc (v.tv j) (K.tx j)).toArray 121)).cell? ⟨d.1.size,0,none⟩=some (.slice (v.tv j).ia (K.tx j).ni (v.tv j).ic):=U.cell 0;have bi:(d.alloc (.cells (txc (v.tv j) (K.tx j)).toArray 121)).cell? ⟨d.1.size,1,none⟩=some (.slice (v.tv j).oa (K.tx j).no (v.tv j).oc):=U.cell 1;have bj:(d.alloc (.cells (txc (v.tv j) (K.tx j)).toArray 121)).cell? ⟨d.1.size,2,none⟩=some (.int .i64 (K.tx j).h):=U.cell 2;clear S ak y hr ap U;go_upto_region 5 with(refine aL rfl 121 _ _ rfl d txz.toArray (txc (v.tv j) (K.tx j)).toArray 121 rfl rfl lR rfl (by simp[txc,Value.oneCell']) ?_)
   change Code.wp _ _ _ _ (d.alloc (.cells (txc (v.tv j) (K.tx j)).toArray 121));generalize d.alloc (.cells (txc (v.tv j) (K.tx j)).toArray 121)=bv at*;generalize d.1.size=bz at*;clear a0 a1 a2;generalize aZ (K.tx j)=l at*;generalize aF (K.tx j)=bE at*;have bb:(prog.info? 32).map (·.size)=some (ob l).toArray.size:=by rw[aE,G];exact aJ
   have bc:zH.toArray.size=(ob l).toArray.size:=by rw[aE,G];rfl
   go_wp2_with fail;refine af.mono ?_;rintro e u ⟨rfl,F⟩;have ba:=bAl u (.cells (ob l).toArray 32);have am:Blk (u.alloc (.cells (ob l).toArray 32)) 32 u.1.size (ob l):=ao u _ _;have aO:Hid _:=(Y.out.below F).below ba;have bt:=F.size;clear af F ba d0 bi bj;go_upto_region 6 with(refine aL rfl 32 _ _ rfl u zH.toArray (ob l).toArray 32 rfl rfl bb bc (bQ _) ?_)
   change Code.wp _ _ _ _ (u.alloc (.cells (ob l).toArray 32));generalize u.alloc (.cells (ob l).toArray 32)=ag at*;generalize u.1.size=z at*;rw[<-be.out]at G am bb bc ⊢;have bf:Hid _:=am;have H:Hid (∀N,Blk N 189 g (jnC gw v K (.slice o j q) (.slice none 0 0))->Blk N 32 z (ob (av K.tx j))->N.cell? ⟨g,67,none⟩=some (.slice o j q)/\(Instr.loadAt 32 (.pointer (some ⟨z,0,none⟩))).run prog N= .ok (.agg (ob (av K.tx j)).toArray) N):=fun N bl bn=>⟨(bl.cell 67).trans (A8 gw v M _ _),tX G bn⟩;obtain⟨B,L⟩:∃B,B=ag.drew:=⟨_,rfl⟩;have ah:Below ag.1.size ag B:=by rw[L];exact⟨rfl,rfl,rfl,kE,fun _ _=>rfl⟩
   have E:=aO.out.below ah;have ae:=Blk.below bf.out ah;have m:=H.out _ E.blk ae;clear ah am;refine ay (fun N=>N.cell? ⟨g,67,none⟩=some (.slice o j q)/\(Instr.loadAt 32 (.pointer (some ⟨z,0,none⟩))).run prog N= .ok (.agg (ob (av K.tx j)).toArray) N) (fun k=>decide (10<=k)) kO ?_;rw[<-L];clear L;refine aa 0 m ?_;refine aa 1 m ?_;refine aa 2 m ?_;refine aa 3 m ?_;refine aa 4 m ?_;refine aC 5 (.agg (ob (av K.tx j)).toArray) m ?hyh ?_
   case hyh=>exact fun N a5=>bO (p:= .pointer (some ⟨z,0,none⟩)) rfl rfl a5.2
   have A:=bAl B (.cells (ob (av K.tx j)).toArray 32);have P:=E.below A;have O:=Blk.below ae A;have a3:=H.out _ P.blk O;refine aj 6 fun I r=> ?_;refine mV _ _ _ rfl (v:= .slice (some ⟨B.1.size,0,none⟩) 1 1) (w':=B.alloc (.cells (ob (av K.tx j)).toArray 32)) ?bs ?_
   case bs=>
    simp only[k9,k4,k7];exact mW _ (av K.tx j) rfl G B
   refine al r ?_;clear r I;refine aj 7 fun I r=> ?_;refine mL _ _ rfl w.1.size o j q (av K.tx) rfl E.ids (av K.tx j) G rfl kH E.bel.size ?_;intro Q R ar a9 F ai;have t:=Blk.keepT P.blk (bJ P.ids ai kN);have ac:Blk ar 32 z (ob (av K.tx j)):=(ai.block z (Blk.lt O) (fun e=>by have:=aw.out z e.symm;omega)).trans O;have J:=H.out _ t ac;have a4:=Blk.free t 67;have Z:=E.bel.trans F;have C:Hid (JnS w (ar.setCell ⟨g,67,none⟩ (.slice Q (j+1) R)) g gw v K Q R (j+1)):=⟨by have:=Blk.set t 67 (.slice Q (j+1) R);rw[Me gw v M]at this;exact this,dL (mU a9) (aV (aB ar g 67 _) t kN),Z.setCell (p:=⟨g,67,none⟩) ad.out _⟩;refine al r ?_;clear r I A P O a3 a9 F ai t ac Z E ae m;refine aa 8 J ?_;refine aa 9 J ?_;refine aj 10 fun I r=> ?_;go_wp2_with fail;refine al r ?_;clear r I;refine ax ?_;clear J a4;go_wp2_with fail;go_roundw
   case rel=>exact⟨j+1,Q,R,by go_num,kH,C.out⟩
   case measure=>simp[intOf];omega
  ·have a6:j=K.nt:=kH;rw[a6]at y;have C:Hid _:=y;clear y;go_wp2_with fail;go_ret
   first|exact⟨g,rfl,ad.out,o,q,C.out⟩|exact⟨g,o,q,rfl,ad.out,C.out⟩
noncomputable def tkB(es:List (ByteArray×ByteArray))(id:List Int)(n:Nat):Bool:=(List.range n).any fun(k:Nat)=>cnB es (id,(k:Int))
theorem A9{es id}{n k:Nat}(a:k<n)(h:cnB es (id,(k:Int))=true):tkB es id n=true:=by
 unfold tkB;rw[List.any_eq_true];exact⟨k,m3.2 a,h⟩
theorem Ba{es id n}(h:∀k:Nat,k<n->cnB es (id,(k:Int))=false):tkB es id n=false:=by
 unfold tkB;rw[List.any_eq_false];intro k a;rw[h k (m3.1 a)];decide
theorem Bb(es)(ab:(es.map (·.1)).Pairwise (fun a b=>sl a b=true))(X:es.length<=1048576)(o p v K id)(P:id.length=32)(ai:IsB id)(aH:K.no<=1048576)(w)(h:ORow 93 2 0 w o es.length p (enF es)):
 Calls prog 117 #[.slice o es.length p,dM v K,.agg (ob id).toArray] w fun e w'=>e= .returned (.bool (tkB es id K.no))/\Below w.1.size w w':=by
 unfold dM;obtain⟨f,d⟩:∃af,af=w.alloc (.cells #[.slice v.ia K.ni v.ic,.slice v.oa K.no v.oc,.int .i64 K.h] 121):=⟨_,rfl⟩;obtain⟨c,l⟩:∃af,af=f.alloc (.cells (ob id).toArray 32):=⟨_,rfl⟩;have Q:Below w.1.size w f:=by rw[d];exact bAl _ _
 have r:Below f.1.size f c:=by rw[l];exact bAl _ _
 have ad:f.1.size=w.1.size+1:=by rw[d];simp
 have t:=Q.trans (r.mono Q.size);have ac:=(by rw[d];exact ao w _ _:Blk f 121 w.1.size [.slice v.ia K.ni v.ic,.slice v.oa K.no v.oc,.int .i64 K.h]).below r;have n:Blk c 32 (w.1.size+1) (ob id):=by rw[l,<-ad];exact ao f _ _
 have D:Hid (∀u,Below c.1.size c u->u.cell? ⟨w.1.size,1,none⟩=some (.slice v.oa K.no v.oc)/\Blk u 32 (w.1.size+1) (ob id)/\ORow 93 2 0 u o es.length p (enF es)/\Below w.1.size w u):=fun u m=>⟨(ac.below m).cell 1,n.below m,(h.below t).below m,t.trans (m.mono t.size)⟩;have an:(prog.info? 32).map (·.size)=some (ob id).toArray.size:=by rw[aE,P];exact aJ
 have U:Hid _:=fun(k:Nat) u(m:ORow 93 2 0 u o es.length p (enF es))=>AZ es ab X o p 0 (id,(k:Int)) P ai u m;have T:Hid _:=fun k:Nat=>lH id (k:Int) P;have V:Hid _:=fun k:Nat=>AV es (id,(k:Int));clear Q r t ac n h ad ab;go_enter func117,ntmps117;go_upto_region 1 with fail
 change Code.wp _ _ _ _ ((w.alloc (.cells #[.slice v.ia K.ni v.ic,.slice v.oa K.no v.oc,.int .i64 K.h] 121)).alloc (.cells (ob id).toArray 32));rw[<-d,<-l];clear d l;go_wp2_with fail;go_loopw [7] (fun i wr=> ∃k:Nat,i= .int .i64 (k:Nat)/\k<=K.no/\(∀q:Nat,q<k->cnB es (id,(q:Int))=false)/\Below c.1.size c wr) (fun i _=>K.no-(intOf i).toNat)
 case atStart=>exact⟨0,rfl,kX _,fun q Z=>by omega,kF⟩
 case round=>
  obtain⟨k,rfl,aw,I,s⟩:=hrel;obtain⟨ap,rfl⟩:∃x,x=wr:=⟨_,rfl⟩;have E:Hid _:=I;obtain⟨ag,n,j,g⟩:=D.out _ s;clear I;by_cases Y:k<K.no
  ·have am:(k:Int)< (K.no:Int):=kH;have M:=U.out k ap j;have F:=T.out k;have O:Hid _:=fun ak=>A9 (es:=es) (id:=id) Y ak;obtain⟨z,A,B,J⟩:=V.out k;rw[J]at M;have C:Hid _:=s;clear j g s J;generalize G:cnB es (id,(k:Int))=ah at*;go_wp2_with (first|(refine qi rfl 32 _ rfl (w.1.size+1) rfl 32 (ob id).toArray (0,0) _ n qa rfl an ?_)|(refine fK rfl _ _ rfl (cs:=(pc (id,(k:Int))).toArray) ?hbu ?_));refine M.mono ?_;rintro e y ⟨rfl,W⟩;have q3:=bAl y (.cells #[.int .i64 z,.int .i64 A,.bool B] 48);have L:=C.out.trans (W.mono C.out.size);have R:Hid (Below c.1.size c (y.alloc (.cells #[.int .i64 z,.int .i64 A,.bool B] 48))):=L.trans (q3.mono L.size);have ae:Hid _:=G;clear M W q3 L ag n F G;cases ah with
   |true=>
    have N:Hid _:=O.out rfl;go_wp2_with (refine aL rfl 48 _ _ rfl y co0.toArray #[.int .i64 z,.int .i64 A,.bool B] 48 rfl rfl dV rfl rfl ?_);go_ret;rw[N.out];exact⟨rfl,(D.out _ R.out).2.2.2⟩
   |false=>
    go_wp2_with (refine aL rfl 48 _ _ rfl y co0.toArray #[.int .i64 z,.int .i64 A,.bool B] 48 rfl rfl dV rfl rfl ?_);go_roundw
    case rel=>exact⟨k+1,by go_num,kH,fun q Z=>by rcases og (oH Z)with h|rfl;exact E.out q h;exact ae.out,R.out⟩
    case measure=>simp[intOf];omega
  ·have H:k=K.no:=kH;have ar:¬(k:Int)< (K.no:Int):=kH;have N:Hid (tkB es id K.no=false):=Ba (by rw[<-H];exact E.out);have S:Hid _:=g;clear j g s n H;go_wp2_with fail;go_ret;rw[N.out];exact⟨rfl,S.out⟩
noncomputable def coV(es:List (ByteArray×ByteArray))(p:List Int×Int):Int×Int×Bool:=
 if cnB es p=true then(low ((nb (vOf (gtE es (kyC p)))).take 7),low (((nb (vOf (gtE es (kyC p)))).drop 8).take 4),(nb (vOf (gtE es (kyC p)))).getD 12 0==1)else(0,0,false)
theorem qn{es p}(h:cnB es p=true):(0<=p.2/\p.2<256)/\eF (vOf (gtE es (kyC p))):=by
 unfold cnB at h;split at h
 ·rename_i a;exact⟨a,r6 h⟩
 ·cases h
theorem mh(es p):cnC es p=[.int .i64 (coV es p).1,.int .i64 (coV es p).2.1,.bool (coV es p).2.2]:=by
 by_cases h:cnB es p=true
 ·obtain⟨c,b⟩:=qn h;have a:cnC es p=coC (vOf (gtE es (kyC p))):=qb c;rw[a,(tM b).1];unfold coV;rw[qb h]
 ·have a:cnC es p=co0:=by
   unfold cnC;split
   ·rename_i c;have d:cnB es p=decide (eF (vOf (gtE es (kyC p)))):=qb c;rw[d]at h;exact(l9 (fun b=>h (q6 b))).1
   ·rfl
  rw[a];unfold coV;rw[q4 h]
  rfl
theorem qo(es p):(0<=(coV es p).1/\(coV es p).1<=1000000000000)/\0<=(coV es p).2.1/\(coV es p).2.1<=1000000:=by
 unfold coV;split
 ·rename_i h;obtain⟨_,d⟩:=qn h;have c:=gG (l:=((nb (vOf (gtE es (kyC p)))).drop 8).take 4) (dR (ff (jB _) 8) 4);obtain⟨_,_,_,e,a,b⟩:=d;exact⟨⟨kH,a⟩,c.1,b⟩
 ·simp
theorem Mg{es p}(h:cnB es p=true):coT (coV es p).1 (coV es p).2.1 (coV es p).2.2=vOf (gtE es (kyC p)):=by
 unfold coV;rw[qb h];exact L8 (qn h).2
noncomputable def mi(es:List (ByteArray×ByteArray))(h:Int)(p:List Int×Int):Bool:=(coV es p).2.2&&decide (h< (coV es p).2.1+3)
noncomputable def eS(es:List (ByteArray×ByteArray))(P:Nat->List Int×Int)(n:Nat):Bool:=(List.range n).all fun i=>cnB es (P i)
noncomputable def fb(es:List (ByteArray×ByteArray))(P:Nat->List Int×Int)(h:Int)(n:Nat):Bool:=(List.range n).any fun i=>mi es h (P i)
noncomputable def fc(es:List (ByteArray×ByteArray))(P:Nat->List Int×Int)(n:Nat):Int:=bV (fun i=>(coV es (P i)).1) n
noncomputable def fe(es:List (ByteArray×ByteArray))(K:TxK)(id:List Int)(h:Int):Int:=
 if eS es K.P K.ni=false then 5 else if fb es K.P h K.ni=true then 6 else if fc es K.P K.ni<bV K.V K.no\/tkB es id K.no=true then 7 else 0
noncomputable def fY(es:List (ByteArray×ByteArray))(K:TxK)(id:List Int)(h:Int):Int:=if fe es K id h=0 then fc es K.P K.ni-bV K.V K.no else 0
theorem Bc(es P n):eS es P (n+1)=(eS es P n&&cnB es (P n)):=by simp[eS,List.range_succ]
theorem Bd(es P h n):fb es P h (n+1)=(fb es P h n||mi es h (P n)):=by simp[fb,List.range_succ]
theorem Be{es P n k}(a:k<n)(h:cnB es (P k)=false):eS es P n=false:=by
 unfold eS;rw[List.all_eq_false];exact⟨k,m3.2 a,by rw[h];decide⟩
theorem tZ(es P n):0<=fc es P n/\fc es P n<=1000000000000*n:=li (fun i _=>(qo es (P i)).1) n kE
theorem RRow.onlyS{Z w r s n c a f}(h:RRow w s a n c f)(g:OnlyS Z w r)(p:∀b off,a=some ⟨b,off,none⟩->¬Z b):RRow r s a n c f:=
 ⟨h.ok,h.le,h.le',h.nil,fun m=>by
  obtain⟨b,off,e,d,k⟩:=h.at_ m;refine⟨b,off,e,lk d g.size,fun i q l o=> ?_⟩;have j:=g.block b d (p b off e);rw[<-k i q l o];unfold World.cell?;simp only[j]⟩
structure CnSt(K:DK)(root:Int)(B B0 gw:Nat)(w u:World)(a:Option Addr)(n c:Nat)(f:Nat->List Value):Prop where
 row:ORow 48 3 w.1.size u a n c f
 only:OnlyS (fun k=>B<=k/\k<B0) w u
 wot:WoT K root B B0 gw u
 top:B0<=w.1.size
section
variable {K:DK} {root:Int} {B B0 gw:Nat} {w u u':World} {a:Option Addr} {n c:Nat} {f:Nat->List Value}
theorem CnSt.below(h:CnSt K root B B0 gw w u a n c f)(b:Below u.1.size u u'):CnSt K root B B0 gw w u' a n c f:=⟨h.row.below b,h.only.trans (OnlyS.ofBelow b),h.wot.below b,h.top⟩
theorem CnSt.recd(h:CnSt K root B B0 gw w u a n c f)(b:OnlyS (fun k=>B<=k/\k<B0) u u')(d:WoT K root B B0 gw u'):CnSt K root B B0 gw w u' a n c f:=by
 refine⟨⟨h.row.1,?_⟩,h.only.trans b,d,h.top⟩;rcases h.row.2 with h2|⟨g,cap,cur,hv,hg,hh,r⟩
 ·exact kV h2
 ·exact kT ⟨g,cap,cur,hv,hg,by rw[b.block g (k6.1 hh).1 (fun e=>by have:=h.top;omega)];exact hh,r⟩
theorem CnSt.app(h:CnSt K root B B0 gw w u a n c f){d l g i}(o:ORow 48 3 w.1.size u' d l g i)(b:u.grownBy u' (Value.slice a n c).ownBlock):CnSt K root B B0 gw w u' d l g i:=by
 have m:=kF.grown b h.only.size (fun k j=>(qX h.row k j).1);exact⟨o,h.only.transN (OnlyS.ofGrown b) (fun k j e=>by have:=(qX h.row k e).1;omega),h.wot.keep (m.mono h.top) (bJ h.row b kN),h.top⟩
end
theorem Mh{K ab root U R B B0 gw a9 w d}(ad:RDisk a9 d K)(L:whB K ab root U R=true)(S:WoT K root B B0 gw w)(a n c P)(ac:IsPts P n)(hr:RRow w 33 a n c (dH P))(bh:n<=1048576)(a3:∀b off,a=some ⟨b,off,none⟩->B0<=b):
 Calls prog 175 #[.pointer (some ⟨gw,0,none⟩),.slice a n c] w fun e w'=>(eS (enL K root) P n=true/\∃Y Z,e= .returned (.tuple #[.slice Y n Z,.bool true])/\CnSt K root B B0 gw w w' Y n Z (fun i=>cnC (enL K root) (P i)))\/(eS (enL K root) P n=false/\e= .returned (.tuple #[.slice none 0 0,.bool false])/\OnlyS (fun k=>B<=k/\k<B0) w w'/\WoT K root B B0 gw w'):=by
 have X:Hid _:=fun(p:List Int×Int)(a5:p.1.length=32)(ag:IsB p.1) aw(E:WoT K root B B0 gw aw)=>AY p a5 ag ad L E;have H:Hid (CnSt K root B B0 gw w w none 0 0 (fun i=>cnC (enL K root) (P i))):=⟨eU _ _ _ _ _,OnlyS.refl _ _,S,S.le.2⟩;clear ad L S;generalize enL K root=es at*;go_enter func175,ntmps175;go_wp2_with fail;go_loopw [6,13] (fun s i wr=> ∃(k:Nat)(v:Option Addr)(y:Nat),s= .slice v k y/\i= .int .i64 (k:Nat)/\k<=n/\eS es P k=true/\CnSt K root B B0 gw w wr v k y (fun i=>cnC es (P i))) (fun _ i _=>n-(intOf i).toNat)
 case atStart=>exact⟨0,none,0,rfl,rfl,kX _,rfl,H.out⟩
 case round=>
  obtain⟨k,v,y,rfl,rfl,bg,f,z⟩:=hrel;obtain⟨g,rfl⟩:∃x,x=wr:=⟨_,rfl⟩;clear H;by_cases t:k<n
  ·have a4:(k:Int)< (n:Int):=kH;have J:=hr.onlyS z.only (fun b off e ah=>by have:=a3 b off e;omega);obtain⟨b,off,rfl,ba,D⟩:=J.at_ kH;have l:=ac.len k t;have h:∀j aw,(pc (P k))[j]?=some aw->g.cell? ⟨b,off+k*33+j,none⟩=some aw:=fun j aw E=>by
    have ae:j<33:=by have:=(lb.1 E).1;rw[dS _ l]at this;exact this
    rw[D k j t ae];exact E
   have a8:(prog.info? 52).map (·.size)=some (pc (P k)).length:=by rw[dS _ l];exact gl
   have M:(prog.info? 52).map (·.size)=some (pc (P k)).toArray.size:=by rw[k8,dS _ l];exact gl
   have ap:(pc fy).toArray.size=(pc (P k)).toArray.size:=by rw[k8,k8,dS _ l];rfl
   have am:=bAl g (.cells (pc (P k)).toArray 52);have ai:Blk (g.alloc (.cells (pc (P k)).toArray 52)) 52 g.1.size (pc (P k)):=ao g _ _;have I:Hid _:=z.below am;have C:=X.out (P k) l (ac.byte k t) _ I.out.wot;have O:Hid (cnC es (P k)=[.int .i64 (coV es (P k)).1,.int .i64 (coV es (P k)).2.1,.bool (coV es (P k)).2.2]):=mh es (P k);rw[O.out]at C;have G:Hid _:=fun D=>Be (es:=es) (P:=P) t D;have V:Hid _:=Bc es P k;have W:Hid _:=f;clear D J z am f;generalize cnB es (P k)=a0 at*;generalize coV es (P k)=a1 at*;obtain⟨o,q,r⟩:=a1;dsimp only at C O;go_upto_region 5 with(first|(refine dm rfl 52 _ rfl b (off+k*33) rfl (pc (P k)) _ h r9 rfl a8 ?_)|(refine aL rfl 52 _ _ rfl g (pc fy).toArray (pc (P k)).toArray 52 rfl rfl M ap (dP (kf (P k))) ?_))
   change Code.wp _ _ _ _ (g.alloc (.cells (pc (P k)).toArray 52));generalize g.alloc (.cells (pc (P k)).toArray 52)=bc at*;generalize g.1.size=a7 at*;clear h;go_wp2_with (refine qi rfl 52 _ rfl a7 rfl 52 (pc (P k)).toArray (0,0) _ ai r9 rfl M ?_);refine C.mono ?_;rintro e m ⟨rfl,ak,ar⟩;have an:=bAl m (.cells #[.int .i64 o,.int .i64 q,.bool r] 48);have u:Hid _:=(I.out.recd ak ar).below an;have A:Blk (m.alloc (.cells #[.int .i64 o,.int .i64 q,.bool r] 48)) 48 m.1.size [.int .i64 o,.int .i64 q,.bool r]:=ao m _ _;clear C ak ar an ai;go_upto_region 6 with(refine aL rfl 48 _ _ rfl m co0.toArray #[.int .i64 o,.int .i64 q,.bool r] 48 rfl rfl dV rfl rfl ?_)
   change Code.wp _ _ _ _ (m.alloc (.cells #[.int .i64 o,.int .i64 q,.bool r] 48));generalize m.alloc (.cells #[.int .i64 o,.int .i64 q,.bool r] 48)=Q at*;generalize m.1.size=T at*;cases a0 with
   |false=>
    have aH:Hid _:=G.out rfl;clear A;go_wp2_with fail
    go_ret2
    exact kT ⟨aH.out,rfl,u.out.only,u.out.wot⟩
   |true=>
    have e0:Q.cell? ⟨T,0,none⟩=some (.int .i64 o):=A.cell 0;have be:Q.cell? ⟨T,1,none⟩=some (.int .i64 q):=A.cell 1;have bf:Q.cell? ⟨T,2,none⟩=some (.bool r):=A.cell 2;have N:Hid (eS es P (k+1)=true):=by show eS es P (k+1)=true;rw[V.out,W.out];rfl
    have aS:=u.out.row;have ah:=u.out.only.size;clear A G V;go_wp2_with (refine qD rfl _ _ A6 rfl w.1.size v k y (fun i=>cnC es (P i)) rfl aS [.int .i64 o,.int .i64 q,.bool r] rfl (by simp[Value.oneCell']) rfl kH kH ah ?_;rintro aO aX bi a6 bd a2);go_roundw
    case rel=>exact⟨k+1,aO,aX,rfl,by go_num,kH,N.out,(u.out.below (bAl _ _)).app (a6.congr (fun j ae=>by unfold dg;split;rename_i e;subst e;exact O.out.symm;rfl)) a2⟩
    case measure=>simp[intOf];omega
  ·have af:k=n:=kH;subst af;have bb:¬(k:Int)< (k:Int):=kH;have F:=kG f z;clear f z hr;go_wp2_with fail
   go_ret2
   exact kV ⟨F.out.1,v,y,rfl,F.out.2⟩
theorem ua{es K id h}(a:eS es K.P K.ni=false):fe es K id h=5/\fY es K id h=0:=by
 have e:fe es K id h=5:=qb a;exact⟨e,by unfold fY;rw[e];rfl⟩
theorem Bf{es K id h}(a:eS es K.P K.ni=true)(b:fb es K.P h K.ni=true):fe es K id h=6/\fY es K id h=0:=by
 have e:fe es K id h=6:=by unfold fe;rw[q4 (by rw[a];decide),qb b]
 exact⟨e,by unfold fY;rw[e];rfl⟩
theorem Bg{es K id h}(a:eS es K.P K.ni=true)(b:fb es K.P h K.ni=false)(c:fc es K.P K.ni<bV K.V K.no\/tkB es id K.no=true):fe es K id h=7/\fY es K id h=0:=by
 have e:fe es K id h=7:=by unfold fe;rw[q4 (by rw[a];decide),q4 (by rw[b];decide),qb c]
 exact⟨e,by unfold fY;rw[e];rfl⟩
theorem Bh{es K id h}(a:eS es K.P K.ni=true)(b:fb es K.P h K.ni=false)(c:¬fc es K.P K.ni<bV K.V K.no)(d:tkB es id K.no=false):fe es K id h=0/\fY es K id h=fc es K.P K.ni-bV K.V K.no:=by
 have e:fe es K id h=0:=by unfold fe;rw[q4 (by rw[a];decide),q4 (by rw[b];decide),q4 (by rw[d];rintro(h|h);exact c h;cases h)]
 exact⟨e,qb e⟩
theorem Mi(es)(bb:(es.map (·.1)).Pairwise (fun a b=>sl a b=true))(a3:es.length<=1048576)(L M v K id)(bp:id.length=32)(bN:IsB id)(c)(cc:0<=c)(cd:c<=4294967295)(b7:K.ni<=1048576)(ad:K.no<=1048576)(ba:∀i,i<K.no->0<=K.V i/\K.V i<=1000000000000)(w)(hr:RTx w v K)(h:ORow 93 2 0 w L es.length M (enF es)):
 Calls prog 114 #[.slice L es.length M,dM v K,.agg (ob id).toArray,.int .i64 c] w fun e w'=>e= .returned (.tuple #[.int .i64 (fe es K id c),.int .i64 (fY es K id c)])/\Below w.1.size w w':=by
 have Y:Hid _:=fun q(g:ORow 93 2 0 q L es.length M (enF es))=>Bb es bb a3 L M v K id bp bN ad q g;unfold dM at Y ⊢;obtain⟨J,B⟩:∃bx,bx=w.alloc (.cells #[.slice v.ia K.ni v.ic,.slice v.oa K.no v.oc,.int .i64 K.h] 121):=⟨_,rfl⟩;obtain⟨A,R⟩:∃bx,bx=J.alloc (.cells (ob id).toArray 32):=⟨_,rfl⟩;have bc:Below w.1.size w J:=by rw[B];exact bAl _ _
 have ai:Below J.1.size J A:=by rw[R];exact bAl _ _
 have bw:J.1.size=w.1.size+1:=by rw[B];simp
 have ak:=bc.trans (ai.mono bc.size);have o:=(by rw[B];exact ao w _ _:Blk J 121 w.1.size [.slice v.ia K.ni v.ic,.slice v.oa K.no v.oc,.int .i64 K.h]).below ai;have T:Blk A 32 (w.1.size+1) (ob id):=by rw[R,<-bw];exact ao J _ _
 have X:Hid (∀q,Below A.1.size A q->Blk q 121 w.1.size [.slice v.ia K.ni v.ic,.slice v.oa K.no v.oc,.int .i64 K.h]/\Blk q 32 (w.1.size+1) (ob id)/\ORow 93 2 0 q L es.length M (enF es)/\RTx q v K/\Below w.1.size w q):=fun q g=>⟨o.below g,T.below g,(h.below ak).below g,(hr.below ak).below g,ak.trans (g.mono ak.size)⟩;have b1:(prog.info? 32).map (·.size)=some (ob id).toArray.size:=by rw[aE,bp];exact aJ
 have aX:Hid _:=fun(p:List Int×Int)(b0:p.1.length=32)(bs:IsB p.1) q(g:ORow 93 2 0 q L es.length M (enF es))=>AZ es bb a3 L M 0 p b0 bs q g;have O:=hr.pts;clear bc ai ak o T h bw bb hr;go_enter func114,ntmps114;go_upto_region 1 with fail
 change Code.wp _ _ _ _ ((w.alloc (.cells #[.slice v.ia K.ni v.ic,.slice v.oa K.no v.oc,.int .i64 K.h] 121)).alloc (.cells (ob id).toArray 32));rw[<-B,<-R];clear B R;go_wp2_with fail;go_loopw [10,11,12] (fun s r i wr=> ∃k:Nat,s= .int .i64 (fc es K.P k)/\r= .bool (!fb es K.P c k)/\i= .int .i64 (k:Nat)/\k<=K.ni/\eS es K.P k=true/\Below A.1.size A wr) (fun _ _ i _=>K.ni-(intOf i).toNat)
 case atStart=>exact⟨0,rfl,rfl,rfl,kX _,rfl,kF⟩
 case round=>
  obtain⟨k,rfl,rfl,rfl,bS,d,ab⟩:=hrel;obtain⟨G,rfl⟩:∃x,x=wr:=⟨_,rfl⟩;obtain⟨o,T,m,F,N⟩:=X.out _ ab;have bt:=tZ es K.P k;by_cases E:k<K.ni
  ·have bY:(k:Int)< (K.ni:Int):=kH;obtain⟨b,off,ac,b5,ar⟩:=F.ins.at_ kH;have a9:G.cell? ⟨w.1.size,0,none⟩=some (.slice (some ⟨b,off,none⟩) K.ni v.ic):=by rw[<-ac];exact o.cell 0
   have ae:=O.len k E;have C:∀j q,(pc (K.P k))[j]?=some q->G.cell? ⟨b,off+k*33+j,none⟩=some q:=fun j q g=>by
    have bR:j<33:=by have:=(lb.1 g).1;rw[dS _ ae]at this;exact this
    rw[ar k j E bR];exact g
   have b2:(prog.info? 52).map (·.size)=some (pc (K.P k)).length:=by rw[dS _ ae];exact gl
   have am:=aX.out (K.P k) ae (O.byte k E) G m;rw[mh]at am;have bn:=qo es (K.P k);have a0:Hid _:=fun ar=>ua (es:=es) (K:=K) (id:=id) (h:=c) (Be E ar);have bh:Hid _:=Bc es K.P k;have a7:Hid _:=Bd es K.P c k;have ap:Hid (fc es K.P (k+1)=fc es K.P k+(coV es (K.P k)).1):=rfl;have Q:Hid (mi es c (K.P k)=((coV es (K.P k)).2.2&&decide (c< (coV es (K.P k)).2.1+3))):=rfl;have W:=kG ab d;rw[ac];clear ar m F N ab d T o ac;generalize cnB es (K.P k)=bF at*;generalize coV es (K.P k)=bH at*;obtain⟨H,u,y⟩:=bH;dsimp only at am bn ap Q;generalize fc es K.P k=bu at*;generalize fb es K.P c k=l at*;go_wp2_with (refine dm rfl 52 _ rfl b (off+k*33) rfl (pc (K.P k)) _ C r9 rfl b2 ?_);refine am.mono ?_;rintro e t ⟨rfl,bk⟩;have q3:=bAl t (.cells #[.int .i64 H,.int .i64 u,.bool y] 48);have a6:=W.out.1.trans (bk.mono W.out.1.size);have I:Hid (Below A.1.size A (t.alloc (.cells #[.int .i64 H,.int .i64 u,.bool y] 48))):=a6.trans (q3.mono a6.size);have ah:Blk (t.alloc (.cells #[.int .i64 H,.int .i64 u,.bool y] 48)) 48 t.1.size [.int .i64 H,.int .i64 u,.bool y]:=ao t _ _;clear am bk q3 a6 a9 C;go_upto_region 7 with(refine aL rfl 48 _ _ rfl t co0.toArray #[.int .i64 H,.int .i64 u,.bool y] 48 rfl rfl dV rfl rfl ?_)
   change Code.wp _ _ _ _ (t.alloc (.cells #[.int .i64 H,.int .i64 u,.bool y] 48));generalize t.alloc (.cells #[.int .i64 H,.int .i64 u,.bool y] 48)=a8 at*;generalize t.1.size=bd at*;cases bF with
   |false=>
    have f:Hid _:=a0.out rfl;clear ah;go_wp2_with fail
    go_ret2
    rw[f.out.1,f.out.2];exact⟨rfl,(X.out _ I.out).2.2.2.2⟩
   |true=>
    have e0:a8.cell? ⟨bd,0,none⟩=some (.int .i64 H):=ah.cell 0;have ca:a8.cell? ⟨bd,1,none⟩=some (.int .i64 u):=ah.cell 1;have cb:a8.cell? ⟨bd,2,none⟩=some (.bool y):=ah.cell 2;have V:Hid (eS es K.P (k+1)=true):=by show eS es K.P (k+1)=true;rw[bh.out,W.out.2];rfl
    clear ah a0 bh;cases y with
    |false=>
     have z:Hid (fb es K.P c (k+1)=l):=by show fb es K.P c (k+1)=l;rw[a7.out,Q.out];cases l<;>rfl
     go_wp2_with fail;go_roundw
     case rel=>exact⟨k+1,by rw[ap.out],by rw[z.out],by go_num,kH,V.out,I.out⟩
     case measure=>simp[intOf];omega
    |true=>
     by_cases D:c<u+3
     ·have z:Hid (fb es K.P c (k+1)=true):=by show fb es K.P c (k+1)=true;rw[a7.out,Q.out,q6 D];cases l<;>rfl
      go_wp2_with fail;go_roundw
      case rel=>exact⟨k+1,by rw[ap.out],by rw[z.out];rfl,by go_num,kH,V.out,I.out⟩
      case measure=>simp[intOf];omega
     ·have z:Hid (fb es K.P c (k+1)=l):=by show fb es K.P c (k+1)=l;rw[a7.out,Q.out,q5 D];cases l<;>rfl
      go_wp2_with fail;go_roundw
      case rel=>exact⟨k+1,by rw[ap.out],by rw[z.out],by go_num,kH,V.out,I.out⟩
      case measure=>simp[intOf];omega
  ·have a2:k=K.ni:=kH;have bq:¬(k:Int)< (K.ni:Int):=kH;rw[a2]at d bt bq ⊢;have a9:G.cell? ⟨w.1.size,0,none⟩=some (.slice v.ia K.ni v.ic):=o.cell 0;have bz:G.cell? ⟨w.1.size,1,none⟩=some (.slice v.oa K.no v.oc):=o.cell 1;have bE:G.cell? ⟨w.1.size,2,none⟩=some (.int .i64 K.h):=o.cell 2;have Z:=tY v.oa K.no v.oc K.V G F.outs ba ad;have b8:=li ba K.no kE;have be:Hid _:=fun D=>Bf (id:=id) (h:=c) d D;have bf:Hid _:=fun D n=>Bg (id:=id) (h:=c) d D n;have bg:Hid _:=fun D n ag=>Bh (id:=id) (h:=c) d D n ag;have an:=kG ab (kR N F);have bj:=Y.out G m;clear a2 ab N F d m o O aX Y E bS;generalize fb es K.P c K.ni=l at*;generalize fc es K.P K.ni=bu at*;cases l with
   |true=>
    have f:Hid _:=be.out rfl;go_wp2_with fail
    go_ret2
    rw[f.out.1,f.out.2];exact⟨rfl,an.out.2.1⟩
   |false=>
    have P:Hid _:=fun n=>bf.out rfl n;have U:Hid _:=fun n ag=>bg.out rfl n ag;clear bf bg be;go_wp2_with fail;refine Z.mono ?_;rintro e w' ⟨rfl,af⟩;obtain rfl:=af.symm;clear af Z;by_cases a1:bu<bV K.V K.no
    ·have f:Hid _:=P.out (kV a1);clear P U;generalize bV K.V K.no=b3 at*;go_wp2_with fail
     go_ret2
     rw[f.out.1,f.out.2];exact⟨rfl,an.out.2.1⟩
    ·have bi:Hid _:=fun q g=>tY v.oa K.no v.oc K.V q g ba ad;have aH:Hid _:=fun n=>P.out (kT n);have aO:Hid _:=fun ag=>U.out kH ag;clear P U;have b6:=q5 a1;generalize bV K.V K.no=b3 at*;generalize tkB es id K.no=b4 at*;go_wp2_with (refine BigFrame.wpList_want (by rfl) fun _ bP=>wp_load_row 32 _ rfl (w.1.size+1) rfl 32 (ob id).toArray (0,0) _ T qa rfl b1 (bP _ _ ?_));refine bj.mono ?_;rintro e bv ⟨rfl,bl⟩;have I:=an.out.1.trans (bl.mono an.out.1.size);obtain⟨a5,_,_,a4,S⟩:=X.out _ I;have b9:bv.cell? ⟨w.1.size,1,none⟩=some (.slice v.oa K.no v.oc):=a5.cell 1;have Z:=bi.out bv a4.outs;have aw:Hid _:=S;clear bj bl I a5 a4 S a9 bz bE T;cases b4 with
     |true=>
      have f:Hid _:=aH.out rfl;go_wp2_with fail
      go_ret2
      rw[f.out.1,f.out.2];exact⟨rfl,aw.out⟩
     |false=>
      have f:Hid _:=aO.out rfl;clear aH aO;go_wp2_with fail;refine Z.mono ?_;rintro e w' ⟨rfl,af⟩;obtain rfl:=af.symm;clear af Z;go_wp2_with fail
      go_ret2
      rw[f.out.1,f.out.2];exact⟨rfl,aw.out⟩
