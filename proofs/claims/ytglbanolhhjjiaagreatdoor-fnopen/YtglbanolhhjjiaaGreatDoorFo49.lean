import Derived.Test.YtglbanolhhjjiaaGreatDoorFo48
namespace Go.Proofs.YtglbanolhhjjiaaGreatDoor
open Go.Proofs.Tryz
open Go.RowKit
set_option linter.unusedVariables false
set_option maxRecDepth 100000
set_option maxHeartbeats 32000000
theorem yV{P:Program}{i:Func}{p q:Tmp}{f c:TypeId}(A:i.results=#[.cell p f,.cell q c])(a:Array Value)(w:World)(g e:Nat)(t r:TypeId)(cs b:Array Value)(d h:TypeDesc)
 (x:a.getD p undef= .pointer (some ⟨g,0,none⟩))(u:w.heap[g]?=some (.cells cs t (0,0)))(z:P.underlying f=some d)(s:(match d with| .struct _| .array _ _=>true|_=>false)=true)(v:(P.info? f).map (·.size)=some cs.size)
 (y:a.getD q undef= .pointer (some ⟨e,0,none⟩))(k:w.heap[e]?=some (.cells b r (0,0)))(o:P.underlying c=some h)(j:(match h with| .struct _| .array _ _=>true|_=>false)=true)(l:(P.info? c).map (·.size)=some b.size):
 (results i a).run P w= .ok (.tuple #[.agg cs,.agg b]) w:=by
 have m:a[p]?.getD undef= .pointer (some ⟨g,0,none⟩):=by simpa using x
 have n:a[q]?.getD undef= .pointer (some ⟨e,0,none⟩):=by simpa using y
 simp[results,A,m,n,asAddr,run_loadVar_row w g t f cs (0,0) d u z s v,run_loadVar_row w e r c b (0,0) h k o j l]
def dkC(d:DV)(K:DK):List Value:=[.slice d.sa K.n d.sc,.slice d.pa K.m d.pc]
theorem gH(d K):∀v∈dkC d K,v.oneCell'=true:=by simp[dkC,Value.oneCell']
theorem eH(d K):(prog.info? 35).map (·.size)=some (dkC d K).length:=gD
theorem aL{u k d K}(a:Blk u 35 k (dkC d K)):(Instr.loadAt 35 (.pointer (some ⟨k,0,none⟩))).run prog u= .ok (.agg (dkC d K).toArray) u:=sy a
theorem IB:prog.built 36 [(0,.int .i64 1),(2,.int .i64 2)]=some (al 1 0 2 0).toArray:=uA
structure MdV(g:Nat)(a:Option Addr)(n c:Nat)(l:List Int)(w:World)(db sb rd rs Bx:Nat)(s:MdS)(d:DV)(u:World):Prop where
 fr:OnlyB g w u
 rdr:IsRd u g a n c l s.2.2
 dk:Blk u 35 db (dkC d s.1)
 su:Blk u 36 sb (al s.2.1.1 s.2.1.2.1 s.2.1.2.2.1 s.2.1.2.2.2)
 od:ODisk Bx u d s.1
 r1:Blk u 35 rd [.slice none 0 0,.slice none 0 0]
 r2:Blk u 36 rs (al 0 0 0 0)
 hB:Bx<=u.1.size
theorem MdV.below{g a n c l w h sb i j f s d u k}(e:MdV g a n c l w h sb i j f s d u)(b:Below u.1.size u k):MdV g a n c l w h sb i j f s d k:=
 ⟨e.fr.thenB b e.fr.size,e.rdr.below b,e.dk.below b,e.su.below b,e.od.below b,e.r1.below b,e.r2.below b,u9 e.hB b.size⟩
theorem MdV.reader{g a n c l w f sb h i j s d u o q}(m:MdV g a n c l w f sb h i j s d u)(b:OnlyB g u o)(p:IsRd o g a n c l q)(r:w.1.size<=h/\h<i/\i<f/\f<sb/\sb<j/\g<w.1.size):MdV g a n c l w f sb h i j (s.1,s.2.1,q) d o:=
 ⟨m.fr.trans b,p,m.dk.only b t7,m.su.only b t7,m.od.low (OnlyS.ofB b) (fun k t e=>by omega),m.r1.only b t7,m.r2.only b t7,u9 m.hB b.size⟩
theorem sZ{B k u f d K xs}(a:ODisk B u d K)(c:OnlyB k u f)(b:Blk u 36 k xs):ODisk B f d K:=
 ⟨⟨cw a.safe.row (aw c b uv),fun i e=>cw (a.safe.data i e) (aw c b uv),a.safe.byte,a.safe.sep1⟩,⟨cw a.pend.row (aw c b uv),fun i e=>cw (a.pend.data i e) (aw c b uv),a.pend.byte,a.pend.sep1⟩,a.sepX⟩
theorem yW{k u o a c xs x y D t}(C:ROp u a c xs)(g:OnlyB k u o)(j:Blk u 36 k (al x y D t)):ROp o a c xs:=by
 obtain⟨p,d,v⟩:=C;refine⟨p,⟨d.ok,d.le,d.le',d.nil,fun m=> ?_⟩,v.keep (aw g j uv)⟩;obtain⟨b,n,e,l,h⟩:=d.at_ m;refine⟨b,n,e,ws l g.size,fun i q z B=> ?_⟩;have w:b≠k:=fun r=>by
  subst r;have f:=h 0 2 m t7;rw[j.cell]at f;have s:(opF xs p 0)[2]?=some (.slice (p 0).1 (xs.getD 0 op0).2.2.length (p 0).2):=rfl;rw[s]at f;have A:=List.mem_of_getElem? f;simp[al]at A
 rw[<-h i q z B];exact CP (g.block b l w)
theorem ID(g a n c l p w)(ev:IsRd w g a n c l p)(R)(b7:R=mdR l n p):
 Calls prog 96 #[.pointer (some ⟨g,0,none⟩)] w fun e w'=> ∃d,e= .returned (.tuple #[av d R.1,.agg (al R.2.1.1 R.2.1.2.1 R.2.1.2.2.1 R.2.1.2.2.2).toArray])/\OnlyB g w w'/\IsRd w' g a n c l R.2.2/\ODisk w.1.size w' d R.1:=by
 have e2:=ev.bs.byte p;have e5:=ev.lt;obtain⟨bf,a0⟩:=aa (w.alloc (.cells #[.slice none 0 0,.slice none 0 0] 35));obtain⟨Z,a1⟩:=aa (bf.alloc (.cells (al 0 0 0 0).toArray 36));have bC:Below w.1.size w bf:=by rw[a0];exact bAl _ _
 have bm:Below bf.1.size bf Z:=by rw[a1];exact bAl _ _
 have et:bf.1.size=w.1.size+1:=by rw[a0];simp
 have fZ:Z.1.size=w.1.size+1+1:=by rw[a1];simp[et]
 have bA:Below w.1.size w Z:=bC.trans (bm.mono bC.size);have a6:Blk Z 35 w.1.size [.slice none 0 0,.slice none 0 0]:=(by rw[a0];exact aq w _ _:Blk bf 35 w.1.size [.slice none 0 0,.slice none 0 0]).below bm;have ck:Blk Z 36 (w.1.size+1) (al 0 0 0 0):=by rw[a1,<-et];exact aq bf _ _
 have e9:=ev.below bA;go_enter func96,ntmps96;go_upto_region 1 with fail
 change Code.wp _ _ _ _ ((w.alloc (.cells #[.slice none 0 0,.slice none 0 0] 35)).alloc (.cells (al 0 0 0 0).toArray 36));rw[<-a0,<-a1];obtain⟨G,dp⟩:=aa (w.1.size+1);obtain⟨J,dl⟩:=aa w.1.size;rw[<-dp]at ck ⊢;rw[<-dl]at a6 ⊢;have an:Hid (w.1.size<=J/\J<G/\G<Z.1.size/\w.1.size<=Z.1.size):=⟨t7,t7,t7,bA.size⟩;have br:Hid (OnlyB g w Z/\Blk Z 35 J [.slice none 0 0,.slice none 0 0]/\Blk Z 36 G (al 0 0 0 0)):=⟨Below.onlyB bA g,a6,ck⟩;clear a0 a1 bC bm et fZ bA a6 ck dp dl;have eU:=cZ g a n c l p Z e9;clear e9;go_wp2_with fail;refine eU.mono ?_;rintro e cD ⟨rfl,aB,a9⟩;clear eU;obtain⟨k,bl⟩:=aa (l.getD p 0);unfold mdR at b7;rw[<-bl]at e2 b7 ⊢;clear bl;obtain⟨dI,f9⟩:=e2;obtain⟨cq,cb⟩:∃m:Nat,k%4=(m:Int):=⟨(k%4).toNat,t7⟩;obtain⟨T,eb⟩:∃m:Nat,k/16%4=(m:Int):=⟨(k/16%4).toNat,t7⟩;have fV:k.tmod 4=(cq:Int):=by rw[z6 dI,cb]
 have f4:k.tdiv 16=k/16:=y6 dI;have f5:(k/16).tmod 4=(T:Int):=by rw[z6 t7,eb]
 have f8:cq<=3:=t7;have f6:T<=3:=t7;obtain⟨M,e3⟩:∃M:Nat,M=8+cq*40:=⟨_,rfl⟩;rw[cb,eb]at b7;have fs:Hid (R=mdI l n (1+T) (iZ M,(1,0,2,0),rdP n p)):=by show R= _;rw[b7,e3];rfl
 have db:(4:Int)*(8+(cq:Int)*40)=((4*M:Nat):Int):=t7;have f3:8<=M/\M<=128:=t7;have cS:=BQ ((4*M:Nat):Int) cD;have ch:iS ((4*M:Nat):Int)=4*M:=by unfold iS;rw[BC t7];omega
 rw[ch]at cS;rw[<-db]at cS;have bc:Hid (OnlyB g Z cD/\IsRd cD g a n c l (rdP n p)):=⟨aB,a9⟩;clear b7 e3 cb eb aB a9 ch db;go_wp2_with fail;refine cS.mono ?_;rintro e A ⟨S,rfl,I,dU⟩;clear cS;generalize nH ((4:Int)*(8+(cq:Int)*40))=ga at*;obtain⟨ap,ak⟩:=aa (A.alloc (.cells (dkC S (bV (4*M))).toArray 35));obtain⟨q,a2⟩:=aa (ap.alloc (.cells (al 1 0 2 0).toArray 36));have ek:Below A.1.size A ap:=by rw[ak];exact bAl _ _
 have bn:Below ap.1.size ap q:=by rw[a2];exact bAl _ _
 have c1:ap.1.size=A.1.size+1:=by rw[ak];simp
 have f0:q.1.size=A.1.size+1+1:=by rw[a2];simp[c1]
 have cv:Below A.1.size A q:=ek.trans (bn.mono ek.size);have aX:Below cD.1.size cD q:=I.trans (cv.mono I.size);have dE:Blk q 35 A.1.size (dkC S (bV (4*M))):=(by rw[ak];exact aq A _ _:Blk ap 35 A.1.size (dkC S (bV (4*M)))).below bn;have a7:Blk q 36 (A.1.size+1) (al 1 0 2 0):=by rw[a2,<-c1];exact aq ap _ _
 have ce:g≠J/\g≠G:=by have:=an.out;omega
 have K:Hid (OnlyB g w q/\IsRd q g a n c l (rdP n p)/\Blk q 35 J [.slice none 0 0,.slice none 0 0]/\Blk q 36 G (al 0 0 0 0)/\RDisk q S (bV (4*M))):=⟨(br.out.1.trans bc.out.1).thenB aX (u9 an.out.2.2.2 bc.out.1.size),bc.out.2.below aX,(br.out.2.1.only bc.out.1 (DX ce.1)).below aX,(br.out.2.2.only bc.out.1 (DX ce.2)).below aX,(dU.below cv).reads⟩;have bP:Hid (Blk q 35 A.1.size (dkC S (bV (4*M)))/\Blk q 36 (A.1.size+1) (al 1 0 2 0)/\ap.1.size=A.1.size+1):=⟨dE,a7,c1⟩;have bS:Hid (G<A.1.size/\A.1.size+1<q.1.size):=⟨by have:=an.out;have:=bc.out.1.size;have:=I.size;omega,t7⟩;have fm:(prog.info? 35).map (·.size)=some (dkC S (bV (4*M))).toArray.size:=by rw[v7];exact eH _ _
 have b9:=IB;clear c1 f0 ek bn cv aX dE a7 ce I dU;unfold av;go_upto_region 3 with(refine bt rfl 35 _ _ rfl A #[.slice none 0 0,.slice none 0 0] (dkC S (bV (4*M))).toArray 35 rfl rfl fm rfl rfl ?_)
 change Code.wp _ _ _ _ (A.alloc (.cells (dkC S (bV (4*M))).toArray 35));rw[<-ak];go_upto_region 4 with(refine bt rfl 36 _ _ rfl ap (al 0 0 0 0).toArray (al 1 0 2 0).toArray 36 rfl rfl bj rfl rfl ?_)
 change Code.wp _ _ _ _ ((A.alloc (.cells (dkC S (bV (4*M))).toArray 35)).alloc (.cells (al 1 0 2 0).toArray 36));rw[<-ak,<-a2];clear ak a2 fm b9;obtain⟨sb,cg⟩:=aa (A.1.size+1);obtain⟨t,ca⟩:=aa A.1.size;have r:Hid (Blk q 35 t (dkC S (bV (4*M)))/\Blk q 36 sb (al 1 0 2 0)/\G<t/\t<sb/\sb<q.1.size):=by rw[cg,ca];exact⟨bP.out.1,bP.out.2.1,bS.out.1,t7,bS.out.2⟩
 rw[<-cg,<-ca];clear bP bS cg ca;have e6:=r.out.2.1;have d5:=pS 1 0 2 0 q;have cc:bG 1 0 2 0=true:=uv;rw[cc]at d5;go_wp2_with (refine BD rfl 36 _ rfl sb rfl 36 (al 1 0 2 0).toArray (0,0) _ e6 underlying36 rfl bj ?_);refine d5.mono ?_;rintro e cX ⟨fz,fD,rfl,d8,e7⟩;clear d5 e6 cc;have dW:OOp q.1.size cX fz fD (pwL 4 1 (ip 1 0 2 0)):=POps.rop e7;clear e7;have L:=bDr cX;have bs:Below q.1.size q cX.drew:=d8.trans (L.mono d8.size);have dX:=dW.below L;clear dW L d8;have e4:=sE;go_wp2_with fail;refine l7 (fun u=>(Instr.loadAt 35 (.pointer (some ⟨t,0,none⟩))).run prog u= .ok (.agg (dkC S (bV (4*M))).toArray) u) 5 uA ?_;generalize cX.drew=cL at*;have E:=aL (r.out.1.below bs);refine l8 0 (.agg (dkC S (bV (4*M))).toArray) E ?hy0 ?_
 case hy0=>exact fun u N=>bo (p:= .pointer (some ⟨t,0,none⟩)) rfl rfl N
 refine cK 1 ?_;refine cK 2 ?_;obtain⟨d6,a3⟩:=aa (cL.alloc (.cells #[.int .i64 2,.int .i64 0,.slice none 0 0] 157));have em:Below cL.1.size cL d6:=by rw[a3];exact bAl _ _
 have cT:Below q.1.size q d6:=bs.trans (em.mono bs.size);have d2:ROp d6 (some ⟨cL.1.size,0,none⟩) 1 [opS]:=by rw[a3];exact pM cL
 have d1:=dX.below em;have c7:=aL (r.out.1.below cT);refine eO 3 fun o f=> ?_;go_wp2_with fail;refine f.out _ _ (fun _=>by rw[<-a3];exact c7) ?_;rw[<-a3];clear f o a3 em dX E bs e4;have dk:(pwL 4 1 (ip 1 0 2 0)).length+[opS].length<=1048576:=by rw[gV];decide
 have eW:(pwL 4 1 (ip 1 0 2 0)).length=4:=gV _ _ _;refine eO 4 fun o f=> ?_;refine jc (so:= .tmp 33) (xo:= .tmp 35) d1 d2 dk cT.size rfl rfl rfl ?_;intro fB fM bb cW _ eV;have ag:Below q.1.size q bb:=cT.trans eV;refine f.out _ _ (fun _=>aL (r.out.1.below ag)) ?_;clear f o d1 d2 dk eV c7 cT;have bB:=mH S (bV (4*M)) fB fM (pwL 4 1 (ip 1 0 2 0)++[opS]) 5 bb (K.out.2.2.2.2.below ag) (sJ t7 t7) cW.reads;rw[u7]at bB;refine eO 5 fun o f=> ?_;go_wp2_with fail;refine bB.mono ?_;rintro e bE ⟨b1,f2,rfl,d9,cr⟩;clear bB cW;have b0:Below q.1.size q bE:=ag.trans (d9.mono ag.size);have c8:q.1.size<=bb.1.size:=ag.size;change ODisk bb.1.size bE b1 (iZ M)at cr;have c3:Hid (cu (bV (4*M)) (pwL 4 1 (ip 1 0 2 0)++[opS]) 5=iZ M):=rfl;rw[c3.out];have D:Hid (Below q.1.size q bE/\ODisk bb.1.size bE b1 (iZ M)/\q.1.size<=bb.1.size/\bb.1.size<=bE.1.size):=⟨b0,cr,c8,d9.size⟩;have dr:=r.out.1.below b0;have c2:dOk (iZ M):=yR t7 t7;generalize iZ M=aS at*;clear d9 cr ag b0 c8 c3;unfold av;go_wp2_with fail;refine goR f ?_;clear f o;refine cK 6 ?_;refine cK 7 ?_;refine cK 8 ?_;refine eO 9 fun o f=> ?_;refine bK (k:=t) (cs:=dkC b1 aS) dr rfl (gH _ _) (eH _ _) rfl rfl rfl (fun x F b=> ?_);refine goR f ?_;clear f o;refine l9 ?_;have a4:g≠t/\g<q.1.size/\w.1.size<=t:=by have gc:=an.out;have e1:=r.out.2.2;have fP:=K.out.1.size;omega
 have frB:OnlyB g w bE:=K.out.1.thenB D.out.1 K.out.1.size;have b4:OnlyB g w x:=frB.thenB (b.below a4.2.2 frB.size) t1;have c6:x.heap[g]?=q.heap[g]?:=(b.block g (ws a4.2.1 D.out.1.size) a4.1).trans (D.out.1.block g a4.2.1);obtain⟨ab,c9⟩:=aa bb.1.size;rw[<-c9]at D;have eL:Hid (MdV g a n c l w t sb J G ab (aS,(1,0,2,0),rdP n p) b1 x):=⟨b4,ev.only b4 (c6.trans K.out.2.1.box) K.out.2.1.at_,F,(r.out.2.1.below D.out.1).only b (by have:=r.out.2.2;omega),D.out.2.1.low (OnlyS.ofB b) (fun k bl e=>by have:=r.out.2.2;have:=D.out.2.2;omega),(K.out.2.2.1.below D.out.1).only b (by have:=r.out.2.2;have:=an.out;omega),(K.out.2.2.2.1.below D.out.1).only b (by have:=r.out.2.2;have:=an.out;omega),u9 D.out.2.2.2 b.size⟩;have i:Hid (w.1.size<=J/\J<G/\G<t/\t<sb/\sb<ab/\g<w.1.size):=⟨an.out.1,an.out.2.1,r.out.2.2.1,r.out.2.2.2.1,ws r.out.2.2.2.2 D.out.2.2.1,e5⟩;have eC:Hid (dOk aS):=c2;have H:Hid (IsRd w g a n c l p):=ev;clear a4 frB b4 c6 c9 F b dr D r K bc br an eW ev e5;clear c2;go_wp2_with fail;go_loopw [10] (fun cB wr=> ∃(j:Nat)(d:DV),cB= .int .i64 (j:Nat)/\j<=1+T/\MdV g a n c l w t sb J G ab (mdI l n j (aS,(1,0,2,0),rdP n p)) d wr) (fun cB _=>1+T-(intOf cB).toNat)
 case atStart=>exact⟨0,b1,rfl,u6 _,eL.out⟩
 case round=>
  obtain⟨j,d,rfl,gf,aA⟩:=hrel;obtain⟨c0,cj⟩:=aa wr;subst cj;clear eL;by_cases f7:j<1+T
  ·have ej:(j:Int)<1+(T:Int):=t7;have L:=bDr c0;have c5:Hid (mdI l n (j+1) (aS,(1,0,2,0),rdP n p)=fX l n (mdI l n j (aS,(1,0,2,0),rdP n p))):=rfl;have eK:Hid (dOk (mdI l n j (aS,(1,0,2,0),rdP n p)).1):=sK eC.out j;generalize mdI l n j (aS,(1,0,2,0),rdP n p)=s at*;have bd:Hid _:=aA.below L;clear L aA;obtain⟨ae,b5⟩:=aa (fG l n 40 s.2.2);obtain⟨U,ef⟩:=aa (upR s.1 s.2.1.1 s.2.1.2.1 s.2.1.2.2.1 s.2.1.2.2.2 ae.1);have ex:Hid _:=b5;have d4:Hid _:=ef;have af:Hid (ae.1.length<=1048576/\∀x∈ae.1,x.1.size<=1048575/\x.2.1.size<=1048575):=by
    have:=rF l n (l.getD s.2.2 0%((40+1:Nat):Int)).toNat (rdP n s.2.2) [] (fun x hx=>by cases hx);refine⟨?_,by show∀x∈ae.1,_;rw[b5];exact this.2⟩;have e1:=this.1;rw[b5];unfold fG;have fP:(l.getD s.2.2 0%((40+1:Nat):Int)).toNat<=41:=t7;simp only[zP]at e1;omega
   have c4:Hid (fX l n s=if U.2.2=0 then(cu s.1 U.1 U.1.length,U.2.1,ae.2)else(s.1,s.2.1,ae.2)):=by show fX l n s= _;rw[ef,b5];rfl
   clear b5 ef;go_upto_region 9 with fail
   go_cut [11,12,13] (fun fc fd fl eq=> ∃O ob C,fc= .slice O U.1.length ob/\fd= .pointer (some ⟨C,0,none⟩)/\fl= .int .i64 U.2.2/\ab<=C/\MdV g a n c l w t sb J G ab (s.1,s.2.1,ae.2) d eq/\ROp eq O ob U.1/\Blk eq 36 C (al U.2.1.1 U.2.1.2.1 U.2.1.2.2.1 U.2.1.2.2.2))
   case first=>
    refine az (fun u=>(Instr.loadAt 35 (.pointer (some ⟨t,0,none⟩))).run prog u= .ok (.agg (dkC d s.1).toArray) u/\(Instr.loadAt 36 (.pointer (some ⟨sb,0,none⟩))).run prog u= .ok (.agg (al s.2.1.1 s.2.1.2.1 s.2.1.2.2.1 s.2.1.2.2.2).toArray) u) (fun _=>false) uA ?_;generalize c0.drew=v0 at*;have E:=u2 (aL bd.out.dk) (aN bd.out.su);refine aM 0 (.agg (dkC d s.1).toArray) E ?hb0 ?_
    case hb0=>exact fun u N=>bo (p:= .pointer (some ⟨t,0,none⟩)) rfl rfl N.1
    refine aM 1 (.agg (al s.2.1.1 s.2.1.2.1 s.2.1.2.2.1 s.2.1.2.2.2).toArray) E ?hb1 ?_
    case hb1=>exact fun u N=>bo (p:= .pointer (some ⟨sb,0,none⟩)) rfl rfl N.2
    refine ai 2 E ?_;clear E;refine fQ 3 9 uA rfl rfl (fun o f=> ?oB) (fun o f=> ?oA)
    case' cW=>
     rw[BC (show Region.wanted _ _=true from rfl)];obtain⟨v1,bu⟩:=aa (v0.alloc (.cells #[.int .i64 0,.int .i64 0,.int .i64 0,.int .i64 0] 36));have bC:Below v0.1.size v0 v1:=by rw[bu];exact bAl _ _
     have cP:Hid _:=bd.out.below bC;have cn:Blk v1 36 v0.1.size (al 0 0 0 0):=by rw[bu];exact aq v0 _ _
     have P:Hid (ab<=v0.1.size):=bd.out.hB;go_wp2_with fail;rw[<-bu];refine f.out _ _ (fun _=>⟨aL cP.out.dk,aN cP.out.su⟩) ?_;obtain⟨C,W⟩:=aa v0.1.size;rw[<-W]at cn P ⊢;have eM:Hid (Blk v1 36 C (al 0 0 0 0)):=cn;clear f o bu bC W cn;refine ah 3 fun o f=> ?_;have bX:=oQ g a n c l s.2.2 40 v1 cP.out.rdr t7 ae ex.out;go_wp2_with fail;refine bX.mono ?_;rintro e v3 ⟨bg,bk,rfl,aB,a9,a8⟩;clear bX;have ac:Hid _:=MdV.reader cP.out aB a9 i.out;have bz:Hid (RRow v3 3 bg ae.1.length bk (chF ae.1)):=a8.reads;have eR:Hid (Blk v3 36 C (al 0 0 0 0)):=Blk.only eM.out aB (by have:=i.out;have:=P.out;omega);clear a8 aB a9;go_wp2_with fail;refine f.out _ _ (fun _=>⟨aL ac.out.dk,aN ac.out.su⟩) ?_;clear f o;refine ah 4 fun o f=> ?_;have aT:=lD d s.1 s.2.1.1 s.2.1.2.1 s.2.1.2.2.1 s.2.1.2.2.2 bg bk ae.1 v3 ac.out.od.reads bz.out af.out.1 af.out.2 U d4.out;go_wp2_with fail;refine aT.mono ?_;rintro e ad ⟨O,ob,rfl,I,X⟩;clear aT;have h:Hid _:=ac.out.below I;have cz:Hid (ROp ad O ob U.1):=X;have bT:Hid (Blk ad 36 C (al 0 0 0 0)):=Blk.below eR.out I;clear I X;go_wp2_with fail;refine f.out _ _ (fun _=>⟨aL h.out.dk,aN h.out.su⟩) ?_;clear f o;refine ai 5 (⟨aL h.out.dk,aN h.out.su⟩) ?_;refine ai 6 (⟨aL h.out.dk,aN h.out.su⟩) ?_;refine ai 7 (⟨aL h.out.dk,aN h.out.su⟩) ?_;refine ai 8 (⟨aL h.out.dk,aN h.out.su⟩) ?_
    case' oB=>
     rw[BC (show Region.wanted _ _=true from rfl)];have bX:=oQ g a n c l s.2.2 40 v0 bd.out.rdr t7 ae ex.out;go_wp2_with fail;refine bX.mono ?_;rintro e v3 ⟨bg,bk,rfl,aB,a9,a8⟩;clear bX;have ac:Hid _:=MdV.reader bd.out aB a9 i.out;have bz:Hid (RRow v3 3 bg ae.1.length bk (chF ae.1)):=a8.reads;clear a8 aB a9;go_wp2_with fail;refine f.out _ _ (fun _=>⟨aL ac.out.dk,aN ac.out.su⟩) ?_;clear f o;refine fQ 4 9 uA rfl rfl (fun o f=> ?oC) (fun o f=> ?oD)
     case' oD=>
      rw[BC (show Region.wanted _ _=true from rfl)];obtain⟨v2,bv⟩:=aa (v3.alloc (.cells #[.int .i64 0,.int .i64 0,.int .i64 0,.int .i64 0] 36));have bm:Below v3.1.size v3 v2:=by rw[bv];exact bAl _ _
      have cR:Hid _:=ac.out.below bm;have cp:Blk v2 36 v3.1.size (al 0 0 0 0):=by rw[bv];exact aq v3 _ _
      have P:Hid (ab<=v3.1.size):=ac.out.hB;have e8:Hid (RRow v2 3 bg ae.1.length bk (chF ae.1)):=bz.out.below bm;go_wp2_with fail;rw[<-bv];refine f.out _ _ (fun _=>⟨aL cR.out.dk,aN cR.out.su⟩) ?_;obtain⟨C,W⟩:=aa v3.1.size;rw[<-W]at cp P ⊢;have eN:Hid (Blk v2 36 C (al 0 0 0 0)):=cp;clear f o bv bm W cp;refine ah 4 fun o f=> ?_;have aT:=lD d s.1 s.2.1.1 s.2.1.2.1 s.2.1.2.2.1 s.2.1.2.2.2 bg bk ae.1 v2 cR.out.od.reads e8.out af.out.1 af.out.2 U d4.out;go_wp2_with fail;refine aT.mono ?_;rintro e ad ⟨O,ob,rfl,I,X⟩;clear aT;have h:Hid _:=cR.out.below I;have cz:Hid (ROp ad O ob U.1):=X;have bT:Hid (Blk ad 36 C (al 0 0 0 0)):=Blk.below eN.out I;clear I X;go_wp2_with fail;refine f.out _ _ (fun _=>⟨aL h.out.dk,aN h.out.su⟩) ?_;clear f o;refine ai 5 (⟨aL h.out.dk,aN h.out.su⟩) ?_;refine ai 6 (⟨aL h.out.dk,aN h.out.su⟩) ?_;refine ai 7 (⟨aL h.out.dk,aN h.out.su⟩) ?_;refine ai 8 (⟨aL h.out.dk,aN h.out.su⟩) ?_
     case' oC=>
      rw[BC (show Region.wanted _ _=true from rfl)];have aT:=lD d s.1 s.2.1.1 s.2.1.2.1 s.2.1.2.2.1 s.2.1.2.2.2 bg bk ae.1 v3 ac.out.od.reads bz.out af.out.1 af.out.2 U d4.out;go_wp2_with fail;refine aT.mono ?_;rintro e ba ⟨O,ob,rfl,I,X⟩;clear aT;have Y:Hid _:=ac.out.below I;have fa:Hid (ROp ba O ob U.1):=X;clear I X;go_wp2_with fail;refine f.out _ _ (fun _=>⟨aL Y.out.dk,aN Y.out.su⟩) ?_;clear f o;refine ai 5 (⟨aL Y.out.dk,aN Y.out.su⟩) ?_;refine ai 6 (⟨aL Y.out.dk,aN Y.out.su⟩) ?_;refine ai 7 (⟨aL Y.out.dk,aN Y.out.su⟩) ?_;refine ai 8 (⟨aL Y.out.dk,aN Y.out.su⟩) ?_;refine ah 9 fun o f=> ?_;obtain⟨ad,bx⟩:=aa (ba.alloc (.cells #[.int .i64 0,.int .i64 0,.int .i64 0,.int .i64 0] 36));have bn:Below ba.1.size ba ad:=by rw[bx];exact bAl _ _
      have h:Hid _:=Y.out.below bn;have am:Blk ad 36 ba.1.size (al 0 0 0 0):=by rw[bx];exact aq ba _ _
      have P:Hid (ab<=ba.1.size):=Y.out.hB;have cz:Hid (ROp ad O ob U.1):=ROp.below fa.out bn;go_wp2_with fail;rw[<-bx];refine f.out _ _ (fun _=>⟨aL h.out.dk,aN h.out.su⟩) ?_;obtain⟨C,W⟩:=aa ba.1.size;rw[<-W]at am P ⊢;have bT:Hid (Blk ad 36 C (al 0 0 0 0)):=am;clear f o bx bn W am
    all_goals
     refine ah 10 fun o f=> ?_;go_wp2_with fail;refine f.out _ _ (fun _=>⟨aL h.out.dk,aN h.out.su⟩) ?_;clear f o;have cV:=bT.out;refine ah 11 fun o f=> ?_;refine bK (k:=C) (cs:=al U.2.1.1 U.2.1.2.1 U.2.1.2.2.1 U.2.1.2.2.2) cV rfl (fe _ _ _ _) bj rfl rfl rfl (fun V F b=> ?_);have d7:Below w.1.size ad V:=b.below (by have:=i.out;have:=P.out;omega) h.out.fr.size;have f1:=h.out.fr.thenB d7 t1;have z:Hid (MdV g a n c l w t sb J G ab (s.1,s.2.1,ae.2) d V):=⟨f1,H.out.only f1 (by rw[d7.block g i.out.2.2.2.2.2];exact h.out.rdr.box) h.out.rdr.at_,h.out.dk.only b (by have:=i.out;have:=P.out;omega),h.out.su.only b (by have:=i.out;have:=P.out;omega),sZ h.out.od b cV,h.out.r1.only b (by have:=i.out;have:=P.out;omega),h.out.r2.only b (by have:=i.out;have:=P.out;omega),u9 h.out.hB b.size⟩;have cA:Hid (ROp V O ob U.1):=yW cz.out b cV;have bW:Hid (Blk V 36 C (al U.2.1.1 U.2.1.2.1 U.2.1.2.2.1 U.2.1.2.2.2)):=F;refine ao f ?_ (fun _=>⟨aL z.out.dk,aN z.out.su⟩);clear f o F b d7 f1 cV;refine ah 12 fun o f=> ?_;go_wp2_with fail;refine aU f ?_ (fun _=>⟨aL z.out.dk,aN z.out.su⟩);clear f o;go_wp2_with fail
     go_meet
     exact⟨O,ob,C,rfl,rfl,rfl,P.out,z.out,cA.out,bW.out⟩
   case rest=>
   clear bd;obtain⟨O,ob,C,rfl,rfl,rfl,dc,da,cf,b6⟩:=hcut;obtain⟨V,cj⟩:=aa wc;subst cj;have P:Hid (ab<=C):=dc;have z:Hid _:=da;have cA:Hid (ROp V O ob U.1):=cf;have bW:Hid (Blk V 36 C (al U.2.1.1 U.2.1.2.1 U.2.1.2.2.1 U.2.1.2.2.2)):=b6;clear dc da cf b6;by_cases b8:U.2.2=0
   ·have bR:Hid (fX l n s=(cu s.1 U.1 U.1.length,U.2.1,ae.2)):=by show fX l n s= _;rw[c4.out,BC b8]
    have dD:=z.out.dk;have bB:=mH d s.1 O ob U.1 (U.1.length:Nat) V z.out.od.reads eK.out cA.out;rw[b8];go_wp2_with (refine BD rfl 35 _ rfl t rfl 35 (dkC d s.1).toArray (0,0) _ dD underlying35 rfl (eH _ _) ?_);refine bB.mono ?_;rintro e en ⟨b2,gb,rfl,Q,dV⟩;clear bB dD;generalize cu s.1 U.1 (U.1.length:Nat)=cM at*;have dF:=z.out.dk.below Q;unfold av;go_upto_region 12 with(refine C2 rfl fun _ f=>bK (k:=t) (cs:=dkC b2 cM) dF rfl (gH _ _) (eH _ _) rfl rfl rfl (fun es F b=>f _ _ ?_))
    have am:Blk es 36 C (al U.2.1.1 U.2.1.2.1 U.2.1.2.2.1 U.2.1.2.2.2):=Blk.only (Blk.below bW.out Q) b (by have:=i.out;have:=P.out;omega);have a7:=(z.out.su.below Q).only b (by have:=i.out;omega);have K:Hid (Blk es 35 t (dkC b2 cM)/\OnlyB t en es/\Below V.1.size V en/\ODisk V.1.size en b2 cM):=⟨F,b,Q,dV⟩;clear F b Q dV dF;go_wp2_with (first|(refine BD rfl 36 _ rfl C rfl 36 (al U.2.1.1 U.2.1.2.1 U.2.1.2.2.1 U.2.1.2.2.2).toArray (0,0) _ am underlying36 rfl bj ?_)|(refine C2 rfl fun _ f=>bK (k:=sb) (cs:=al U.2.1.1 U.2.1.2.1 U.2.1.2.2.1 U.2.1.2.2.2) a7 rfl (fe _ _ _ _) bj rfl rfl rfl (fun fn a5 y=>f _ _ ?_)));have b:=K.out.2.1;have Q:=K.out.2.2.1;have bZ:Below w.1.size V fn:=(Q.mono z.out.fr.size).trans ((b.below (by have:=i.out;omega) (u9 z.out.fr.size Q.size)).trans (y.below (by have:=i.out;omega) (u9 z.out.fr.size (u9 Q.size b.size))));have ea:=z.out.fr.thenB bZ t1;have fo:Hid (MdV g a n c l w t sb J G ab (cM,U.2.1,ae.2) b2 fn):=⟨ea,H.out.only ea (by rw[bZ.block g i.out.2.2.2.2.2];exact z.out.rdr.box) z.out.rdr.at_,K.out.1.only y (by have:=i.out;omega),a5,((K.out.2.2.2.mono z.out.hB).low (OnlyS.ofB b) (fun k bl e=>by have:=i.out;omega)).low (OnlyS.ofB y) (fun k bl e=>by have:=i.out;omega),((z.out.r1.below Q).only b (by have:=i.out;omega)).only y (by have:=i.out;omega),((z.out.r2.below Q).only b (by have:=i.out;omega)).only y (by have:=i.out;omega),u9 z.out.hB (u9 Q.size (u9 b.size y.size))⟩;clear b Q bZ ea a5 y am a7;go_wp2_with fail;go_roundw
    case rel=>exact⟨j+1,b2,by go_num,t7,by rw[c5.out,bR.out];exact fo.out⟩
    case measure=>simp[intOf];omega
   ·have bR:Hid (fX l n s=(s.1,s.2.1,ae.2)):=by show fX l n s= _;rw[c4.out,BX b8]
    go_wp2_with fail;go_roundw
    case rel=>exact⟨j+1,d,by go_num,t7,by rw[c5.out,bR.out];exact z.out⟩
    case measure=>simp[intOf];omega
  ·have dd:j=1+T:=t7;have ej:¬(j:Int)<1+(T:Int):=t7;rw[dd,<-fs.out]at aA;have eB:Hid _:=aA;have kd:=aA.dk;have ks:=aA.su;have a6:=aA.r1;have ck:=aA.r2;clear aA dd;go_wp2_with fail;have L:=bDr c0;have B:Hid _:=eB.out.below L;clear eB kd ks a6 ck L;refine az (fun u=>(Instr.loadAt 35 (.pointer (some ⟨t,0,none⟩))).run prog u= .ok (.agg (dkC d R.1).toArray) u/\(Instr.loadAt 36 (.pointer (some ⟨sb,0,none⟩))).run prog u= .ok (.agg (al R.2.1.1 R.2.1.2.1 R.2.1.2.2.1 R.2.1.2.2.2).toArray) u) (fun _=>false) uA ?_;generalize c0.drew=ft at*;have E:=u2 (aL B.out.dk) (aN B.out.su);refine aM 0 (.agg (dkC d R.1).toArray) E ?ha0 ?_
   case ha0=>exact fun u N=>bo (p:= .pointer (some ⟨t,0,none⟩)) rfl rfl N.1
   refine aM 1 (.agg (al R.2.1.1 R.2.1.2.1 R.2.1.2.2.1 R.2.1.2.2.2).toArray) E ?ha1 ?_
   case ha1=>exact fun u N=>bo (p:= .pointer (some ⟨sb,0,none⟩)) rfl rfl N.2
   have a6:=B.out.r1;refine ah 2 fun o f=> ?_;refine bK (k:=J) (cs:=dkC d R.1) a6 rfl (gH _ _) (eH _ _) rfl rfl rfl (fun V F b=> ?_);have cl:=B.out.dk.only b (by have:=i.out;omega);have cm:=B.out.su.only b (by have:=i.out;omega);have dq:=B.out.r2.only b (by have:=i.out;omega);refine ao f ?_ (fun _=>⟨aL cl,aN cm⟩);clear f o E;refine ah 3 fun o f=> ?_;refine bK (k:=G) (cs:=al R.2.1.1 R.2.1.2.1 R.2.1.2.2.1 R.2.1.2.2.2) dq rfl (fe _ _ _ _) bj rfl rfl rfl (fun bF a5 y=> ?_);have ds:=cl.only y (by have:=i.out;omega);have dS:=cm.only y (by have:=i.out;omega);have dP:=F.only y (by have:=i.out;omega);have bY:Below w.1.size ft bF:=(b.below i.out.1 B.out.fr.size).trans (y.below (by have:=i.out;omega) (u9 B.out.fr.size b.size));have b3:=B.out.fr.thenB bY t1;have d3:Hid (Blk bF 35 J (dkC d R.1)/\Blk bF 36 G (al R.2.1.1 R.2.1.2.1 R.2.1.2.2.1 R.2.1.2.2.2)/\OnlyB g w bF/\IsRd bF g a n c l R.2.2/\ODisk w.1.size bF d R.1):=⟨dP,a5,b3,H.out.only b3 (by rw[bY.block g i.out.2.2.2.2.2];exact B.out.rdr.box) B.out.rdr.at_,((B.out.od.low (OnlyS.ofB b) (fun k bl e=>by have:=i.out;omega)).low (OnlyS.ofB y) (fun k bl e=>by have:=i.out;omega)).mono (by have:=i.out;omega)⟩;refine aU f ?_ (fun _=>⟨aL ds,aN dS⟩);clear f o cl cm dq ds dS dP bY b3 F b a5 y a6 B;go_wp2_with fail;refine BB (v:= .tuple #[.agg (dkC d R.1).toArray,.agg (al R.2.1.1 R.2.1.2.1 R.2.1.2.2.1 R.2.1.2.2.2).toArray]) ?_ rfl ?_
   ·exact yV results96 _ _ J G 35 36 (dkC d R.1).toArray (al R.2.1.1 R.2.1.2.1 R.2.1.2.2.1 R.2.1.2.2.2).toArray _ _ rfl d3.out.1 underlying35 rfl (eH _ _) rfl d3.out.2.1 underlying36 rfl bj
   ·exact⟨d,rfl,d3.out.2.2⟩
def lG(K:DK)(z:Nat):DK:=⟨z,K.S,K.m,K.At,K.D⟩
theorem RDisk.cut{w d K l}(f:RDisk w d K)(a:l<=K.n):RDisk w d (lG K l):=
 ⟨⟨u9 a f.safe.le,f.safe.le',f.safe.nil,fun k=>by
  obtain⟨b,g,e,j,h⟩:=f.safe.at_ (ws k a);exact⟨b,g,e,j,fun i c=>h i (ws c a)⟩,fun i c=>f.safe.data i (ws c a)⟩,f.pend⟩
theorem ODisk.keep{B u b d K}(a:ODisk B u d K)(f:KeepT 56 u b)(g:KeepT 133 u b)(e:KeepT 5 u b):ODisk B b d K:=
 ⟨⟨cw a.safe.row f,fun i c=>cw (a.safe.data i c) e,a.safe.byte,a.safe.sep1⟩,⟨cw a.pend.row g,fun i c=>cw (a.pend.data i c) e,a.pend.byte,a.pend.sep1⟩,a.sepX⟩
theorem yX{B k u c d K xs}(e:ODisk B u d K)(b:OnlyB k u c)(a:Blk u 35 k xs):ODisk B c d K:=
 e.keep (aw b a uv) (aw b a uv) (aw b a uv)
structure AnV(g:Nat)(a:Option Addr)(n c:Nat)(l:List Int)(w:World)(db sb rd rs:Nat)(s:MdS)(d:DV)(K0:DK)(u:World):Prop where
 fr:OnlyB g w u
 rdr:IsRd u g a n c l s.2.2
 dk:Blk u 35 db (dkC d s.1)
 su:Blk u 36 sb (al s.2.1.1 s.2.1.2.1 s.2.1.2.2.1 s.2.1.2.2.2)
 od:ODisk w.1.size u d K0
 r1:Blk u 35 rd [.slice none 0 0,.slice none 0 0]
 r2:Blk u 36 rs (al 0 0 0 0)
 cut:s.1=lG K0 s.1.n
 le:s.1.n<=K0.n
abbrev AnN(w:World)(g db sb rd rs:Nat):Prop:=w.1.size<=rd/\rd<rs/\rs<db/\db<sb/\g<w.1.size
section
variable {g:Nat} {a:Option Addr} {n c:Nat} {l:List Int} {w:World} {db sb rd rs:Nat} {s:MdS} {d:DV} {K0:DK} {u u':World}
theorem AnV.below(e:AnV g a n c l w db sb rd rs s d K0 u)(b:Below u.1.size u u'):AnV g a n c l w db sb rd rs s d K0 u':=
 ⟨e.fr.thenB b e.fr.size,e.rdr.below b,e.dk.below b,e.su.below b,e.od.below b,e.r1.below b,e.r2.below b,e.cut,e.le⟩
theorem AnV.putS(b:AnV g a n c l w db sb rd rs s d K0 u){m}(h:IsRd w g a n c l m)(i:AnN w g db sb rd rs)(e:OnlyB sb u u')(t)(j:Blk u' 36 sb (al t.1 t.2.1 t.2.2.1 t.2.2.2)):AnV g a n c l w db sb rd rs (s.1,t,s.2.2) d K0 u':=by
 obtain⟨o,p,q,r,k⟩:=i;have f:=e.below t7 b.fr.size;have f1:=b.fr.thenB f t1;exact⟨f1,h.only f1 (by rw[f.block g k];exact b.rdr.box) b.rdr.at_,b.dk.only e t7,j,sZ b.od e b.su,b.r1.only e t7,b.r2.only e t7,b.cut,b.le⟩
theorem AnV.putD(f:AnV g a n c l w db sb rd rs s d K0 u){t}(k:IsRd w g a n c l t)(m:AnN w g db sb rd rs)(b:OnlyB db u u'){h K' e}(p:Blk u' 35 db (dkC h K'))(j:ODisk w.1.size u h e)(o:K'=lG e K'.n)(q:K'.n<=e.n):AnV g a n c l w db sb rd rs (K',s.2) h e u':=by
 obtain⟨v,x,y,z,r⟩:=m;have i:=b.below t7 f.fr.size;have f1:=f.fr.thenB i t1;exact⟨f1,k.only f1 (by rw[i.block g r];exact f.rdr.box) f.rdr.at_,p,f.su.only b t7,yX j b f.dk,f.r1.only b t7,f.r2.only b t7,o,q⟩
theorem IE{B g w n c l}(b:Own B w (some ⟨g,0,none⟩) n c l)(i u):Own B (w.setCell ⟨g,i,none⟩ (.int .u8 u)) (some ⟨g,0,none⟩) n c (l.set i u):=by
 have a:=(World.ownsRow.stored b i (.int .u8 u)).1;rw[ze]at a;exact a
theorem IF{l}(c:IsB l)(i){u}(a:0<=u)(b:u<256):IsB (l.set i u):=fun j=>by
 rw[x3,A2];split
 ·split
  ·exact⟨a,b⟩
  ·exact⟨uB,uB⟩
 ·have:=c j;rwa [x3]at this
theorem IG{x}(a:0<=x)(b:x<256):0<=bits .xor .u8 x 1/\bits .xor .u8 x 1<256:=by
 rw[u8_xor x 1 a b t7 t7];have:x.toNat^^^(1:Int).toNat<2^8:=Nat.xor_lt_two_pow t7 uv;omega
theorem ODisk.byte{B b K}(f:ODisk B u d K){i j}(p:i<K.n)(o:d.sA i=some ⟨b,0,none⟩){x}(A:0<=x)(C:x<256):
 ODisk B (u.setCell ⟨b,j,none⟩ (.int .u8 x)) d ⟨K.n,upd K.S i ((K.S i).set j x),K.m,K.At,K.D⟩:=by
 have h:=f.safe.data i p;have z:=(World.ownsRow.stored (o▸h:Own B u (some ⟨b,0,none⟩) (d.sN i) (d.sC i) (K.S i)) j (.int .u8 x)).2;have g:(Value.slice (d.sA i) (d.sN i) (d.sC i)).ownBlock=some b:=by rw[o];rfl
 have l:∀{e s n:Nat}{v:Value}{xs:List Value},u.ownsRow B e s v n xs->v.ownBlock≠some b->(u.setCell ⟨b,j,none⟩ (.int .u8 x)).ownsRow B e s v n xs:=fun{e s n v xs} m r=>by
  refine World.ownsRow.kept m z ?_;cases y:v.ownBlock with
  |none=>exact u5 rfl
  |some k=>exact u4 fun a=>r (by rw[y];exact a)
 have t:∀{e s n:Nat}{v:Value}{xs:List Value},u.ownsRow B e s v n xs->e≠5->(u.setCell ⟨b,j,none⟩ (.int .u8 x)).ownsRow B e s v n xs:=fun m w=>l m (fun a=>jR m h w b a g);refine⟨⟨t f.safe.row uv,fun q c=> ?_,fun q c=> ?_,f.safe.sep1⟩,⟨t f.pend.row uv,fun q c=>l (f.pend.data q c) (fun a=>f.sepX i q p c b g a),f.pend.byte,f.pend.sep1⟩,f.sepX⟩
 ·show Own B _ (d.sA q) (d.sN q) (d.sC q) (upd K.S i _ q);by_cases e:q=i
  ·subst e;rw[be,o];exact IE (o▸h) j x
  ·rw[bw _ _ _ e];refine l (f.safe.data q c) (fun a=> ?_);rcases Nat.lt_or_gt_of_ne e with hlt|hgt
   ·exact f.safe.sep1 q i hlt p b a g
   ·exact f.safe.sep1 i q hgt c b g a
 ·show IsB (upd K.S i _ q);by_cases e:q=i
  ·subst e;rw[be];exact IF (f.safe.byte q c) j A C
  ·rw[bw _ _ _ e];exact f.safe.byte q c
theorem pz{e s B n t k b:Nat}{v xs d}(m:u.ownsRow B e s v n xs)(c:v.ownBlock=some b)(i:Blk u t k d)(h:e≠t):k≠b:=fun f=>by
 subst f;rcases m.2 with⟨rfl,_⟩|⟨g,j,l,rfl,_,a,_⟩
 ·cases c
 ·cases c;rw[show u.heap[g]?=some (.cells d.toArray t (0,0))from i]at a;injection a with a
  injection a with _ h2 _
  exact h h2.symm
theorem AnV.flip(h:AnV g a n c l w db sb rd rs s d K0 u){B}(t:IsRd w g a n c l B)(v:AnN w g db sb rd rs){b i j}(r:i<K0.n)(o:d.sA i=some ⟨b,0,none⟩){x}(C:0<=x)(D:x<256)(z:s.1.n=K0.n):
 AnV g a n c l w db sb rd rs (⟨K0.n,upd K0.S i ((K0.S i).set j x),K0.m,K0.At,K0.D⟩,s.2) d ⟨K0.n,upd K0.S i ((K0.S i).set j x),K0.m,K0.At,K0.D⟩ (u.setCell ⟨b,j,none⟩ (.int .u8 x)):=by
 obtain⟨E,F,G,H,A⟩:=v;have e:=h.od.safe.data i r;have f:(Value.slice (d.sA i) (d.sN i) (d.sC i)).ownBlock=some b:=by rw[o];rfl
 have p:=(BS e b f).1;have k:=ax u b j (.int .u8 x);have m:=k.below p h.fr.size;have f1:=h.fr.thenB m t1;have q:dkC d s.1=dkC d ⟨K0.n,upd K0.S i ((K0.S i).set j x),K0.m,K0.At,K0.D⟩:=by
  have y:=h.cut;unfold dkC;rw[y];show [Value.slice d.sa s.1.n d.sc,Value.slice d.pa K0.m d.pc]= _;rw[z]
 refine⟨f1,t.only f1 (by rw[m.block g A];exact h.rdr.box) h.rdr.at_,?_,h.su.only k (pz e f h.su uv),h.od.byte r o C D,h.r1.only k (pz e f h.r1 uv),h.r2.only k (pz e f h.r2 uv),rfl,t1⟩;rw[<-q];exact h.dk.only k (pz e f h.dk uv)
theorem OOp.grown{B d a b c e xs f}(r:OOp d u a c xs)(l:OOp B u b e f)(g:u.grownBy u' (Value.slice b f.length e).ownBlock)(h:∀k,(Value.slice b f.length e).ownBlock=some k->k<d):OOp d u' a c xs:=by
 obtain⟨p,i,o⟩:=r;obtain⟨q,n,_⟩:=l;refine⟨p,World.ownsRow.kept i g ?_,o.keep (bD n g uv)⟩;cases m:(Value.slice a xs.length c).ownBlock with
 |none=>exact u5 rfl
 |some k=>exact u4 fun j=>by have s:=(BS i k m).1;have t:=h k j.symm;omega
theorem OOp.lt{B b a c}(f:OOp B u b a c):∀k,(Value.slice b c.length a).ownBlock=some k->k<u.1.size:=fun k d=>by
 obtain⟨g,e,_⟩:=f;exact(BS e k d).2
theorem II{ls}(a:∀x∈ls,0<=x/\x<256):IsB ls:=fun i=>by
 rw[x3];cases hx:ls[i]? with
 |none=>exact⟨uB,uB⟩
 |some x=>exact a x (List.mem_of_getElem? hx)
theorem iI(u:World)(ls)(a:∀x∈ls,0<=x/\x<256)(b:ls.length<=1000):Bs (u.alloc (.cells (ob ls).toArray 5)) (some ⟨u.1.size,0,none⟩) ls.length ls.length ls:=(eI u ls _ rfl t7 0 (u6 _)).bs (II a)
theorem IJ(v):(dB v).length<=1048576:=by
 unfold dB
 repeat' split
 all_goals decide
theorem IK:prog.built 36 [(0,.int .i64 1),(1,.int .i64 2),(2,.int .i64 5)]=some (al 1 2 5 0).toArray:=uA
end
