import Derived.Test.YtglbanolhhjjiaaGreatDoorFo48
namespace Go.Proofs.YtglbanolhhjjiaaGreatDoor
open Go.Proofs.Tryz
open Go.RowKit
set_option linter.unusedVariables false
set_option maxRecDepth 100000
set_option maxHeartbeats 32000000
theorem yV{P:Program}{j:Func}{p q:Tmp}{f c:TypeId}(h:j.results=#[.cell p f,.cell q c])(a:Array Value)(w:World)(g e:Nat)(t s:TypeId)(cs b:Array Value)(d i:TypeDesc)
 (y:a.getD p undef= .pointer (some ⟨g,0,none⟩))(v:w.heap[g]?=some (.cells cs t (0,0)))(A:P.underlying f=some d)(u:(match d with| .struct _| .array _ _=>true|_=>false)=true)(x:(P.info? f).map (·.size)=some cs.size)
 (z:a.getD q undef= .pointer (some ⟨e,0,none⟩))(l:w.heap[e]?=some (.cells b s (0,0)))(r:P.underlying c=some i)(k:(match i with| .struct _| .array _ _=>true|_=>false)=true)(m:(P.info? c).map (·.size)=some b.size):
 (results j a).run P w= .ok (.tuple #[.agg cs,.agg b]) w:=by
 have n:a[p]?.getD undef= .pointer (some ⟨g,0,none⟩):=by simpa using y
 have o:a[q]?.getD undef= .pointer (some ⟨e,0,none⟩):=by simpa using z
 simp[results,h,n,o,asAddr,run_loadVar_row w g t f cs (0,0) d v A u x,run_loadVar_row w e s c b (0,0) i l r k m]
def dkC(d:DV)(K:DK):List Value:=[.slice d.sa K.n d.sc,.slice d.pa K.m d.pc]
theorem gH(d K):∀v∈dkC d K,v.oneCell'=true:=by simp[dkC,Value.oneCell']
theorem eH(d K):(prog.info? 35).map (·.size)=some (dkC d K).length:=gD
theorem aL{u k d K}(a:Blk u 35 k (dkC d K)):(Instr.loadAt 35 (.pointer (some ⟨k,0,none⟩))).run prog u= .ok (.agg (dkC d K).toArray) u:=sy a
theorem IB:prog.built 36 [(0,.int .i64 1),(2,.int .i64 2)]=some (al 1 0 2 0).toArray:=vk
structure MdV(g:Nat)(a:Option Addr)(n c:Nat)(l:List Int)(w:World)(db sb rd rs Bx:Nat)(s:MdS)(d:DV)(u:World):Prop where
 fr:OnlyB g w u
 rdr:IsRd u g a n c l s.2.2
 dk:Blk u 35 db (dkC d s.1)
 su:Blk u 36 sb (al s.2.1.1 s.2.1.2.1 s.2.1.2.2.1 s.2.1.2.2.2)
 od:ODisk Bx u d s.1
 r1:Blk u 35 rd [.slice none 0 0,.slice none 0 0]
 r2:Blk u 36 rs (al 0 0 0 0)
 hB:Bx<=u.1.size
theorem MdV.below{g a n c l w f sb i j e s d u k}(h:MdV g a n c l w f sb i j e s d u)(b:Below u.1.size u k):MdV g a n c l w f sb i j e s d k:=
 ⟨h.fr.thenB b h.fr.size,h.rdr.below b,h.dk.below b,h.su.below b,h.od.below b,h.r1.below b,h.r2.below b,wg h.hB b.size⟩
theorem MdV.reader{g a n c l w f sb i j m s d u o q}(h:MdV g a n c l w f sb i j m s d u)(b:OnlyB g u o)(p:IsRd o g a n c l q)(r:w.1.size<=i/\i<j/\j<f/\f<sb/\sb<m/\g<w.1.size):MdV g a n c l w f sb i j m (s.1,s.2.1,q) d o:=
 ⟨h.fr.trans b,p,h.dk.only b uA,h.su.only b uA,h.od.low (OnlyS.ofB b) (fun k t e=>by omega),h.r1.only b uA,h.r2.only b uA,wg h.hB b.size⟩
theorem sZ{B k u e d K xs}(h:ODisk B u d K)(b:OnlyB k u e)(a:Blk u 36 k xs):ODisk B e d K:=
 ⟨⟨cw h.safe.row (aw b a uB),fun i c=>cw (h.safe.data i c) (aw b a uB),h.safe.byte,h.safe.sep1⟩,⟨cw h.pend.row (aw b a uB),fun i c=>cw (h.pend.data i c) (aw b a uB),h.pend.byte,h.pend.sep1⟩,h.sepX⟩
theorem yW{k u p a c xs x y D t}(h:ROp u a c xs)(g:OnlyB k u p)(l:Blk u 36 k (al x y D t)):ROp p a c xs:=by
 obtain⟨r,d,w⟩:=h;refine⟨r,⟨d.ok,d.le,d.le',d.nil,fun n=> ?_⟩,w.keep (aw g l uB)⟩;obtain⟨b,o,e,m,j⟩:=d.at_ n;refine⟨b,o,e,wQ m g.size,fun i q A C=> ?_⟩;have z:b≠k:=fun s=>by
  subst s;have f:=j 0 2 n uA;rw[l.cell]at f;have v:(opF xs r 0)[2]?=some (.slice (r 0).1 (xs.getD 0 op0).2.2.length (r 0).2):=rfl;rw[v]at f;have B:=List.mem_of_getElem? f;simp[al]at B
 rw[<-j i q A C];exact C5 (g.block b m z)
theorem ID(g a n c l p w)(h:IsRd w g a n c l p)(R)(b8:R=mdR l n p):
 Calls prog 96 #[.pointer (some ⟨g,0,none⟩)] w fun e w'=> ∃d,e= .returned (.tuple #[av d R.1,.agg (al R.2.1.1 R.2.1.2.1 R.2.1.2.2.1 R.2.1.2.2.2).toArray])/\OnlyB g w w'/\IsRd w' g a n c l R.2.2/\ODisk w.1.size w' d R.1:=by
 have e2:=h.bs.byte p;have e5:=h.lt;obtain⟨bg,a1⟩:=aa (w.alloc (.cells #[.slice none 0 0,.slice none 0 0] 35));obtain⟨ab,a2⟩:=aa (bg.alloc (.cells (al 0 0 0 0).toArray 36));have bE:Below w.1.size w bg:=by rw[a1];exact bAl _ _
 have bn:Below bg.1.size bg ab:=by rw[a2];exact bAl _ _
 have ev:bg.1.size=w.1.size+1:=by rw[a1];simp
 have fZ:ab.1.size=w.1.size+1+1:=by rw[a2];simp[ev]
 have bB:Below w.1.size w ab:=bE.trans (bn.mono bE.size);have a7:Blk ab 35 w.1.size [.slice none 0 0,.slice none 0 0]:=(by rw[a1];exact aq w _ _:Blk bg 35 w.1.size [.slice none 0 0,.slice none 0 0]).below bn;have cl:Blk ab 36 (w.1.size+1) (al 0 0 0 0):=by rw[a2,<-ev];exact aq bg _ _
 have e9:=h.below bB;go_enter func96,ntmps96;go_upto_region 1 with fail
 change Code.wp _ _ _ _ ((w.alloc (.cells #[.slice none 0 0,.slice none 0 0] 35)).alloc (.cells (al 0 0 0 0).toArray 36));rw[<-a1,<-a2];obtain⟨I,dq⟩:=aa (w.1.size+1);obtain⟨K,dp⟩:=aa w.1.size;rw[<-dq]at cl ⊢;rw[<-dp]at a7 ⊢;have ap:Hid (w.1.size<=K/\K<I/\I<ab.1.size/\w.1.size<=ab.1.size):=⟨uA,uA,uA,bB.size⟩;have bs:Hid (OnlyB g w ab/\Blk ab 35 K [.slice none 0 0,.slice none 0 0]/\Blk ab 36 I (al 0 0 0 0)):=⟨Below.onlyB bB g,a7,cl⟩;clear a1 a2 bE bn ev fZ bB a7 cl dq dp;have eU:=cZ g a n c l p ab e9;clear e9;go_wp2_with fail;refine eU.mono ?_;rintro e cL ⟨rfl,aS,ba⟩;clear eU;obtain⟨k,bm⟩:=aa (l.getD p 0);unfold mdR at b8;rw[<-bm]at e2 b8 ⊢;clear bm;obtain⟨dI,f8⟩:=e2;obtain⟨cr,cc⟩:∃m:Nat,k%4=(m:Int):=⟨(k%4).toNat,uA⟩;obtain⟨T,ef⟩:∃m:Nat,k/16%4=(m:Int):=⟨(k/16%4).toNat,uA⟩;have fV:k.tmod 4=(cr:Int):=by rw[A3 dI,cc]
 have f3:k.tdiv 16=k/16:=z2 dI;have f4:(k/16).tmod 4=(T:Int):=by rw[A3 uA,ef]
 have f7:cr<=3:=uA;have f5:T<=3:=uA;obtain⟨M,e3⟩:∃M:Nat,M=8+cr*40:=⟨_,rfl⟩;rw[cc,ef]at b8;have fs:Hid (R=mdI l n (1+T) (iZ M,(1,0,2,0),rdP n p)):=by show R= _;rw[b8,e3];rfl
 have dc:(4:Int)*(8+(cr:Int)*40)=((4*M:Nat):Int):=uA;have f2:8<=M/\M<=128:=uA;have cT:=BQ ((4*M:Nat):Int) cL;have cj:iS ((4*M:Nat):Int)=4*M:=by unfold iS;rw[B4 uA];omega
 rw[cj]at cT;rw[<-dc]at cT;have bd:Hid (OnlyB g ab cL/\IsRd cL g a n c l (rdP n p)):=⟨aS,ba⟩;clear b8 e3 cc ef aS ba cj dc;go_wp2_with fail;refine cT.mono ?_;rintro e B ⟨V,rfl,J,dV⟩;clear cT;generalize nH ((4:Int)*(8+(cr:Int)*40))=f9 at*;obtain⟨aA,am⟩:=aa (B.alloc (.cells (dkC V (bV (4*M))).toArray 35));obtain⟨r,a3⟩:=aa (aA.alloc (.cells (al 1 0 2 0).toArray 36));have em:Below B.1.size B aA:=by rw[am];exact bAl _ _
 have br:Below aA.1.size aA r:=by rw[a3];exact bAl _ _
 have c2:aA.1.size=B.1.size+1:=by rw[am];simp
 have f0:r.1.size=B.1.size+1+1:=by rw[a3];simp[c2]
 have cz:Below B.1.size B r:=em.trans (br.mono em.size);have a0:Below cL.1.size cL r:=J.trans (cz.mono J.size);have dF:Blk r 35 B.1.size (dkC V (bV (4*M))):=(by rw[am];exact aq B _ _:Blk aA 35 B.1.size (dkC V (bV (4*M)))).below br;have a8:Blk r 36 (B.1.size+1) (al 1 0 2 0):=by rw[a3,<-c2];exact aq aA _ _
 have cf:g≠K/\g≠I:=by have:=ap.out;omega
 have L:Hid (OnlyB g w r/\IsRd r g a n c l (rdP n p)/\Blk r 35 K [.slice none 0 0,.slice none 0 0]/\Blk r 36 I (al 0 0 0 0)/\RDisk r V (bV (4*M))):=⟨(bs.out.1.trans bd.out.1).thenB a0 (wg ap.out.2.2.2 bd.out.1.size),bd.out.2.below a0,(bs.out.2.1.only bd.out.1 (ED cf.1)).below a0,(bs.out.2.2.only bd.out.1 (ED cf.2)).below a0,(dV.below cz).reads⟩;have bR:Hid (Blk r 35 B.1.size (dkC V (bV (4*M)))/\Blk r 36 (B.1.size+1) (al 1 0 2 0)/\aA.1.size=B.1.size+1):=⟨dF,a8,c2⟩;have bT:Hid (I<B.1.size/\B.1.size+1<r.1.size):=⟨by have:=ap.out;have:=bd.out.1.size;have:=J.size;omega,uA⟩;have fm:(prog.info? 35).map (·.size)=some (dkC V (bV (4*M))).toArray.size:=by rw[wA];exact eH _ _
 have ca:=IB;clear c2 f0 em br cz a0 dF a8 cf J dV;unfold av;go_upto_region 3 with(refine bt rfl 35 _ _ rfl B #[.slice none 0 0,.slice none 0 0] (dkC V (bV (4*M))).toArray 35 rfl rfl fm rfl rfl ?_)
 change Code.wp _ _ _ _ (B.alloc (.cells (dkC V (bV (4*M))).toArray 35));rw[<-am];go_upto_region 4 with(refine bt rfl 36 _ _ rfl aA (al 0 0 0 0).toArray (al 1 0 2 0).toArray 36 rfl rfl bj rfl rfl ?_)
 change Code.wp _ _ _ _ ((B.alloc (.cells (dkC V (bV (4*M))).toArray 35)).alloc (.cells (al 1 0 2 0).toArray 36));rw[<-am,<-a3];clear am a3 fm ca;obtain⟨sb,ch⟩:=aa (B.1.size+1);obtain⟨y,cb⟩:=aa B.1.size;have t:Hid (Blk r 35 y (dkC V (bV (4*M)))/\Blk r 36 sb (al 1 0 2 0)/\I<y/\y<sb/\sb<r.1.size):=by rw[ch,cb];exact⟨bR.out.1,bR.out.2.1,bT.out.1,uA,bT.out.2⟩
 rw[<-ch,<-cb];clear bR bT ch cb;have e6:=t.out.2.1;have d6:=pS 1 0 2 0 r;have ce:bG 1 0 2 0=true:=uB;rw[ce]at d6;go_wp2_with (refine B5 rfl 36 _ rfl sb rfl 36 (al 1 0 2 0).toArray (0,0) _ e6 underlying36 rfl bj ?_);refine d6.mono ?_;rintro e c0 ⟨fz,fD,rfl,d9,e7⟩;clear d6 e6 ce;have dX:OOp r.1.size c0 fz fD (pwL 4 1 (ip 1 0 2 0)):=POps.rop e7;clear e7;have N:=bDr c0;have bu:Below r.1.size r c0.drew:=d9.trans (N.mono d9.size);have d1:=dX.below N;clear dX N d9;have e4:=sE;go_wp2_with fail;refine l7 (fun u=>(Instr.loadAt 35 (.pointer (some ⟨y,0,none⟩))).run prog u= .ok (.agg (dkC V (bV (4*M))).toArray) u) 5 vk ?_;generalize c0.drew=cM at*;have F:=aL (t.out.1.below bu);refine l8 0 (.agg (dkC V (bV (4*M))).toArray) F ?hy0 ?_
 case hy0=>exact fun u O=>bo (p:= .pointer (some ⟨y,0,none⟩)) rfl rfl O
 refine cK 1 ?_;refine cK 2 ?_;obtain⟨d7,a4⟩:=aa (cM.alloc (.cells #[.int .i64 2,.int .i64 0,.slice none 0 0] 157));have en:Below cM.1.size cM d7:=by rw[a4];exact bAl _ _
 have cV:Below r.1.size r d7:=bu.trans (en.mono bu.size);have d3:ROp d7 (some ⟨cM.1.size,0,none⟩) 1 [opS]:=by rw[a4];exact pM cM
 have d2:=d1.below en;have c8:=aL (t.out.1.below cV);refine eO 3 fun q f=> ?_;go_wp2_with fail;refine f.out _ _ (fun _=>by rw[<-a4];exact c8) ?_;rw[<-a4];clear f q a4 en d1 F bu e4;have dl:(pwL 4 1 (ip 1 0 2 0)).length+[opS].length<=1048576:=by rw[gV];decide
 have eW:(pwL 4 1 (ip 1 0 2 0)).length=4:=gV _ _ _;refine eO 4 fun q f=> ?_;refine jc (so:= .tmp 33) (xo:= .tmp 35) d2 d3 dl cV.size rfl rfl rfl ?_;intro fB fM bc cX _ eV;have ak:Below r.1.size r bc:=cV.trans eV;refine f.out _ _ (fun _=>aL (t.out.1.below ak)) ?_;clear f q d2 d3 dl eV c8 cV;have bC:=mH V (bV (4*M)) fB fM (pwL 4 1 (ip 1 0 2 0)++[opS]) 5 bc (L.out.2.2.2.2.below ak) (sJ uA uA) cX.reads;rw[wb]at bC;refine eO 5 fun q f=> ?_;go_wp2_with fail;refine bC.mono ?_;rintro e bF ⟨b2,cnt,rfl,ea,cv⟩;clear bC cX;have b1:Below r.1.size r bF:=ak.trans (ea.mono ak.size);have c9:r.1.size<=bc.1.size:=ak.size;change ODisk bc.1.size bF b2 (iZ M)at cv;have c4:Hid (cu (bV (4*M)) (pwL 4 1 (ip 1 0 2 0)++[opS]) 5=iZ M):=rfl;rw[c4.out];have E:Hid (Below r.1.size r bF/\ODisk bc.1.size bF b2 (iZ M)/\r.1.size<=bc.1.size/\bc.1.size<=bF.1.size):=⟨b1,cv,c9,ea.size⟩;have ds:=t.out.1.below b1;have c3:dOk (iZ M):=yR uA uA;generalize iZ M=aT at*;clear ea cv ak b1 c9 c4;unfold av;go_wp2_with fail;refine goR f ?_;clear f q;refine cK 6 ?_;refine cK 7 ?_;refine cK 8 ?_;refine eO 9 fun q f=> ?_;refine bK (k:=y) (cs:=dkC b2 aT) ds rfl (gH _ _) (eH _ _) rfl rfl rfl (fun x G b=> ?_);refine goR f ?_;clear f q;refine l9 ?_;have a5:g≠y/\g<r.1.size/\w.1.size<=y:=by have gb:=ap.out;have e1:=t.out.2.2;have fP:=L.out.1.size;omega
 have frB:OnlyB g w bF:=L.out.1.thenB E.out.1 L.out.1.size;have b5:OnlyB g w x:=frB.thenB (b.below a5.2.2 frB.size) t6;have c7:x.heap[g]?=r.heap[g]?:=(b.block g (wQ a5.2.1 E.out.1.size) a5.1).trans (E.out.1.block g a5.2.1);obtain⟨ac,da⟩:=aa bc.1.size;rw[<-da]at E;have eL:Hid (MdV g a n c l w y sb K I ac (aT,(1,0,2,0),rdP n p) b2 x):=⟨b5,h.only b5 (c7.trans L.out.2.1.box) L.out.2.1.at_,G,(t.out.2.1.below E.out.1).only b (by have:=t.out.2.2;omega),E.out.2.1.low (OnlyS.ofB b) (fun k bm e=>by have:=t.out.2.2;have:=E.out.2.2;omega),(L.out.2.2.1.below E.out.1).only b (by have:=t.out.2.2;have:=ap.out;omega),(L.out.2.2.2.1.below E.out.1).only b (by have:=t.out.2.2;have:=ap.out;omega),wg E.out.2.2.2 b.size⟩;have o:Hid (w.1.size<=K/\K<I/\I<y/\y<sb/\sb<ac/\g<w.1.size):=⟨ap.out.1,ap.out.2.1,t.out.2.2.1,t.out.2.2.2.1,wQ t.out.2.2.2.2 E.out.2.2.1,e5⟩;have eC:Hid (dOk aT):=c3;have H:Hid (IsRd w g a n c l p):=h;clear a5 frB b5 c7 da G b ds E t L bd bs ap eW h e5;clear c3;go_wp2_with fail;go_loopw [10] (fun cD wr=> ∃(j:Nat)(d:DV),cD= .int .i64 (j:Nat)/\j<=1+T/\MdV g a n c l w y sb K I ac (mdI l n j (aT,(1,0,2,0),rdP n p)) d wr) (fun cD _=>1+T-(intOf cD).toNat)
 case atStart=>exact⟨0,b2,rfl,wa _,eL.out⟩
 case round=>
  obtain⟨j,d,rfl,gc,aB⟩:=hrel;obtain⟨c1,ck⟩:=aa wr;subst ck;clear eL;by_cases f6:j<1+T
  ·have ek:(j:Int)<1+(T:Int):=uA;have N:=bDr c1;have c6:Hid (mdI l n (j+1) (aT,(1,0,2,0),rdP n p)=fX l n (mdI l n j (aT,(1,0,2,0),rdP n p))):=rfl;have eK:Hid (dOk (mdI l n j (aT,(1,0,2,0),rdP n p)).1):=sK eC.out j;generalize mdI l n j (aT,(1,0,2,0),rdP n p)=s at*;have bf:Hid _:=aB.below N;clear N aB;obtain⟨af,b6⟩:=aa (fG l n 40 s.2.2);obtain⟨U,ej⟩:=aa (upR s.1 s.2.1.1 s.2.1.2.1 s.2.1.2.2.1 s.2.1.2.2.2 af.1);have ex:Hid _:=b6;have d5:Hid _:=ej;have ag:Hid (af.1.length<=1048576/\∀x∈af.1,x.1.size<=1048575/\x.2.1.size<=1048575):=by
    have:=rF l n (l.getD s.2.2 0%((40+1:Nat):Int)).toNat (rdP n s.2.2) [] (fun x hx=>by cases hx);refine⟨?_,by show∀x∈af.1,_;rw[b6];exact this.2⟩;have e1:=this.1;rw[b6];unfold fG;have fP:(l.getD s.2.2 0%((40+1:Nat):Int)).toNat<=41:=uA;simp only[AO]at e1;omega
   have c5:Hid (fX l n s=if U.2.2=0 then(cu s.1 U.1 U.1.length,U.2.1,af.2)else(s.1,s.2.1,af.2)):=by show fX l n s= _;rw[ej,b6];rfl
   clear b6 ej;go_upto_region 9 with fail
   go_cut [11,12,13] (fun fc fd fl es=> ∃P ob D,fc= .slice P U.1.length ob/\fd= .pointer (some ⟨D,0,none⟩)/\fl= .int .i64 U.2.2/\ac<=D/\MdV g a n c l w y sb K I ac (s.1,s.2.1,af.2) d es/\ROp es P ob U.1/\Blk es 36 D (al U.2.1.1 U.2.1.2.1 U.2.1.2.2.1 U.2.1.2.2.2))
   case first=>
    refine az (fun u=>(Instr.loadAt 35 (.pointer (some ⟨y,0,none⟩))).run prog u= .ok (.agg (dkC d s.1).toArray) u/\(Instr.loadAt 36 (.pointer (some ⟨sb,0,none⟩))).run prog u= .ok (.agg (al s.2.1.1 s.2.1.2.1 s.2.1.2.2.1 s.2.1.2.2.2).toArray) u) (fun _=>false) vk ?_;generalize c1.drew=v0 at*;have F:=vJ (aL bf.out.dk) (aN bf.out.su);refine aM 0 (.agg (dkC d s.1).toArray) F ?hb0 ?_
    case hb0=>exact fun u O=>bo (p:= .pointer (some ⟨y,0,none⟩)) rfl rfl O.1
    refine aM 1 (.agg (al s.2.1.1 s.2.1.2.1 s.2.1.2.2.1 s.2.1.2.2.2).toArray) F ?hb1 ?_
    case hb1=>exact fun u O=>bo (p:= .pointer (some ⟨sb,0,none⟩)) rfl rfl O.2
    refine ai 2 F ?_;clear F;refine fQ 3 9 vk rfl rfl (fun q f=> ?oB) (fun q f=> ?oA)
    case' oA=>
     rw[B4 (show Region.wanted _ _=true from rfl)];obtain⟨v1,bv⟩:=aa (v0.alloc (.cells #[.int .i64 0,.int .i64 0,.int .i64 0,.int .i64 0] 36));have bE:Below v0.1.size v0 v1:=by rw[bv];exact bAl _ _
     have cR:Hid _:=bf.out.below bE;have cp:Blk v1 36 v0.1.size (al 0 0 0 0):=by rw[bv];exact aq v0 _ _
     have Q:Hid (ac<=v0.1.size):=bf.out.hB;go_wp2_with fail;rw[<-bv];refine f.out _ _ (fun _=>⟨aL cR.out.dk,aN cR.out.su⟩) ?_;obtain⟨D,X⟩:=aa v0.1.size;rw[<-X]at cp Q ⊢;have eM:Hid (Blk v1 36 D (al 0 0 0 0)):=cp;clear f q bv bE X cp;refine ah 3 fun q f=> ?_;have bY:=oQ g a n c l s.2.2 40 v1 cR.out.rdr uA af ex.out;go_wp2_with fail;refine bY.mono ?_;rintro e v3 ⟨bk,bl,rfl,aS,ba,a9⟩;clear bY;have ad:Hid _:=MdV.reader cR.out aS ba o.out;have bA:Hid (RRow v3 3 bk af.1.length bl (chF af.1)):=a9.reads;have eR:Hid (Blk v3 36 D (al 0 0 0 0)):=Blk.only eM.out aS (by have:=o.out;have:=Q.out;omega);clear a9 aS ba;go_wp2_with fail;refine f.out _ _ (fun _=>⟨aL ad.out.dk,aN ad.out.su⟩) ?_;clear f q;refine ah 4 fun q f=> ?_;have aX:=lD d s.1 s.2.1.1 s.2.1.2.1 s.2.1.2.2.1 s.2.1.2.2.2 bk bl af.1 v3 ad.out.od.reads bA.out ag.out.1 ag.out.2 U d5.out;go_wp2_with fail;refine aX.mono ?_;rintro e ae ⟨P,ob,rfl,J,Y⟩;clear aX;have i:Hid _:=ad.out.below J;have cA:Hid (ROp ae P ob U.1):=Y;have bW:Hid (Blk ae 36 D (al 0 0 0 0)):=Blk.below eR.out J;clear J Y;go_wp2_with fail;refine f.out _ _ (fun _=>⟨aL i.out.dk,aN i.out.su⟩) ?_;clear f q;refine ai 5 (⟨aL i.out.dk,aN i.out.su⟩) ?_;refine ai 6 (⟨aL i.out.dk,aN i.out.su⟩) ?_;refine ai 7 (⟨aL i.out.dk,aN i.out.su⟩) ?_;refine ai 8 (⟨aL i.out.dk,aN i.out.su⟩) ?_
    case' oB=>
     rw[B4 (show Region.wanted _ _=true from rfl)];have bY:=oQ g a n c l s.2.2 40 v0 bf.out.rdr uA af ex.out;go_wp2_with fail;refine bY.mono ?_;rintro e v3 ⟨bk,bl,rfl,aS,ba,a9⟩;clear bY;have ad:Hid _:=MdV.reader bf.out aS ba o.out;have bA:Hid (RRow v3 3 bk af.1.length bl (chF af.1)):=a9.reads;clear a9 aS ba;go_wp2_with fail;refine f.out _ _ (fun _=>⟨aL ad.out.dk,aN ad.out.su⟩) ?_;clear f q;refine fQ 4 9 vk rfl rfl (fun q f=> ?oC) (fun q f=> ?oD)
     case' oD=>
      rw[B4 (show Region.wanted _ _=true from rfl)];obtain⟨v2,bx⟩:=aa (v3.alloc (.cells #[.int .i64 0,.int .i64 0,.int .i64 0,.int .i64 0] 36));have bn:Below v3.1.size v3 v2:=by rw[bx];exact bAl _ _
      have cS:Hid _:=ad.out.below bn;have cq:Blk v2 36 v3.1.size (al 0 0 0 0):=by rw[bx];exact aq v3 _ _
      have Q:Hid (ac<=v3.1.size):=ad.out.hB;have e8:Hid (RRow v2 3 bk af.1.length bl (chF af.1)):=bA.out.below bn;go_wp2_with fail;rw[<-bx];refine f.out _ _ (fun _=>⟨aL cS.out.dk,aN cS.out.su⟩) ?_;obtain⟨D,X⟩:=aa v3.1.size;rw[<-X]at cq Q ⊢;have eN:Hid (Blk v2 36 D (al 0 0 0 0)):=cq;clear f q bx bn X cq;refine ah 4 fun q f=> ?_;have aX:=lD d s.1 s.2.1.1 s.2.1.2.1 s.2.1.2.2.1 s.2.1.2.2.2 bk bl af.1 v2 cS.out.od.reads e8.out ag.out.1 ag.out.2 U d5.out;go_wp2_with fail;refine aX.mono ?_;rintro e ae ⟨P,ob,rfl,J,Y⟩;clear aX;have i:Hid _:=cS.out.below J;have cA:Hid (ROp ae P ob U.1):=Y;have bW:Hid (Blk ae 36 D (al 0 0 0 0)):=Blk.below eN.out J;clear J Y;go_wp2_with fail;refine f.out _ _ (fun _=>⟨aL i.out.dk,aN i.out.su⟩) ?_;clear f q;refine ai 5 (⟨aL i.out.dk,aN i.out.su⟩) ?_;refine ai 6 (⟨aL i.out.dk,aN i.out.su⟩) ?_;refine ai 7 (⟨aL i.out.dk,aN i.out.su⟩) ?_;refine ai 8 (⟨aL i.out.dk,aN i.out.su⟩) ?_
     case' oC=>
      rw[B4 (show Region.wanted _ _=true from rfl)];have aX:=lD d s.1 s.2.1.1 s.2.1.2.1 s.2.1.2.2.1 s.2.1.2.2.2 bk bl af.1 v3 ad.out.od.reads bA.out ag.out.1 ag.out.2 U d5.out;go_wp2_with fail;refine aX.mono ?_;rintro e bb ⟨P,ob,rfl,J,Y⟩;clear aX;have Z:Hid _:=ad.out.below J;have fa:Hid (ROp bb P ob U.1):=Y;clear J Y;go_wp2_with fail;refine f.out _ _ (fun _=>⟨aL Z.out.dk,aN Z.out.su⟩) ?_;clear f q;refine ai 5 (⟨aL Z.out.dk,aN Z.out.su⟩) ?_;refine ai 6 (⟨aL Z.out.dk,aN Z.out.su⟩) ?_;refine ai 7 (⟨aL Z.out.dk,aN Z.out.su⟩) ?_;refine ai 8 (⟨aL Z.out.dk,aN Z.out.su⟩) ?_;refine ah 9 fun q f=> ?_;obtain⟨ae,bz⟩:=aa (bb.alloc (.cells #[.int .i64 0,.int .i64 0,.int .i64 0,.int .i64 0] 36));have br:Below bb.1.size bb ae:=by rw[bz];exact bAl _ _
      have i:Hid _:=Z.out.below br;have an:Blk ae 36 bb.1.size (al 0 0 0 0):=by rw[bz];exact aq bb _ _
      have Q:Hid (ac<=bb.1.size):=Z.out.hB;have cA:Hid (ROp ae P ob U.1):=ROp.below fa.out br;go_wp2_with fail;rw[<-bz];refine f.out _ _ (fun _=>⟨aL i.out.dk,aN i.out.su⟩) ?_;obtain⟨D,X⟩:=aa bb.1.size;rw[<-X]at an Q ⊢;have bW:Hid (Blk ae 36 D (al 0 0 0 0)):=an;clear f q bz br X an
    all_goals
     refine ah 10 fun q f=> ?_;go_wp2_with fail;refine f.out _ _ (fun _=>⟨aL i.out.dk,aN i.out.su⟩) ?_;clear f q;have cW:=bW.out;refine ah 11 fun q f=> ?_;refine bK (k:=D) (cs:=al U.2.1.1 U.2.1.2.1 U.2.1.2.2.1 U.2.1.2.2.2) cW rfl (fe _ _ _ _) bj rfl rfl rfl (fun W G b=> ?_);have d8:Below w.1.size ae W:=b.below (by have:=o.out;have:=Q.out;omega) i.out.fr.size;have f1:=i.out.fr.thenB d8 t6;have A:Hid (MdV g a n c l w y sb K I ac (s.1,s.2.1,af.2) d W):=⟨f1,H.out.only f1 (by rw[d8.block g o.out.2.2.2.2.2];exact i.out.rdr.box) i.out.rdr.at_,i.out.dk.only b (by have:=o.out;have:=Q.out;omega),i.out.su.only b (by have:=o.out;have:=Q.out;omega),sZ i.out.od b cW,i.out.r1.only b (by have:=o.out;have:=Q.out;omega),i.out.r2.only b (by have:=o.out;have:=Q.out;omega),wg i.out.hB b.size⟩;have cB:Hid (ROp W P ob U.1):=yW cA.out b cW;have bX:Hid (Blk W 36 D (al U.2.1.1 U.2.1.2.1 U.2.1.2.2.1 U.2.1.2.2.2)):=G;refine ao f ?_ (fun _=>⟨aL A.out.dk,aN A.out.su⟩);clear f q G b d8 f1 cW;refine ah 12 fun q f=> ?_;go_wp2_with fail;refine aU f ?_ (fun _=>⟨aL A.out.dk,aN A.out.su⟩);clear f q;go_wp2_with fail
     go_meet
     exact⟨P,ob,D,rfl,rfl,rfl,Q.out,A.out,cB.out,bX.out⟩
   case rest=>
   clear bf;obtain⟨P,ob,D,rfl,rfl,rfl,dd,db,cg,b7⟩:=hcut;obtain⟨W,ck⟩:=aa wc;subst ck;have Q:Hid (ac<=D):=dd;have A:Hid _:=db;have cB:Hid (ROp W P ob U.1):=cg;have bX:Hid (Blk W 36 D (al U.2.1.1 U.2.1.2.1 U.2.1.2.2.1 U.2.1.2.2.2)):=b7;clear dd db cg b7;by_cases b9:U.2.2=0
   ·have bS:Hid (fX l n s=(cu s.1 U.1 U.1.length,U.2.1,af.2)):=by show fX l n s= _;rw[c5.out,B4 b9]
    have dE:=A.out.dk;have bC:=mH d s.1 P ob U.1 (U.1.length:Nat) W A.out.od.reads eK.out cB.out;rw[b9];go_wp2_with (refine B5 rfl 35 _ rfl y rfl 35 (dkC d s.1).toArray (0,0) _ dE underlying35 rfl (eH _ _) ?_);refine bC.mono ?_;rintro e eq ⟨b3,ga,rfl,S,dW⟩;clear bC dE;generalize cu s.1 U.1 (U.1.length:Nat)=cP at*;have kdP:=A.out.dk.below S;unfold av;go_upto_region 12 with(refine DR rfl fun _ f=>bK (k:=y) (cs:=dkC b3 cP) kdP rfl (gH _ _) (eH _ _) rfl rfl rfl (fun et G b=>f _ _ ?_))
    have an:Blk et 36 D (al U.2.1.1 U.2.1.2.1 U.2.1.2.2.1 U.2.1.2.2.2):=Blk.only (Blk.below bX.out S) b (by have:=o.out;have:=Q.out;omega);have a8:=(A.out.su.below S).only b (by have:=o.out;omega);have L:Hid (Blk et 35 y (dkC b3 cP)/\OnlyB y eq et/\Below W.1.size W eq/\ODisk W.1.size eq b3 cP):=⟨G,b,S,dW⟩;clear G b S dW kdP;go_wp2_with (first|(refine B5 rfl 36 _ rfl D rfl 36 (al U.2.1.1 U.2.1.2.1 U.2.1.2.2.1 U.2.1.2.2.2).toArray (0,0) _ an underlying36 rfl bj ?_)|(refine DR rfl fun _ f=>bK (k:=sb) (cs:=al U.2.1.1 U.2.1.2.1 U.2.1.2.2.1 U.2.1.2.2.2) a8 rfl (fe _ _ _ _) bj rfl rfl rfl (fun fn a6 z=>f _ _ ?_)));have b:=L.out.2.1;have S:=L.out.2.2.1;have b0:Below w.1.size W fn:=(S.mono A.out.fr.size).trans ((b.below (by have:=o.out;omega) (wg A.out.fr.size S.size)).trans (z.below (by have:=o.out;omega) (wg A.out.fr.size (wg S.size b.size))));have eb:=A.out.fr.thenB b0 t6;have fo:Hid (MdV g a n c l w y sb K I ac (cP,U.2.1,af.2) b3 fn):=⟨eb,H.out.only eb (by rw[b0.block g o.out.2.2.2.2.2];exact A.out.rdr.box) A.out.rdr.at_,L.out.1.only z (by have:=o.out;omega),a6,((L.out.2.2.2.mono A.out.hB).low (OnlyS.ofB b) (fun k bm e=>by have:=o.out;omega)).low (OnlyS.ofB z) (fun k bm e=>by have:=o.out;omega),((A.out.r1.below S).only b (by have:=o.out;omega)).only z (by have:=o.out;omega),((A.out.r2.below S).only b (by have:=o.out;omega)).only z (by have:=o.out;omega),wg A.out.hB (wg S.size (wg b.size z.size))⟩;clear b S b0 eb a6 z an a8;go_wp2_with fail;go_roundw
    case rel=>exact⟨j+1,b3,by go_num,uA,by rw[c6.out,bS.out];exact fo.out⟩
    case measure=>simp[intOf];omega
   ·have bS:Hid (fX l n s=(s.1,s.2.1,af.2)):=by show fX l n s= _;rw[c5.out,CH b9]
    go_wp2_with fail;go_roundw
    case rel=>exact⟨j+1,d,by go_num,uA,by rw[c6.out,bS.out];exact A.out⟩
    case measure=>simp[intOf];omega
  ·have dk:j=1+T:=uA;have ek:¬(j:Int)<1+(T:Int):=uA;rw[dk,<-fs.out]at aB;have eB:Hid _:=aB;have kd:=aB.dk;have ks:=aB.su;have a7:=aB.r1;have cl:=aB.r2;clear aB dk;go_wp2_with fail;have N:=bDr c1;have C:Hid _:=eB.out.below N;clear eB kd ks a7 cl N;refine az (fun u=>(Instr.loadAt 35 (.pointer (some ⟨y,0,none⟩))).run prog u= .ok (.agg (dkC d R.1).toArray) u/\(Instr.loadAt 36 (.pointer (some ⟨sb,0,none⟩))).run prog u= .ok (.agg (al R.2.1.1 R.2.1.2.1 R.2.1.2.2.1 R.2.1.2.2.2).toArray) u) (fun _=>false) vk ?_;generalize c1.drew=ft at*;have F:=vJ (aL C.out.dk) (aN C.out.su);refine aM 0 (.agg (dkC d R.1).toArray) F ?ha0 ?_
   case ha0=>exact fun u O=>bo (p:= .pointer (some ⟨y,0,none⟩)) rfl rfl O.1
   refine aM 1 (.agg (al R.2.1.1 R.2.1.2.1 R.2.1.2.2.1 R.2.1.2.2.2).toArray) F ?ha1 ?_
   case ha1=>exact fun u O=>bo (p:= .pointer (some ⟨sb,0,none⟩)) rfl rfl O.2
   have a7:=C.out.r1;refine ah 2 fun q f=> ?_;refine bK (k:=K) (cs:=dkC d R.1) a7 rfl (gH _ _) (eH _ _) rfl rfl rfl (fun W G b=> ?_);have cm:=C.out.dk.only b (by have:=o.out;omega);have cn:=C.out.su.only b (by have:=o.out;omega);have dr:=C.out.r2.only b (by have:=o.out;omega);refine ao f ?_ (fun _=>⟨aL cm,aN cn⟩);clear f q F;refine ah 3 fun q f=> ?_;refine bK (k:=I) (cs:=al R.2.1.1 R.2.1.2.1 R.2.1.2.2.1 R.2.1.2.2.2) dr rfl (fe _ _ _ _) bj rfl rfl rfl (fun bP a6 z=> ?_);have dD:=cm.only z (by have:=o.out;omega);have dS:=cn.only z (by have:=o.out;omega);have dP:=G.only z (by have:=o.out;omega);have bZ:Below w.1.size ft bP:=(b.below o.out.1 C.out.fr.size).trans (z.below (by have:=o.out;omega) (wg C.out.fr.size b.size));have b4:=C.out.fr.thenB bZ t6;have d4:Hid (Blk bP 35 K (dkC d R.1)/\Blk bP 36 I (al R.2.1.1 R.2.1.2.1 R.2.1.2.2.1 R.2.1.2.2.2)/\OnlyB g w bP/\IsRd bP g a n c l R.2.2/\ODisk w.1.size bP d R.1):=⟨dP,a6,b4,H.out.only b4 (by rw[bZ.block g o.out.2.2.2.2.2];exact C.out.rdr.box) C.out.rdr.at_,((C.out.od.low (OnlyS.ofB b) (fun k bm e=>by have:=o.out;omega)).low (OnlyS.ofB z) (fun k bm e=>by have:=o.out;omega)).mono (by have:=o.out;omega)⟩;refine aU f ?_ (fun _=>⟨aL dD,aN dS⟩);clear f q cm cn dr dD dS dP bZ b4 G b a6 z a7 C;go_wp2_with fail;refine B3 (v:= .tuple #[.agg (dkC d R.1).toArray,.agg (al R.2.1.1 R.2.1.2.1 R.2.1.2.2.1 R.2.1.2.2.2).toArray]) ?_ rfl ?_
   ·exact yV results96 _ _ K I 35 36 (dkC d R.1).toArray (al R.2.1.1 R.2.1.2.1 R.2.1.2.2.1 R.2.1.2.2.2).toArray _ _ rfl d4.out.1 underlying35 rfl (eH _ _) rfl d4.out.2.1 underlying36 rfl bj
   ·exact⟨d,rfl,d4.out.2.2⟩
def lG(K:DK)(z:Nat):DK:=⟨z,K.S,K.m,K.At,K.D⟩
theorem RDisk.cut{w d K l}(h:RDisk w d K)(a:l<=K.n):RDisk w d (lG K l):=
 ⟨⟨wg a h.safe.le,h.safe.le',h.safe.nil,fun k=>by
  obtain⟨b,f,e,j,g⟩:=h.safe.at_ (wQ k a);exact⟨b,f,e,j,fun i c=>g i (wQ c a)⟩,fun i c=>h.safe.data i (wQ c a)⟩,h.pend⟩
theorem ODisk.keep{B u a d K}(h:ODisk B u d K)(e:KeepT 56 u a)(f:KeepT 133 u a)(c:KeepT 5 u a):ODisk B a d K:=
 ⟨⟨cw h.safe.row e,fun i b=>cw (h.safe.data i b) c,h.safe.byte,h.safe.sep1⟩,⟨cw h.pend.row f,fun i b=>cw (h.pend.data i b) c,h.pend.byte,h.pend.sep1⟩,h.sepX⟩
theorem yX{B k u c d K xs}(h:ODisk B u d K)(b:OnlyB k u c)(a:Blk u 35 k xs):ODisk B c d K:=
 h.keep (aw b a uB) (aw b a uB) (aw b a uB)
structure AnV(g:Nat)(a:Option Addr)(n c:Nat)(l:List Int)(w:World)(db sb rd rs:Nat)(s:MdS)(d:DV)(K0:DK)(u:World):Prop where
 fr:OnlyB g w u
 rdr:IsRd u g a n c l s.2.2
 dk:Blk u 35 db (dkC d s.1)
 su:Blk u 36 sb (al s.2.1.1 s.2.1.2.1 s.2.1.2.2.1 s.2.1.2.2.2)
 od:ODisk w.1.size u d K0
 r1:Blk u 35 rd [.slice none 0 0,.slice none 0 0]
 r2:Blk u 36 rs (al 0 0 0 0)
 cut:s.1=lG K0 s.1.n
 le:s.1.n<=K0.n
abbrev AnN(w:World)(g db sb rd rs:Nat):Prop:=w.1.size<=rd/\rd<rs/\rs<db/\db<sb/\g<w.1.size
section
variable {g:Nat} {a:Option Addr} {n c:Nat} {l:List Int} {w:World} {db sb rd rs:Nat} {s:MdS} {d:DV} {K0:DK} {u u':World}
theorem AnV.below(h:AnV g a n c l w db sb rd rs s d K0 u)(b:Below u.1.size u u'):AnV g a n c l w db sb rd rs s d K0 u':=
 ⟨h.fr.thenB b h.fr.size,h.rdr.below b,h.dk.below b,h.su.below b,h.od.below b,h.r1.below b,h.r2.below b,h.cut,h.le⟩
theorem AnV.putS(h:AnV g a n c l w db sb rd rs s d K0 u){m}(f:IsRd w g a n c l m)(i:AnN w g db sb rd rs)(b:OnlyB sb u u')(t)(j:Blk u' 36 sb (al t.1 t.2.1 t.2.2.1 t.2.2.2)):AnV g a n c l w db sb rd rs (s.1,t,s.2.2) d K0 u':=by
 obtain⟨o,p,q,n4,k⟩:=i;have e:=b.below uA h.fr.size;have f1:=h.fr.thenB e t6;exact⟨f1,f.only f1 (by rw[e.block g k];exact h.rdr.box) h.rdr.at_,h.dk.only b uA,j,sZ h.od b h.su,h.r1.only b uA,h.r2.only b uA,h.cut,h.le⟩
theorem AnV.putD(h:AnV g a n c l w db sb rd rs s d K0 u){t}(k:IsRd w g a n c l t)(m:AnN w g db sb rd rs)(b:OnlyB db u u'){f K' e}(p:Blk u' 35 db (dkC f K'))(j:ODisk w.1.size u f e)(o:K'=lG e K'.n)(q:K'.n<=e.n):AnV g a n c l w db sb rd rs (K',s.2) f e u':=by
 obtain⟨v,x,y,n4,r⟩:=m;have i:=b.below uA h.fr.size;have f1:=h.fr.thenB i t6;exact⟨f1,k.only f1 (by rw[i.block g r];exact h.rdr.box) h.rdr.at_,p,h.su.only b uA,yX j b h.dk,h.r1.only b uA,h.r2.only b uA,o,q⟩
theorem IE{B g w n c l}(h:Own B w (some ⟨g,0,none⟩) n c l)(i u):Own B (w.setCell ⟨g,i,none⟩ (.int .u8 u)) (some ⟨g,0,none⟩) n c (l.set i u):=by
 have a:=(World.ownsRow.stored h i (.int .u8 u)).1;rw[ze]at a;exact a
theorem IF{l}(h:IsB l)(i){u}(a:0<=u)(b:u<256):IsB (l.set i u):=fun j=>by
 rw[yc,BO];split
 ·split
  ·exact⟨a,b⟩
  ·exact⟨vo,vo⟩
 ·have:=h j;rwa [yc]at this
theorem IG{x}(a:0<=x)(b:x<256):0<=bits .xor .u8 x 1/\bits .xor .u8 x 1<256:=by
 rw[u8_xor x 1 a b uA uA];have:x.toNat^^^(1:Int).toNat<2^8:=Nat.xor_lt_two_pow uA uB;omega
theorem ODisk.byte{B b K}(h:ODisk B u d K){i j}(p:i<K.n)(o:d.sA i=some ⟨b,0,none⟩){x}(A:0<=x)(C:x<256):
 ODisk B (u.setCell ⟨b,j,none⟩ (.int .u8 x)) d ⟨K.n,upd K.S i ((K.S i).set j x),K.m,K.At,K.D⟩:=by
 have g:=h.safe.data i p;have z:=(World.ownsRow.stored (o▸g:Own B u (some ⟨b,0,none⟩) (d.sN i) (d.sC i) (K.S i)) j (.int .u8 x)).2;have f:(Value.slice (d.sA i) (d.sN i) (d.sC i)).ownBlock=some b:=by rw[o];rfl
 have l:∀{e s n:Nat}{v:Value}{xs:List Value},u.ownsRow B e s v n xs->v.ownBlock≠some b->(u.setCell ⟨b,j,none⟩ (.int .u8 x)).ownsRow B e s v n xs:=fun{e s n v xs} m r=>by
  refine World.ownsRow.kept m z ?_;cases y:v.ownBlock with
  |none=>exact v7 rfl
  |some k=>exact v6 fun a=>r (by rw[y];exact a)
 have t:∀{e s n:Nat}{v:Value}{xs:List Value},u.ownsRow B e s v n xs->e≠5->(u.setCell ⟨b,j,none⟩ (.int .u8 x)).ownsRow B e s v n xs:=fun m w=>l m (fun a=>jR m g w b a f);refine⟨⟨t h.safe.row uB,fun q c=> ?_,fun q c=> ?_,h.safe.sep1⟩,⟨t h.pend.row uB,fun q c=>l (h.pend.data q c) (fun a=>h.sepX i q p c b f a),h.pend.byte,h.pend.sep1⟩,h.sepX⟩
 ·show Own B _ (d.sA q) (d.sN q) (d.sC q) (upd K.S i _ q);by_cases e:q=i
  ·subst e;rw[be,o];exact IE (o▸g) j x
  ·rw[bw _ _ _ e];refine l (h.safe.data q c) (fun a=> ?_);rcases Nat.lt_or_gt_of_ne e with hlt|hgt
   ·exact h.safe.sep1 q i hlt p b a f
   ·exact h.safe.sep1 i q hgt c b f a
 ·show IsB (upd K.S i _ q);by_cases e:q=i
  ·subst e;rw[be];exact IF (h.safe.byte q c) j A C
  ·rw[bw _ _ _ e];exact h.safe.byte q c
theorem pz{e s B n t k b:Nat}{v xs d}(h:u.ownsRow B e s v n xs)(c:v.ownBlock=some b)(j:Blk u t k d)(i:e≠t):k≠b:=fun f=>by
 subst f;rcases h.2 with⟨rfl,_⟩|⟨g,l,m,rfl,_,a,_⟩
 ·cases c
 ·cases c;rw[show u.heap[g]?=some (.cells d.toArray t (0,0))from j]at a;injection a with a
  injection a with _ h2 _
  exact i h2.symm
theorem AnV.flip(h:AnV g a n c l w db sb rd rs s d K0 u){B}(t:IsRd w g a n c l B)(v:AnN w g db sb rd rs){b i j}(r:i<K0.n)(o:d.sA i=some ⟨b,0,none⟩){x}(C:0<=x)(D:x<256)(z:s.1.n=K0.n):
 AnV g a n c l w db sb rd rs (⟨K0.n,upd K0.S i ((K0.S i).set j x),K0.m,K0.At,K0.D⟩,s.2) d ⟨K0.n,upd K0.S i ((K0.S i).set j x),K0.m,K0.At,K0.D⟩ (u.setCell ⟨b,j,none⟩ (.int .u8 x)):=by
 obtain⟨E,F,G,n4,A⟩:=v;have e:=h.od.safe.data i r;have f:(Value.slice (d.sA i) (d.sN i) (d.sC i)).ownBlock=some b:=by rw[o];rfl
 have p:=(Ct e b f).1;have k:=ax u b j (.int .u8 x);have m:=k.below p h.fr.size;have f1:=h.fr.thenB m t6;have q:dkC d s.1=dkC d ⟨K0.n,upd K0.S i ((K0.S i).set j x),K0.m,K0.At,K0.D⟩:=by
  have y:=h.cut;unfold dkC;rw[y];show [Value.slice d.sa s.1.n d.sc,Value.slice d.pa K0.m d.pc]= _;rw[z]
 refine⟨f1,t.only f1 (by rw[m.block g A];exact h.rdr.box) h.rdr.at_,?_,h.su.only k (pz e f h.su uB),h.od.byte r o C D,h.r1.only k (pz e f h.r1 uB),h.r2.only k (pz e f h.r2 uB),rfl,t6⟩;rw[<-q];exact h.dk.only k (pz e f h.dk uB)
theorem OOp.grown{B d a b c e xs f}(h:OOp d u a c xs)(m:OOp B u b e f)(g:u.grownBy u' (Value.slice b f.length e).ownBlock)(i:∀k,(Value.slice b f.length e).ownBlock=some k->k<d):OOp d u' a c xs:=by
 obtain⟨q,j,p⟩:=h;obtain⟨r,o,_⟩:=m;refine⟨q,World.ownsRow.kept j g ?_,p.keep (bD o g uB)⟩;cases n:(Value.slice a xs.length c).ownBlock with
 |none=>exact v7 rfl
 |some k=>exact v6 fun l=>by have s:=(Ct j k n).1;have t:=i k l.symm;omega
theorem OOp.lt{B b a c}(h:OOp B u b a c):∀k,(Value.slice b c.length a).ownBlock=some k->k<u.1.size:=fun k d=>by
 obtain⟨f,e,_⟩:=h;exact(Ct e k d).2
theorem II{ls}(h:∀x∈ls,0<=x/\x<256):IsB ls:=fun i=>by
 rw[yc];cases hx:ls[i]? with
 |none=>exact⟨vo,vo⟩
 |some x=>exact h x (List.mem_of_getElem? hx)
theorem iI(u:World)(ls)(a:∀x∈ls,0<=x/\x<256)(b:ls.length<=1000):Bs (u.alloc (.cells (ob ls).toArray 5)) (some ⟨u.1.size,0,none⟩) ls.length ls.length ls:=(eI u ls _ rfl uA 0 (wa _)).bs (II a)
theorem IJ(v):(dB v).length<=1048576:=by
 unfold dB
 repeat' split
 all_goals decide
theorem IK:prog.built 36 [(0,.int .i64 1),(1,.int .i64 2),(2,.int .i64 5)]=some (al 1 2 5 0).toArray:=vk
end
