import Derived.Test.YtglbanolhhjjiaaGreatDoorFo50
namespace Go.Proofs.YtglbanolhhjjiaaGreatDoor
open Go.Proofs.Tryz
open Go.RowKit
set_option linter.unusedVariables false
set_option maxRecDepth 100000
set_option maxHeartbeats 32000000
theorem Firm.only{B g w w' d K}(h:Firm B w d K)(a:OnlyB g w w')(b:g<B):RDisk w' d K:=h _ ((OnlyS.ofB a).mono (fun k _ e=>by show k<B;omega))
structure OdV(g:Nat)(a:Option Addr)(n c:Nat)(l:List Int)(w:World)(db sb rd:Nat)(Z:Nat->Prop)(K:DK)(s:SupK)(q:Nat)(d:DV)(u:World):Prop where
 fr:Below w.1.size w u
 rdr:IsRd u g a n c l q
 dk:Blk u 35 db (dkC d K)
 su:Blk u 36 sb (al s.1 s.2.1 s.2.2.1 s.2.2.2)
 fm:∀x,OnlyS Z u x->RDisk x d K
 r1:Blk u 35 rd [.slice none 0 0,.slice none 0 0]
 zg:Z g
 zr:Z rd
abbrev OdN(w:World)(g db sb rd:Nat):Prop:=w.1.size<=rd/\rd<g/\g<db/\db<sb
section
variable {g:Nat} {a:Option Addr} {n c:Nat} {l:List Int} {w:World} {db sb rd:Nat} {Z:Nat->Prop} {K:DK} {s:SupK} {q:Nat} {d:DV} {u u':World}
theorem OdV.reads(h:OdV g a n c l w db sb rd Z K s q d u):RDisk u d K:=h.fm u (OnlyS.refl _ _)
theorem OdV.below(h:OdV g a n c l w db sb rd Z K s q d u)(b:Below u.1.size u u'):OdV g a n c l w db sb rd Z K s q d u':=
 ⟨h.fr.trans (b.mono h.fr.size),h.rdr.below b,h.dk.below b,h.su.below b,fun x hx=>h.fm x ((OnlyS.ofBelow b).trans hx),h.r1.below b,h.zg,h.zr⟩
theorem OdV.reader(h:OdV g a n c l w db sb rd Z K s q d u)(i:OdN w g db sb rd)(b:OnlyB g u u'){f}(j:IsRd u' g a n c l f):OdV g a n c l w db sb rd Z K s f d u':=by
 obtain⟨m,o,p,n4⟩:=i;exact⟨h.fr.trans (b.below uA h.fr.size),j,h.dk.only b uA,h.su.only b uA,fun x hx=>h.fm x (((OnlyS.ofB b).mono (fun k _ e=>by show Z k;rw[show k=g from e];exact h.zg)).trans hx),h.r1.only b uA,h.zg,h.zr⟩
theorem yY{k t q xs}(h:IsRd u g a n c l q)(d:OnlyB k u u')(y:Blk u t k xs)(v:∀(i:Nat)(x:Int),xs[i]?≠some (.int .u8 x))(w:g≠k):IsRd u' g a n c l q:=
 ⟨(d.block g h.lt w).trans h.box,⟨h.bs.len_eq,h.bs.le,h.bs.le',h.bs.nil,fun z=>by
  obtain⟨b,r,e,p,m⟩:=h.bs.at_ z;refine⟨b,r,e,wQ p d.size,fun i o=> ?_⟩;have j:b≠k:=fun s=>by
   subst s;have f:=m i o;rw[y.cell]at f;exact v _ _ f
  rw[<-m i o];exact C5 (d.block b p j),h.bs.byte⟩,h.le,h.at_⟩
theorem IM(d K):∀(i:Nat)(x:Int),(dkC d K)[i]?≠some (.int .u8 x):=fun i x e=>by
 have:=List.mem_of_getElem? e;simp[dkC]at this
theorem IP(x y a t):∀(i:Nat)(v:Int),(al x y a t)[i]?≠some (.int .u8 v):=fun i v e=>by
 have:=List.mem_of_getElem? e;simp[al]at this
theorem OdV.put(h:OdV g a n c l w db sb rd Z K s q d u)(i:OdN w g db sb rd)(b:OnlyB db u u'){f K'}(m:Blk u' 35 db (dkC f K')){B'}(j:ODisk B' u f K')(o:db<B'):OdV g a n c l w db sb rd (fun k=>k<B') K' s q f u':=by
 obtain⟨p,r,t,n4⟩:=i;exact⟨h.fr.trans (b.below uA h.fr.size),yY h.rdr b h.dk (IM _ _) uA,m,h.su.only b uA,fun x hx=>j.firm x (((OnlyS.ofB b).mono (fun k _ e=>by show k<B';omega)).trans hx),h.r1.only b uA,(by show g<B';omega),(by show rd<B';omega)⟩
theorem OdV.other{f x y z v}(h:OdV g a n c l w db sb rd Z K s q d u)(i:OdN w g db sb rd)(o:sb<f)(b:OnlyB f u u')(j:Blk u 36 f (al x y z v))(m:Z f):OdV g a n c l w db sb rd Z K s q d u':=by
 obtain⟨p,r,t,n4⟩:=i;exact⟨h.fr.trans (b.below uA h.fr.size),yY h.rdr b j (IP _ _ _ _) uA,h.dk.only b uA,h.su.only b uA,fun x hx=>h.fm x (((OnlyS.ofB b).mono (fun k _ e=>by show Z k;rw[show k=f from e];exact m)).trans hx),h.r1.only b uA,h.zg,h.zr⟩
theorem IQ{r s q xs}(h:ROp u r s xs)(j:OnlyB g u u')(p:IsRd u g a n c l q):ROp u' r s xs:=by
 obtain⟨v,d,y⟩:=h;refine⟨v,⟨d.ok,d.le,d.le',d.nil,fun o=> ?_⟩,y.keep (cx j p.box uB)⟩;obtain⟨b,t,e,m,k⟩:=d.at_ o;refine⟨b,t,e,wQ m j.size,fun i q A B=> ?_⟩;have z:b≠g:=fun w=>by
  subst w;have f:=k 0 2 o uA;rw[DC _ _ _ _ _ _ p.box]at f;have x:(opF xs v 0)[2]?=some (.slice (v 0).1 (xs.getD 0 op0).2.2.length (v 0).2):=rfl;rw[x]at f;have C:=(wy.1 f).1;simp at C;omega
 rw[<-k i q A B];exact C5 (j.block b m z)
end
theorem IR{l n k M}(h:dt M.1):dt (lF l n k M):=by
 unfold lF py;split
 ·split
  ·exact IA (mI h _ _) _
  ·exact mI h _ _
 ·exact h
theorem IS(a n c l w)(h:Bs w a n c l)(E)(ae:E=sY (l.take 1000) (min n 1000) 0):
 Calls prog 25 #[.slice a n c] w fun e w'=> ∃d,e= .returned (av d E)/\Below w.1.size w w'/\RDisk w' d E/\dt E:=by
 obtain⟨bd,a8⟩:=aa (w.alloc (.cells #[.slice none 0 0,.slice none 0 0] 35));have N:Below w.1.size w bd:=by rw[a8];exact bAl _ _
 have et:bd.1.size=w.1.size+1:=by rw[a8];simp
 have dc:Blk bd 35 w.1.size [.slice none 0 0,.slice none 0 0]:=by rw[a8];exact aq w _ _
 have LO:=Bw a n c l bd (h.below N);go_enter func25,ntmps25;go_upto_region 1 with fail
 change Code.wp _ _ _ _ (w.alloc (.cells #[.slice none 0 0,.slice none 0 0] 35));rw[<-a8];obtain⟨z,cr⟩:=aa w.1.size;rw[<-cr]at dc ⊢;have br:Hid (w.1.size<=z/\z<bd.1.size/\Below w.1.size w bd/\Blk bd 35 z [.slice none 0 0,.slice none 0 0]):=⟨uA,uA,N,dc⟩;clear a8 N et dc cr h;go_wp2_with fail;refine LO.mono ?_;rintro e dp ⟨g,rfl,c7,cn,bg⟩;clear LO;generalize min n 1000=n at*;generalize l.take 1000=l at*;have bX:=cZ g a n c l 0 dp bg;have bz:Hid (∀i,0<=l.getD i 0/\l.getD i 0<256):=bg.bs.byte;have dX:=bz.out 0;have cj:=bg.lt;have R:Hid (w.1.size<=z/\z<g/\Below w.1.size w dp/\Blk dp 35 z [.slice none 0 0,.slice none 0 0]):=⟨br.out.1,wQ br.out.2.1 cn,br.out.2.2.1.trans (c7.mono br.out.2.2.1.size),br.out.2.2.2.below c7⟩;clear br c7 cn bg;go_wp2_with fail;refine bX.mono ?_;rintro e an ⟨rfl,af,ag⟩;clear bX;obtain⟨k,da⟩:=aa (l.getD 0 0);unfold sY at ae;rw[<-da]at dX ae ⊢;clear da;obtain⟨cP,ex⟩:=dX;obtain⟨p,d4⟩:=aa (rdP n 0);rw[<-d4]at ae ag;clear d4;have y:Hid (w.1.size<=z/\z<g/\Below w.1.size w an/\Blk an 35 z [.slice none 0 0,.slice none 0 0]/\g<an.1.size):=⟨R.out.1,R.out.2.1,R.out.2.2.1.trans (af.below (by have:=R.out;omega) R.out.2.2.1.size),R.out.2.2.2.only af (by have:=R.out;omega),wQ cj af.size⟩;clear R af cj;by_cases bY:248<=k
 ·rw[B4 bY]at ae;have dI:=Iz g a n c l p an ag E ae;clear ag ae;go_wp2_with fail;refine dI.mono ?_;rintro e r ⟨d,rfl,bf,S,cX⟩;clear dI;have b4:=y.out.2.2.2.1.only bf (by have:=y.out;omega);have aA:=y.out.2.2.1.trans (bf.below (by have:=y.out;omega) y.out.2.2.1.size);have Y:Hid (Below w.1.size w r/\Firm an.1.size r d E/\dt E):=⟨aA,S,cX.low⟩;clear bf S cX aA;unfold av;go_wp2_with (refine DR rfl fun _ f=>bK (k:=z) (cs:=dkC d E) b4 rfl (gH _ _) (eH _ _) rfl rfl rfl (fun x o j=>f _ _ ?_));have l0:x.cell? ⟨z,0,none⟩=some (.slice d.sa E.n d.sc):=o.cell 0;have dd:x.cell? ⟨z,1,none⟩=some (.slice d.pa E.m d.pc):=o.cell 1;have c3:Hid (Below w.1.size w x/\RDisk x d E/\dt E):=⟨Y.out.1.trans (j.below y.out.1 Y.out.1.size),Y.out.2.1.only j (by have:=y.out;omega),Y.out.2.2⟩;clear o j b4 Y
  try go_wp2_with fail
  refine B3 (v:= .agg #[.slice d.sa E.n d.sc,.slice d.pa E.m d.pc]) (by simp[results,results25,go_sem,l0,dd]) rfl ?_;exact⟨d,rfl,c3.out⟩
 rw[CH bY]at ae;have ej:k<248:=uA;obtain⟨M,c9⟩:=aa (lE l n p);have c1:=IL g a n c l p an ag M c9;have bn:=Iu l n p;rw[<-c9]at bn ae;obtain⟨K,⟨G,P,U,b7⟩,q⟩:=M;have bA:Hid (dt K):=bn;have ds:Hid (dt E):=by rw[ae];exact IR bn
 have a5:Hid (E=lF l n k (K,(G,P,U,b7),q)):=ae;clear ae c9 ag bn;simp only at c1;go_wp2_with fail;refine c1.mono ?_;rintro e r ⟨d,rfl,bf,bx,S⟩;clear c1;have ac:Below r.1.size r ((r.alloc (.cells #[.slice none 0 0,.slice none 0 0] 35)).alloc (.cells #[.int .i64 0,.int .i64 0,.int .i64 0,.int .i64 0] 36)):=(bAl _ _).alloc vo _;have cM:Blk ((r.alloc (.cells #[.slice none 0 0,.slice none 0 0] 35)).alloc (.cells #[.int .i64 0,.int .i64 0,.int .i64 0,.int .i64 0] 36)) 35 r.1.size [.slice none 0 0,.slice none 0 0]:=(aq r 35 #[.slice none 0 0,.slice none 0 0]).below (bAl _ _);have cS:Blk ((r.alloc (.cells #[.slice none 0 0,.slice none 0 0] 35)).alloc (.cells #[.int .i64 0,.int .i64 0,.int .i64 0,.int .i64 0] 36)) 36 (r.1.size+1) (al 0 0 0 0):=by
  have:=aq (r.alloc (.cells #[.slice none 0 0,.slice none 0 0] 35)) 36 #[.int .i64 0,.int .i64 0,.int .i64 0,.int .i64 0];rw[World.size_alloc]at this;exact this
 have dE:Hid (Below w.1.size w r/\IsRd r g a n c l q/\Firm an.1.size r d K/\Blk r 35 z [.slice none 0 0,.slice none 0 0]/\g<r.1.size/\Below r.1.size r ((r.alloc (.cells #[.slice none 0 0,.slice none 0 0] 35)).alloc (.cells #[.int .i64 0,.int .i64 0,.int .i64 0,.int .i64 0] 36))):=⟨y.out.2.2.1.trans (bf.below (by have:=y.out;omega) y.out.2.2.1.size),bx,S,y.out.2.2.2.1.only bf (by have:=y.out;omega),bx.lt,ac⟩;clear ac bf bx S;unfold av;go_upto_region 6 with(first
  |(refine DR rfl fun _ f=>bK (k:=r.1.size) (cs:=dkC d K) cM rfl (gH _ _) (eH _ _) rfl rfl rfl (fun eb o j=>f _ _ ?_);have cT:=cS.only j uA;have cf:=uv o j;clear o j cM)
  |(refine DR rfl fun _ f=>bK (k:=r.1.size+1) (cs:=al G P U b7) cT rfl (fe _ _ _ _) bj rfl rfl rfl (fun ce cB b3=>f _ _ ?_)))
 obtain⟨o,j⟩:=cf.out;obtain⟨aA,bx,S,cR,d7,ac⟩:=dE.out;have cg:=j.below (vR r.1.size) ac.size;have ch:=b3.below (x0 r.1.size) (wg ac.size j.size);have a7:Below r.1.size r ce:=ac.trans (cg.trans ch);have bb:Hid (OdV g a n c l w r.1.size (r.1.size+1) z (fun k=>k<an.1.size\/r.1.size<=k) K (G,P,U,b7) q d ce):=⟨aA.trans (a7.mono aA.size),bx.below a7,o.only b3 uA,cB,fun x hx=>S x ((OnlyS.ofBelow a7).transN hx (fun k da e=>by rcases e with e|e;exact e;omega)),cR.below a7,v7 y.out.2.2.2.2,v7 (by show z<an.1.size;have:=y.out;omega)⟩;obtain⟨sb,cz⟩:=aa (r.1.size+1);obtain⟨J,cm⟩:=aa r.1.size;obtain⟨B,ck⟩:=aa an.1.size;have ak:Hid (OdN w g J sb z):=⟨y.out.1,y.out.2.1,uA,uA⟩;rw[<-cz]at bb ⊢;rw[<-cm]at bb ⊢;rw[<-ck]at bb;clear o j aA bx S cR d7 ac cg ch a7 cz cm ck cf dE cS cT cB b3 y;have d2:k.tmod 8=k%8:=A3 cP;have db:k.tmod 16=k%16:=A3 cP;go_upto_if 25 with fail
 go_cut [] (fun cc=> ∃d s q Z,OdV g a n c l w J sb z Z E s q d cc)
 case first=>
  by_cases bm:k%8=7
  ·rw[bm]at d2;obtain⟨a1,bZ⟩:=aa (fG l n 9 q);obtain⟨a2,b1⟩:=aa (upR K G P U b7 a1.1);have Q:Hid (E=py l n k K a2.1 a1.2):=by show E= _;rw[a5.out,lF,B4 bm,b1,bZ]
   have c4:Hid _:=bZ;have bk:Hid _:=b1;have X:Hid (a1.1.length<=1048576/\∀x∈a1.1,x.1.size<=1048575/\x.2.1.size<=1048575):=by
    have:=rF l n (l.getD q 0%((9+1:Nat):Int)).toNat (rdP n q) [] (fun x hx=>by cases hx);refine⟨?_,by show∀x∈a1.1,_;rw[bZ];exact this.2⟩;have en:=this.1;rw[bZ];unfold fG;have eK:(l.getD q 0%((9+1:Nat):Int)).toNat<=10:=uA;simp only[AO]at en;omega
   clear bZ b1 a5;have L:=bDr ce;have bc:Hid _:=bb.out.below L;clear L bb;go_upto_region 7 with fail
   go_cut [7] (fun eq cc=> ∃H ob,eq= .slice H a2.1.length ob/\OdV g a n c l w J sb z (fun k=>k<B\/J<=k) K (G,P,U,b7) a1.2 d cc/\ROp cc H ob a2.1)
   case first=>
    refine az (fun u=>(Instr.loadAt 35 (.pointer (some ⟨J,0,none⟩))).run prog u= .ok (.agg (dkC d K).toArray) u/\(Instr.loadAt 36 (.pointer (some ⟨sb,0,none⟩))).run prog u= .ok (.agg (al G P U b7).toArray) u) (fun _=>false) vk ?_;generalize ce.drew=v0 at*;have I:=vJ (aL bc.out.dk) (aN bc.out.su);refine aM 0 (.agg (dkC d K).toArray) I ?hb0 ?_
    case hb0=>exact fun u ad=>bo (p:= .pointer (some ⟨J,0,none⟩)) rfl rfl ad.1
    refine aM 1 (.agg (al G P U b7).toArray) I ?hb1 ?_
    case hb1=>exact fun u ad=>bo (p:= .pointer (some ⟨sb,0,none⟩)) rfl rfl ad.2
    refine ai 2 I ?_;clear I;refine fQ 3 9 vk rfl rfl (fun m f=> ?oB) (fun m f=> ?oA)
    case' oA=>
     rw[B4 (show Region.wanted _ _=true from rfl)];obtain⟨v1,A⟩:=aa (v0.alloc (.cells #[.int .i64 0,.int .i64 0,.int .i64 0,.int .i64 0] 36));have N:Below v0.1.size v0 v1:=by rw[A];exact bAl _ _
     have b8:Hid _:=bc.out.below N;have F:Blk v1 36 v0.1.size (al 0 0 0 0):=by rw[A];exact aq v0 _ _
     have ba:Hid (sb<v0.1.size):=bc.out.su.lt;go_wp2_with fail;rw[<-A];refine f.out _ _ (fun _=>⟨aL b8.out.dk,aN b8.out.su⟩) ?_;obtain⟨a0,T⟩:=aa v0.1.size;rw[<-T]at F ba ⊢;have dF:Hid (Blk v1 36 a0 (al 0 0 0 0)):=F;clear f m A N T F;refine ah 3 fun m f=> ?_;have bT:=oQ g a n c l q 9 v1 b8.out.rdr uA a1 c4.out;go_wp2_with fail;refine bT.mono ?_;rintro e v3 ⟨aT,aX,rfl,af,ag,a9⟩;clear bT;have aS:Hid _:=b8.out.reader ak.out af ag;have b6:Hid (RRow v3 3 aT a1.1.length aX (chF a1.1)):=a9.reads;have bR:Hid (Blk v3 36 a0 (al 0 0 0 0)):=Blk.only dF.out af (by have:=ak.out;have:=ba.out;omega);clear a9 af ag;go_wp2_with fail;refine f.out _ _ (fun _=>⟨aL aS.out.dk,aN aS.out.su⟩) ?_;clear f m;refine ah 4 fun m f=> ?_;have a6:=lD d K G P U b7 aT aX a1.1 v3 aS.out.reads b6.out X.out.1 X.out.2 a2 bk.out;go_wp2_with fail;refine a6.mono ?_;rintro e O ⟨H,ob,rfl,am,V⟩;clear a6;have t:Hid _:=aS.out.below am;have aB:Hid (ROp O H ob a2.1):=V;have bS:Hid (Blk O 36 a0 (al 0 0 0 0)):=Blk.below bR.out am;clear am V;go_wp2_with fail;refine f.out _ _ (fun _=>⟨aL t.out.dk,aN t.out.su⟩) ?_;clear f m;refine ai 5 (⟨aL t.out.dk,aN t.out.su⟩) ?_;refine ai 6 (⟨aL t.out.dk,aN t.out.su⟩) ?_;refine ai 7 (⟨aL t.out.dk,aN t.out.su⟩) ?_;refine ai 8 (⟨aL t.out.dk,aN t.out.su⟩) ?_
    case' oB=>
     rw[B4 (show Region.wanted _ _=true from rfl)];have bT:=oQ g a n c l q 9 v0 bc.out.rdr uA a1 c4.out;go_wp2_with fail;refine bT.mono ?_;rintro e v2 ⟨aT,aX,rfl,af,ag,a9⟩;clear bT;have bu:Hid _:=bc.out.reader ak.out af ag;have b5:Hid (RRow v2 3 aT a1.1.length aX (chF a1.1)):=a9.reads;clear a9 af ag;go_wp2_with fail;refine f.out _ _ (fun _=>⟨aL bu.out.dk,aN bu.out.su⟩) ?_;clear f m;refine fQ 4 9 vk rfl rfl (fun m f=> ?oC) (fun m f=> ?oD)
     case' oD=>
      rw[B4 (show Region.wanted _ _=true from rfl)];obtain⟨v3,A⟩:=aa (v2.alloc (.cells #[.int .i64 0,.int .i64 0,.int .i64 0,.int .i64 0] 36));have N:Below v2.1.size v2 v3:=by rw[A];exact bAl _ _
      have aS:Hid _:=bu.out.below N;have F:Blk v3 36 v2.1.size (al 0 0 0 0):=by rw[A];exact aq v2 _ _
      have ba:Hid (sb<v2.1.size):=bu.out.su.lt;go_wp2_with fail;rw[<-A];refine f.out _ _ (fun _=>⟨aL aS.out.dk,aN aS.out.su⟩) ?_;obtain⟨a0,T⟩:=aa v2.1.size;rw[<-T]at F ba ⊢;have bR:Hid (Blk v3 36 a0 (al 0 0 0 0)):=F;have dP:Hid _:=N;clear f m A N T F;have b6:Hid (RRow v3 3 aT a1.1.length aX (chF a1.1)):=b5.out.below dP.out;clear b5 dP;refine ah 4 fun m f=> ?_;have a6:=lD d K G P U b7 aT aX a1.1 v3 aS.out.reads b6.out X.out.1 X.out.2 a2 bk.out;go_wp2_with fail;refine a6.mono ?_;rintro e O ⟨H,ob,rfl,am,V⟩;clear a6;have t:Hid _:=aS.out.below am;have aB:Hid (ROp O H ob a2.1):=V;have bS:Hid (Blk O 36 a0 (al 0 0 0 0)):=Blk.below bR.out am;clear am V;go_wp2_with fail;refine f.out _ _ (fun _=>⟨aL t.out.dk,aN t.out.su⟩) ?_;clear f m;refine ai 5 (⟨aL t.out.dk,aN t.out.su⟩) ?_;refine ai 6 (⟨aL t.out.dk,aN t.out.su⟩) ?_;refine ai 7 (⟨aL t.out.dk,aN t.out.su⟩) ?_;refine ai 8 (⟨aL t.out.dk,aN t.out.su⟩) ?_
     case' oC=>
      rw[B4 (show Region.wanted _ _=true from rfl)];have a6:=lD d K G P U b7 aT aX a1.1 v2 bu.out.reads b5.out X.out.1 X.out.2 a2 bk.out;go_wp2_with fail;refine a6.mono ?_;rintro e W ⟨H,ob,rfl,am,V⟩;clear a6;have C:Hid _:=bu.out.below am;have aB:Hid (ROp W H ob a2.1):=V;clear am V;go_wp2_with fail;refine f.out _ _ (fun _=>⟨aL C.out.dk,aN C.out.su⟩) ?_;clear f m;refine ai 5 (⟨aL C.out.dk,aN C.out.su⟩) ?_;refine ai 6 (⟨aL C.out.dk,aN C.out.su⟩) ?_;refine ai 7 (⟨aL C.out.dk,aN C.out.su⟩) ?_;refine ai 8 (⟨aL C.out.dk,aN C.out.su⟩) ?_;refine ah 9 fun m f=> ?_;obtain⟨O,A⟩:=aa (W.alloc (.cells #[.int .i64 0,.int .i64 0,.int .i64 0,.int .i64 0] 36));have N:Below W.1.size W O:=by rw[A];exact bAl _ _
      have t:Hid _:=C.out.below N;have F:Blk O 36 W.1.size (al 0 0 0 0):=by rw[A];exact aq W _ _
      have ba:Hid (sb<W.1.size):=C.out.su.lt;go_wp2_with fail;rw[<-A];refine f.out _ _ (fun _=>⟨aL t.out.dk,aN t.out.su⟩) ?_;obtain⟨a0,T⟩:=aa W.1.size;rw[<-T]at F ba ⊢;have bS:Hid (Blk O 36 a0 (al 0 0 0 0)):=F;have dl:Hid (ROp O H ob a2.1):=ROp.below aB.out N;clear aB;have aB:Hid (ROp O H ob a2.1):=dl.out;clear f m A N T F
    all_goals
     refine ah 10 fun m f=> ?_;go_wp2_with fail;refine f.out _ _ (fun _=>⟨aL t.out.dk,aN t.out.su⟩) ?_;clear f m;have ca:=bS.out;refine ah 11 fun m f=> ?_;refine bK (k:=a0) (cs:=al a2.2.1.1 a2.2.1.2.1 a2.2.1.2.2.1 a2.2.1.2.2.2) ca rfl (fe _ _ _ _) bj rfl rfl rfl (fun eb o j=> ?_);have bW:Hid _:=t.out.other ak.out ba.out j ca (v6 (by have:=ak.out;have:=ba.out;omega));have ea:Hid (ROp eb H ob a2.1):=yW aB.out j ca;refine ao f ?_ (fun _=>⟨aL bW.out.dk,aN bW.out.su⟩);clear f m o j ca;refine ah 12 fun m f=> ?_;go_wp2_with fail;refine aU f ?_ (fun _=>⟨aL bW.out.dk,aN bW.out.su⟩);clear f m;go_wp2_with fail
     go_meet
     exact⟨H,ob,rfl,bW.out,ea.out⟩
   case rest=>
   clear bc;obtain⟨H,ob,rfl,d1,cv⟩:=hcut;obtain⟨c6,b2⟩:=aa wc;subst b2;have L:=bDr c6;have D:Hid _:=d1.below L;have bB:Hid (ROp c6.drew H ob a2.1):=cv.below L;clear d1 cv L c4 bk X;obtain⟨xs,cA⟩:=aa a2.1;rw[<-cA]at Q bB ⊢;clear cA;obtain⟨cb,cq⟩:=aa a1.2;rw[<-cq]at Q D;clear cq;go_wp2_with fail;refine l7 (fun u=>(Instr.loadAt 35 (.pointer (some ⟨J,0,none⟩))).run prog u= .ok (.agg (dkC d K).toArray) u) 4 vk ?_;generalize c6.drew=v1 at*;have I:=aL D.out.dk;refine l8 0 (.agg (dkC d K).toArray) I ?hzp0 ?_
   case hzp0=>exact fun u ad=>bo (p:= .pointer (some ⟨J,0,none⟩)) rfl rfl ad
   refine cK 1 ?_;refine cK 2 ?_;refine eO 3 fun m f=> ?_;have bX:=cZ g a n c l cb v1 D.out.rdr;go_wp2_with fail;refine bX.mono ?_;rintro e v2 ⟨rfl,dk,bg⟩;clear bX I;have ev:Hid _:=bz.out cb;unfold py at Q;generalize l.getD cb 0=b at*;have a3:Hid _:=D.out.reader ak.out dk bg;have bC:Hid (ROp v2 H ob xs):=IQ bB.out dk D.out.rdr;generalize rdP n cb=bv at*;clear D bB dk bg;go_wp2_with fail;refine f.out _ _ (fun _=>aL a3.out.dk) ?_;clear f m;have c5:=Iq d K H ob xs b v2 a3.out.reads bA.out bC.out;obtain⟨bs,b0⟩:=aa (cu K xs b);have dr:Hid (dt bs):=by rw[b0];exact mI bA.out _ _
   rw[<-b0]at c5 Q;refine eO 4 fun m f=> ?_;go_wp2_with fail;refine c5.mono ?_;rintro e v3 ⟨c8,cnt,rfl,dS,cV⟩;clear c5 b0;have bE:Hid _:=a3.out.below dS;have cD:=bE.out.dk;have ab:Hid (ODisk v2.1.size v3 c8 bs/\J<v2.1.size):=⟨cV,a3.out.dk.lt⟩;clear dS cV a3 bC;unfold av;go_wp2_with fail;refine goR f ?_;clear f m;refine cK 5 ?_;refine cK 6 ?_;refine cK 7 ?_;refine eO 8 fun m f=> ?_;refine bK (k:=J) (cs:=dkC c8 bs) cD rfl (gH _ _) (eH _ _) rfl rfl rfl (fun ef o j=> ?_);refine goR f ?_;clear f m;refine l9 ?_;have bF:Hid _:=bE.out.put ak.out j o ab.out.1 ab.out.2;clear o j cD bE ab bA;by_cases bl:k%16=15
   ·rw[bl]at db;have a4:Hid (E=iC bs (ki l n bv)):=by show E= _;rw[Q.out,B4 bl]
    clear Q;obtain⟨K,d5⟩:=aa bs;subst d5;obtain⟨d,d6⟩:=aa c8;subst d6;have L:=bDr ef;have D:Hid _:=bF.out.below L;clear bF L;go_wp2_with fail;refine l7 (fun u=>(Instr.loadAt 35 (.pointer (some ⟨J,0,none⟩))).run prog u= .ok (.agg (dkC d K).toArray) u) 3 vk ?_;generalize ef.drew=O at*;have I:=aL D.out.dk;refine l8 0 (.agg (dkC d K).toArray) I ?hzr0 ?_
    case hzr0=>exact fun u ad=>bo (p:= .pointer (some ⟨J,0,none⟩)) rfl rfl ad
    refine cK 1 ?_;refine eO 2 fun m f=> ?_;have dq:=Bz g a n c l bv O D.out.rdr;have cp:IsB (ki l n bv):=qz bz.out n _ _;generalize ki l n bv=ek at*;generalize iR l bv=em at*;generalize qy l n bv=eL at*;go_wp2_with fail;refine dq.mono ?_;rintro e W ⟨aT,aX,rfl,d8,d9,c0⟩;clear dq I;have ap:Hid _:=D.out.reader ak.out d8 d9;have cl:=c0.bs cp;clear D d8 d9 c0 cp;go_wp2_with fail;refine f.out _ _ (fun _=>aL ap.out.dk) ?_;clear f m;have c2:=DQ d K aT em aX ek W ap.out.reads (px ap.out.reads dr.out) cl;rw[<-a4.out]at c2;generalize aR K=eB at*;refine eO 3 fun m f=> ?_;go_wp2_with fail;refine c2.mono ?_;rintro e es ⟨dW,rfl,dV,cW⟩;clear c2 cl;have bP:Hid _:=ap.out.below dV;have cL:=bP.out.dk;have ab:Hid (ODisk W.1.size es dW E/\J<W.1.size):=⟨cW,ap.out.dk.lt⟩;clear dV cW ap;unfold av;go_wp2_with fail;refine goR f ?_;clear f m;refine cK 4 ?_;refine cK 5 ?_;refine cK 6 ?_;refine eO 7 fun m f=> ?_;refine bK (k:=J) (cs:=dkC dW E) cL rfl (gH _ _) (eH _ _) rfl rfl rfl (fun eM o j=> ?_);refine goR f ?_;clear f m;refine l9 ?_;have dD:Hid _:=bP.out.put ak.out j o ab.out.1 ab.out.2;clear o j cL bP ab;go_wp2_with fail
    go_meet
    exact⟨_,_,_,_,dD.out⟩
   ·have d3:(k%16==15)=false:=by simp[bl]
    have a4:Hid (E=bs):=by show E= _;rw[Q.out,CH bl]
    clear Q;go_wp2_with fail
    go_meet
    exact⟨_,_,_,_,by rw[a4.out];exact bF.out⟩
  ·have d3:(k%8==7)=false:=by simp[bm]
   have a4:Hid (E=K):=by show E= _;rw[a5.out,lF,CH bm]
   clear a5;go_wp2_with fail
   go_meet
   exact⟨_,_,_,_,by rw[a4.out];exact bb.out⟩
 case rest=>
 clear bb a5;obtain⟨d,s,q,Z,b9⟩:=hcut;obtain⟨eC,b2⟩:=aa wc;subst b2;have Y:Hid _:=b9;have kd:=b9.dk;have b4:=b9.r1;clear b9;go_wp2_with (first|(refine B5 rfl 35 _ rfl J rfl 35 (dkC d E).toArray (0,0) _ kd underlying35 rfl (eH _ _) ?_)|(refine DR rfl fun _ f=>bK (k:=z) (cs:=dkC d E) b4 rfl (gH _ _) (eH _ _) rfl rfl rfl (fun x o j=>f _ _ ?_)));have l0:x.cell? ⟨z,0,none⟩=some (.slice d.sa E.n d.sc):=o.cell 0;have dd:x.cell? ⟨z,1,none⟩=some (.slice d.pa E.m d.pc):=o.cell 1;have c3:Hid (Below w.1.size w x/\RDisk x d E/\dt E):=⟨Y.out.fr.trans (j.below ak.out.1 Y.out.fr.size),Y.out.fm x ((OnlyS.ofB j).mono (fun k _ e=>by show Z k;rw[show k=z from e];exact Y.out.zr)),ds.out⟩;clear o j b4 kd Y
 try go_wp2_with fail
 refine B3 (v:= .agg #[.slice d.sa E.n d.sc,.slice d.pa E.m d.pc]) (by simp[results,results25,go_sem,l0,dd]) rfl ?_;exact⟨d,rfl,c3.out⟩
