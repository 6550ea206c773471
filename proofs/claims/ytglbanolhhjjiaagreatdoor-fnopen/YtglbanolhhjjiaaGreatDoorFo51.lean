import Derived.Test.YtglbanolhhjjiaaGreatDoorFo50
namespace Go.Proofs.YtglbanolhhjjiaaGreatDoor
open Go.Proofs.Tryz
open Go.RowKit
set_option linter.unusedVariables false
set_option maxRecDepth 100000
set_option maxHeartbeats 32000000
theorem Firm.only{B g w w' d K}(b:Firm B w d K)(a:OnlyB g w w')(c:g<B):RDisk w' d K:=b _ ((OnlyS.ofB a).mono (fun k _ e=>by show k<B;omega))
structure OdV(g:Nat)(a:Option Addr)(n c:Nat)(l:List Int)(w:World)(db sb rd:Nat)(Z:Nat->Prop)(K:DK)(s:SupK)(q:Nat)(d:DV)(u:World):Prop where
 fr:Below w.1.size w u
 rdr:IsRd u g a n c l q
 dk:Blk u 35 db (dkC d K)
 su:Blk u 36 sb (al s.1 s.2.1 s.2.2.1 s.2.2.2)
 fm:∀x,OnlyS Z u x->RDisk x d K
 r1:Blk u 35 rd [.slice none 0 0,.slice none 0 0]
 zg:Z g
 zr:Z rd
abbrev OdN(w:World)(g db sb rd:Nat):Prop:=w.1.size<=rd/\rd<g/\g<db/\db<sb
section
variable {g:Nat} {a:Option Addr} {n c:Nat} {l:List Int} {w:World} {db sb rd:Nat} {Z:Nat->Prop} {K:DK} {s:SupK} {q:Nat} {d:DV} {u u':World}
theorem OdV.reads(b:OdV g a n c l w db sb rd Z K s q d u):RDisk u d K:=b.fm u (OnlyS.refl _ _)
theorem OdV.below(e:OdV g a n c l w db sb rd Z K s q d u)(b:Below u.1.size u u'):OdV g a n c l w db sb rd Z K s q d u':=
 ⟨e.fr.trans (b.mono e.fr.size),e.rdr.below b,e.dk.below b,e.su.below b,fun x hx=>e.fm x ((OnlyS.ofBelow b).trans hx),e.r1.below b,e.zg,e.zr⟩
theorem OdV.reader(f:OdV g a n c l w db sb rd Z K s q d u)(i:OdN w g db sb rd)(b:OnlyB g u u'){h}(j:IsRd u' g a n c l h):OdV g a n c l w db sb rd Z K s h d u':=by
 obtain⟨m,o,p,r⟩:=i;exact⟨f.fr.trans (b.below t7 f.fr.size),j,f.dk.only b t7,f.su.only b t7,fun x hx=>f.fm x (((OnlyS.ofB b).mono (fun k _ e=>by show Z k;rw[show k=g from e];exact f.zg)).trans hx),f.r1.only b t7,f.zg,f.zr⟩
theorem yY{k t q xs}(d:IsRd u g a n c l q)(f:OnlyB k u u')(y:Blk u t k xs)(v:∀(i:Nat)(x:Int),xs[i]?≠some (.int .u8 x))(w:g≠k):IsRd u' g a n c l q:=
 ⟨(f.block g d.lt w).trans d.box,⟨d.bs.len_eq,d.bs.le,d.bs.le',d.bs.nil,fun z=>by obtain⟨b,r,e,p,m⟩:=d.bs.at_ z;refine⟨b,r,e,ws p f.size,fun i o=> ?_⟩;have j:b≠k:=fun s=>by
 subst s;have h:=m i o;rw[y.cell]at h;exact v _ _ h;rw[<-m i o];exact CP (f.block b p j),d.bs.byte⟩,d.le,d.at_⟩
theorem IM(d K):∀(i:Nat)(x:Int),(dkC d K)[i]?≠some (.int .u8 x):=fun i x e=>by
 have:=List.mem_of_getElem? e;simp[dkC]at this
theorem IP(x y a t):∀(i:Nat)(v:Int),(al x y a t)[i]?≠some (.int .u8 v):=fun i v e=>by
 have:=List.mem_of_getElem? e;simp[al]at this
theorem OdV.put(h:OdV g a n c l w db sb rd Z K s q d u)(i:OdN w g db sb rd)(b:OnlyB db u u'){f K'}(m:Blk u' 35 db (dkC f K')){B'}(j:ODisk B' u f K')(o:db<B'):OdV g a n c l w db sb rd (fun k=>k<B') K' s q f u':=by
 obtain⟨p,r,t,v⟩:=i;exact⟨h.fr.trans (b.below t7 h.fr.size),yY h.rdr b h.dk (IM _ _) t7,m,h.su.only b t7,fun x hx=>j.firm x (((OnlyS.ofB b).mono (fun k _ e=>by show k<B';omega)).trans hx),h.r1.only b t7,(by show g<B';omega),(by show rd<B';omega)⟩
theorem OdV.other{f x y A v}(h:OdV g a n c l w db sb rd Z K s q d u)(i:OdN w g db sb rd)(o:sb<f)(b:OnlyB f u u')(j:Blk u 36 f (al x y A v))(m:Z f):OdV g a n c l w db sb rd Z K s q d u':=by
 obtain⟨p,r,t,z⟩:=i;exact⟨h.fr.trans (b.below t7 h.fr.size),yY h.rdr b j (IP _ _ _ _) t7,h.dk.only b t7,h.su.only b t7,fun x hx=>h.fm x (((OnlyS.ofB b).mono (fun k _ e=>by show Z k;rw[show k=f from e];exact m)).trans hx),h.r1.only b t7,h.zg,h.zr⟩
theorem IQ{p r q xs}(C:ROp u p r xs)(h:OnlyB g u u')(o:IsRd u g a n c l q):ROp u' p r xs:=by
 obtain⟨t,d,x⟩:=C;refine⟨t,⟨d.ok,d.le,d.le',d.nil,fun m=> ?_⟩,x.keep (cx h o.box uv)⟩;obtain⟨b,s,e,k,j⟩:=d.at_ m;refine⟨b,s,e,ws k h.size,fun i q z A=> ?_⟩;have y:b≠g:=fun v=>by
  subst v;have f:=j 0 2 m t7;rw[CV _ _ _ _ _ _ o.box]at f;have w:(opF xs t 0)[2]?=some (.slice (t 0).1 (xs.getD 0 op0).2.2.length (t 0).2):=rfl;rw[w]at f;have B:=(vR.1 f).1;simp at B;omega
 rw[<-j i q z A];exact CP (h.block b k y)
end
theorem IR{l n k M}(a:dt M.1):dt (lF l n k M):=by
 unfold lF py;split
 ·split
  ·exact IA (mI a _ _) _
  ·exact mI a _ _
 ·exact a
theorem IS(a n c l w)(ev:Bs w a n c l)(D)(ad:D=sY (l.take 1000) (min n 1000) 0):
 Calls prog 25 #[.slice a n c] w fun e w'=> ∃d,e= .returned (av d D)/\Below w.1.size w w'/\RDisk w' d D/\dt D:=by
 obtain⟨bc,a7⟩:=aa (w.alloc (.cells #[.slice none 0 0,.slice none 0 0] 35));have L:Below w.1.size w bc:=by rw[a7];exact bAl _ _
 have eq:bc.1.size=w.1.size+1:=by rw[a7];simp
 have db:Blk bc 35 w.1.size [.slice none 0 0,.slice none 0 0]:=by rw[a7];exact aq w _ _
 have LO:=Bw a n c l bc (ev.below L);go_enter func25,ntmps25;go_upto_region 1 with fail
 change Code.wp _ _ _ _ (w.alloc (.cells #[.slice none 0 0,.slice none 0 0] 35));rw[<-a7];obtain⟨y,cq⟩:=aa w.1.size;rw[<-cq]at db ⊢;have bn:Hid (w.1.size<=y/\y<bc.1.size/\Below w.1.size w bc/\Blk bc 35 y [.slice none 0 0,.slice none 0 0]):=⟨t7,t7,L,db⟩;clear a7 L eq db cq ev;go_wp2_with fail;refine LO.mono ?_;rintro e dl ⟨g,rfl,c6,cm,bf⟩;clear LO;generalize min n 1000=n at*;generalize l.take 1000=l at*;have bW:=cZ g a n c l 0 dl bf;have bx:Hid (∀i,0<=l.getD i 0/\l.getD i 0<256):=bf.bs.byte;have dV:=bx.out 0;have ch:=bf.lt;have Q:Hid (w.1.size<=y/\y<g/\Below w.1.size w dl/\Blk dl 35 y [.slice none 0 0,.slice none 0 0]):=⟨bn.out.1,ws bn.out.2.1 cm,bn.out.2.2.1.trans (c6.mono bn.out.2.2.1.size),bn.out.2.2.2.below c6⟩;clear bn c6 cm bf;go_wp2_with fail;refine bW.mono ?_;rintro e am ⟨rfl,ae,af⟩;clear bW;obtain⟨k,c9⟩:=aa (l.getD 0 0);unfold sY at ad;rw[<-c9]at dV ad ⊢;clear c9;obtain⟨cM,ex⟩:=dV;obtain⟨p,d2⟩:=aa (rdP n 0);rw[<-d2]at ad af;clear d2;have t:Hid (w.1.size<=y/\y<g/\Below w.1.size w am/\Blk am 35 y [.slice none 0 0,.slice none 0 0]/\g<am.1.size):=⟨Q.out.1,Q.out.2.1,Q.out.2.2.1.trans (ae.below (by have:=Q.out;omega) Q.out.2.2.1.size),Q.out.2.2.2.only ae (by have:=Q.out;omega),ws ch ae.size⟩;clear Q ae ch;by_cases bX:248<=k
 ·rw[BC bX]at ad;have dF:=Iz g a n c l p am af D ad;clear af ad;go_wp2_with fail;refine dF.mono ?_;rintro e o ⟨d,rfl,bd,R,cW⟩;clear dF;have b3:=t.out.2.2.2.1.only bd (by have:=t.out;omega);have ap:=t.out.2.2.1.trans (bd.below (by have:=t.out;omega) t.out.2.2.1.size);have X:Hid (Below w.1.size w o/\Firm am.1.size o d D/\dt D):=⟨ap,R,cW.low⟩;clear bd R cW ap;unfold av;go_wp2_with (refine C2 rfl fun _ f=>bK (k:=y) (cs:=dkC d D) b3 rfl (gH _ _) (eH _ _) rfl rfl rfl (fun x m h=>f _ _ ?_));have l0:x.cell? ⟨y,0,none⟩=some (.slice d.sa D.n d.sc):=m.cell 0;have dc:x.cell? ⟨y,1,none⟩=some (.slice d.pa D.m d.pc):=m.cell 1;have c2:Hid (Below w.1.size w x/\RDisk x d D/\dt D):=⟨X.out.1.trans (h.below t.out.1 X.out.1.size),X.out.2.1.only h (by have:=t.out;omega),X.out.2.2⟩;clear m h b3 X
  try go_wp2_with fail
  refine BB (v:= .agg #[.slice d.sa D.n d.sc,.slice d.pa D.m d.pc]) (by simp[results,results25,go_sem,l0,dc]) rfl ?_;exact⟨d,rfl,c2.out⟩
 rw[BX bX]at ad;have eb:k<248:=t7;obtain⟨M,c8⟩:=aa (lE l n p);have c0:=IL g a n c l p am af M c8;have bm:=Iu l n p;rw[<-c8]at bm ad;obtain⟨K,⟨G,P,U,b6⟩,q⟩:=M;have bz:Hid (dt K):=bm;have dr:Hid (dt D):=by rw[ad];exact IR bm
 have a4:Hid (D=lF l n k (K,(G,P,U,b6),q)):=ad;clear ad c8 af bm;simp only at c0;go_wp2_with fail;refine c0.mono ?_;rintro e o ⟨d,rfl,bd,bv,R⟩;clear c0;have ab:Below o.1.size o ((o.alloc (.cells #[.slice none 0 0,.slice none 0 0] 35)).alloc (.cells #[.int .i64 0,.int .i64 0,.int .i64 0,.int .i64 0] 36)):=(bAl _ _).alloc uB _;have cL:Blk ((o.alloc (.cells #[.slice none 0 0,.slice none 0 0] 35)).alloc (.cells #[.int .i64 0,.int .i64 0,.int .i64 0,.int .i64 0] 36)) 35 o.1.size [.slice none 0 0,.slice none 0 0]:=(aq o 35 #[.slice none 0 0,.slice none 0 0]).below (bAl _ _);have cR:Blk ((o.alloc (.cells #[.slice none 0 0,.slice none 0 0] 35)).alloc (.cells #[.int .i64 0,.int .i64 0,.int .i64 0,.int .i64 0] 36)) 36 (o.1.size+1) (al 0 0 0 0):=by
  have:=aq (o.alloc (.cells #[.slice none 0 0,.slice none 0 0] 35)) 36 #[.int .i64 0,.int .i64 0,.int .i64 0,.int .i64 0];rw[World.size_alloc]at this;exact this
 have dD:Hid (Below w.1.size w o/\IsRd o g a n c l q/\Firm am.1.size o d K/\Blk o 35 y [.slice none 0 0,.slice none 0 0]/\g<o.1.size/\Below o.1.size o ((o.alloc (.cells #[.slice none 0 0,.slice none 0 0] 35)).alloc (.cells #[.int .i64 0,.int .i64 0,.int .i64 0,.int .i64 0] 36))):=⟨t.out.2.2.1.trans (bd.below (by have:=t.out;omega) t.out.2.2.1.size),bv,R,t.out.2.2.2.1.only bd (by have:=t.out;omega),bv.lt,ab⟩;clear ab bd bv R;unfold av;go_upto_region 6 with(first
  |(refine C2 rfl fun _ f=>bK (k:=o.1.size) (cs:=dkC d K) cL rfl (gH _ _) (eH _ _) rfl rfl rfl (fun d9 m h=>f _ _ ?_);have cS:=cR.only h t7;have ce:=t6 m h;clear m h cL)
  |(refine C2 rfl fun _ f=>bK (k:=o.1.size+1) (cs:=al G P U b6) cS rfl (fe _ _ _ _) bj rfl rfl rfl (fun cc cA b2=>f _ _ ?_)))
 obtain⟨m,h⟩:=ce.out;obtain⟨ap,bv,R,cP,d5,ab⟩:=dD.out;have cf:=h.below (u3 o.1.size) ab.size;have cg:=b2.below (xa o.1.size) (u9 ab.size h.size);have a6:Below o.1.size o cc:=ab.trans (cf.trans cg);have ba:Hid (OdV g a n c l w o.1.size (o.1.size+1) y (fun k=>k<am.1.size\/o.1.size<=k) K (G,P,U,b6) q d cc):=⟨ap.trans (a6.mono ap.size),bv.below a6,m.only b2 t7,cA,fun x hx=>R x ((OnlyS.ofBelow a6).transN hx (fun k c9 e=>by rcases e with e|e;exact e;omega)),cP.below a6,u5 t.out.2.2.2.2,u5 (by show y<am.1.size;have:=t.out;omega)⟩;obtain⟨sb,cv⟩:=aa (o.1.size+1);obtain⟨I,cl⟩:=aa o.1.size;obtain⟨B,cj⟩:=aa am.1.size;have ag:Hid (OdN w g I sb y):=⟨t.out.1,t.out.2.1,t7,t7⟩;rw[<-cv]at ba ⊢;rw[<-cl]at ba ⊢;rw[<-cj]at ba;clear m h ap bv R cP d5 ab cf cg a6 cv cl cj ce dD cR cS cA b2 t;have dX:k.tmod 8=k%8:=z6 cM;have da:k.tmod 16=k%16:=z6 cM;go_upto_if 25 with fail
 go_cut [] (fun cb=> ∃d s q Z,OdV g a n c l w I sb y Z D s q d cb)
 case first=>
  by_cases bl:k%8=7
  ·rw[bl]at dX;obtain⟨a0,bY⟩:=aa (fG l n 9 q);obtain⟨a1,b0⟩:=aa (upR K G P U b6 a0.1);have O:Hid (D=py l n k K a1.1 a0.2):=by show D= _;rw[a4.out,lF,BC bl,b0,bY]
   have c3:Hid _:=bY;have bg:Hid _:=b0;have W:Hid (a0.1.length<=1048576/\∀x∈a0.1,x.1.size<=1048575/\x.2.1.size<=1048575):=by
    have:=rF l n (l.getD q 0%((9+1:Nat):Int)).toNat (rdP n q) [] (fun x hx=>by cases hx);refine⟨?_,by show∀x∈a0.1,_;rw[bY];exact this.2⟩;have ek:=this.1;rw[bY];unfold fG;have eK:(l.getD q 0%((9+1:Nat):Int)).toNat<=10:=t7;simp only[zP]at ek;omega
   clear bY b0 a4;have J:=bDr cc;have bb:Hid _:=ba.out.below J;clear J ba;go_upto_region 7 with fail
   go_cut [7] (fun em cb=> ∃F ob,em= .slice F a1.1.length ob/\OdV g a n c l w I sb y (fun k=>k<B\/I<=k) K (G,P,U,b6) a0.2 d cb/\ROp cb F ob a1.1)
   case first=>
    refine az (fun u=>(Instr.loadAt 35 (.pointer (some ⟨I,0,none⟩))).run prog u= .ok (.agg (dkC d K).toArray) u/\(Instr.loadAt 36 (.pointer (some ⟨sb,0,none⟩))).run prog u= .ok (.agg (al G P U b6).toArray) u) (fun _=>false) uA ?_;generalize cc.drew=v0 at*;have H:=u2 (aL bb.out.dk) (aN bb.out.su);refine aM 0 (.agg (dkC d K).toArray) H ?hb0 ?_
    case hb0=>exact fun u ac=>bo (p:= .pointer (some ⟨I,0,none⟩)) rfl rfl ac.1
    refine aM 1 (.agg (al G P U b6).toArray) H ?hb1 ?_
    case hb1=>exact fun u ac=>bo (p:= .pointer (some ⟨sb,0,none⟩)) rfl rfl ac.2
    refine ai 2 H ?_;clear H;refine fQ 3 9 uA rfl rfl (fun j f=> ?oB) (fun j f=> ?oA)
    case' oA=>
     rw[BC (show Region.wanted _ _=true from rfl)];obtain⟨v1,z⟩:=aa (v0.alloc (.cells #[.int .i64 0,.int .i64 0,.int .i64 0,.int .i64 0] 36));have L:Below v0.1.size v0 v1:=by rw[z];exact bAl _ _
     have b7:Hid _:=bb.out.below L;have E:Blk v1 36 v0.1.size (al 0 0 0 0):=by rw[z];exact aq v0 _ _
     have a9:Hid (sb<v0.1.size):=bb.out.su.lt;go_wp2_with fail;rw[<-z];refine f.out _ _ (fun _=>⟨aL b7.out.dk,aN b7.out.su⟩) ?_;obtain⟨aX,S⟩:=aa v0.1.size;rw[<-S]at E a9 ⊢;have dE:Hid (Blk v1 36 aX (al 0 0 0 0)):=E;clear f j z L S E;refine ah 3 fun j f=> ?_;have bS:=oQ g a n c l q 9 v1 b7.out.rdr t7 a0 c3.out;go_wp2_with fail;refine bS.mono ?_;rintro e v3 ⟨aS,aT,rfl,ae,af,a8⟩;clear bS;have aB:Hid _:=b7.out.reader ag.out ae af;have b5:Hid (RRow v3 3 aS a0.1.length aT (chF a0.1)):=a8.reads;have bP:Hid (Blk v3 36 aX (al 0 0 0 0)):=Blk.only dE.out ae (by have:=ag.out;have:=a9.out;omega);clear a8 ae af;go_wp2_with fail;refine f.out _ _ (fun _=>⟨aL aB.out.dk,aN aB.out.su⟩) ?_;clear f j;refine ah 4 fun j f=> ?_;have a5:=lD d K G P U b6 aS aT a0.1 v3 aB.out.reads b5.out W.out.1 W.out.2 a1 bg.out;go_wp2_with fail;refine a5.mono ?_;rintro e N ⟨F,ob,rfl,ak,T⟩;clear a5;have r:Hid _:=aB.out.below ak;have aA:Hid (ROp N F ob a1.1):=T;have bR:Hid (Blk N 36 aX (al 0 0 0 0)):=Blk.below bP.out ak;clear ak T;go_wp2_with fail;refine f.out _ _ (fun _=>⟨aL r.out.dk,aN r.out.su⟩) ?_;clear f j;refine ai 5 (⟨aL r.out.dk,aN r.out.su⟩) ?_;refine ai 6 (⟨aL r.out.dk,aN r.out.su⟩) ?_;refine ai 7 (⟨aL r.out.dk,aN r.out.su⟩) ?_;refine ai 8 (⟨aL r.out.dk,aN r.out.su⟩) ?_
    case' oB=>
     rw[BC (show Region.wanted _ _=true from rfl)];have bS:=oQ g a n c l q 9 v0 bb.out.rdr t7 a0 c3.out;go_wp2_with fail;refine bS.mono ?_;rintro e v2 ⟨aS,aT,rfl,ae,af,a8⟩;clear bS;have bs:Hid _:=bb.out.reader ag.out ae af;have b4:Hid (RRow v2 3 aS a0.1.length aT (chF a0.1)):=a8.reads;clear a8 ae af;go_wp2_with fail;refine f.out _ _ (fun _=>⟨aL bs.out.dk,aN bs.out.su⟩) ?_;clear f j;refine fQ 4 9 uA rfl rfl (fun j f=> ?oC) (fun j f=> ?oD)
     case' oD=>
      rw[BC (show Region.wanted _ _=true from rfl)];obtain⟨v3,z⟩:=aa (v2.alloc (.cells #[.int .i64 0,.int .i64 0,.int .i64 0,.int .i64 0] 36));have L:Below v2.1.size v2 v3:=by rw[z];exact bAl _ _
      have aB:Hid _:=bs.out.below L;have E:Blk v3 36 v2.1.size (al 0 0 0 0):=by rw[z];exact aq v2 _ _
      have a9:Hid (sb<v2.1.size):=bs.out.su.lt;go_wp2_with fail;rw[<-z];refine f.out _ _ (fun _=>⟨aL aB.out.dk,aN aB.out.su⟩) ?_;obtain⟨aX,S⟩:=aa v2.1.size;rw[<-S]at E a9 ⊢;have bP:Hid (Blk v3 36 aX (al 0 0 0 0)):=E;have dI:Hid _:=L;clear f j z L S E;have b5:Hid (RRow v3 3 aS a0.1.length aT (chF a0.1)):=b4.out.below dI.out;clear b4 dI;refine ah 4 fun j f=> ?_;have a5:=lD d K G P U b6 aS aT a0.1 v3 aB.out.reads b5.out W.out.1 W.out.2 a1 bg.out;go_wp2_with fail;refine a5.mono ?_;rintro e N ⟨F,ob,rfl,ak,T⟩;clear a5;have r:Hid _:=aB.out.below ak;have aA:Hid (ROp N F ob a1.1):=T;have bR:Hid (Blk N 36 aX (al 0 0 0 0)):=Blk.below bP.out ak;clear ak T;go_wp2_with fail;refine f.out _ _ (fun _=>⟨aL r.out.dk,aN r.out.su⟩) ?_;clear f j;refine ai 5 (⟨aL r.out.dk,aN r.out.su⟩) ?_;refine ai 6 (⟨aL r.out.dk,aN r.out.su⟩) ?_;refine ai 7 (⟨aL r.out.dk,aN r.out.su⟩) ?_;refine ai 8 (⟨aL r.out.dk,aN r.out.su⟩) ?_
     case' oC=>
      rw[BC (show Region.wanted _ _=true from rfl)];have a5:=lD d K G P U b6 aS aT a0.1 v2 bs.out.reads b4.out W.out.1 W.out.2 a1 bg.out;go_wp2_with fail;refine a5.mono ?_;rintro e V ⟨F,ob,rfl,ak,T⟩;clear a5;have A:Hid _:=bs.out.below ak;have aA:Hid (ROp V F ob a1.1):=T;clear ak T;go_wp2_with fail;refine f.out _ _ (fun _=>⟨aL A.out.dk,aN A.out.su⟩) ?_;clear f j;refine ai 5 (⟨aL A.out.dk,aN A.out.su⟩) ?_;refine ai 6 (⟨aL A.out.dk,aN A.out.su⟩) ?_;refine ai 7 (⟨aL A.out.dk,aN A.out.su⟩) ?_;refine ai 8 (⟨aL A.out.dk,aN A.out.su⟩) ?_;refine ah 9 fun j f=> ?_;obtain⟨N,z⟩:=aa (V.alloc (.cells #[.int .i64 0,.int .i64 0,.int .i64 0,.int .i64 0] 36));have L:Below V.1.size V N:=by rw[z];exact bAl _ _
      have r:Hid _:=A.out.below L;have E:Blk N 36 V.1.size (al 0 0 0 0):=by rw[z];exact aq V _ _
      have a9:Hid (sb<V.1.size):=A.out.su.lt;go_wp2_with fail;rw[<-z];refine f.out _ _ (fun _=>⟨aL r.out.dk,aN r.out.su⟩) ?_;obtain⟨aX,S⟩:=aa V.1.size;rw[<-S]at E a9 ⊢;have bR:Hid (Blk N 36 aX (al 0 0 0 0)):=E;have dk:Hid (ROp N F ob a1.1):=ROp.below aA.out L;clear aA;have aA:Hid (ROp N F ob a1.1):=dk.out;clear f j z L S E
    all_goals
     refine ah 10 fun j f=> ?_;go_wp2_with fail;refine f.out _ _ (fun _=>⟨aL r.out.dk,aN r.out.su⟩) ?_;clear f j;have b9:=bR.out;refine ah 11 fun j f=> ?_;refine bK (k:=aX) (cs:=al a1.2.1.1 a1.2.1.2.1 a1.2.1.2.2.1 a1.2.1.2.2.2) b9 rfl (fe _ _ _ _) bj rfl rfl rfl (fun d9 m h=> ?_);have bT:Hid _:=r.out.other ag.out a9.out h b9 (u4 (by have:=ag.out;have:=a9.out;omega));have d8:Hid (ROp d9 F ob a1.1):=yW aA.out h b9;refine ao f ?_ (fun _=>⟨aL bT.out.dk,aN bT.out.su⟩);clear f j m h b9;refine ah 12 fun j f=> ?_;go_wp2_with fail;refine aU f ?_ (fun _=>⟨aL bT.out.dk,aN bT.out.su⟩);clear f j;go_wp2_with fail
     go_meet
     exact⟨F,ob,rfl,bT.out,d8.out⟩
   case rest=>
   clear bb;obtain⟨F,ob,rfl,dW,cr⟩:=hcut;obtain⟨c5,b1⟩:=aa wc;subst b1;have J:=bDr c5;have C:Hid _:=dW.below J;have bA:Hid (ROp c5.drew F ob a1.1):=cr.below J;clear dW cr J c3 bg W;obtain⟨xs,cz⟩:=aa a1.1;rw[<-cz]at O bA ⊢;clear cz;obtain⟨ca,cp⟩:=aa a0.2;rw[<-cp]at O C;clear cp;go_wp2_with fail;refine l7 (fun u=>(Instr.loadAt 35 (.pointer (some ⟨I,0,none⟩))).run prog u= .ok (.agg (dkC d K).toArray) u) 4 uA ?_;generalize c5.drew=v1 at*;have H:=aL C.out.dk;refine l8 0 (.agg (dkC d K).toArray) H ?hzp0 ?_
   case hzp0=>exact fun u ac=>bo (p:= .pointer (some ⟨I,0,none⟩)) rfl rfl ac
   refine cK 1 ?_;refine cK 2 ?_;refine eO 3 fun j f=> ?_;have bW:=cZ g a n c l ca v1 C.out.rdr;go_wp2_with fail;refine bW.mono ?_;rintro e v2 ⟨rfl,dd,bf⟩;clear bW H;have es:Hid _:=bx.out ca;unfold py at O;generalize l.getD ca 0=b at*;have a2:Hid _:=C.out.reader ag.out dd bf;have bB:Hid (ROp v2 F ob xs):=IQ bA.out dd C.out.rdr;generalize rdP n ca=bu at*;clear C bA dd bf;go_wp2_with fail;refine f.out _ _ (fun _=>aL a2.out.dk) ?_;clear f j;have c4:=Iq d K F ob xs b v2 a2.out.reads bz.out bB.out;obtain⟨br,bZ⟩:=aa (cu K xs b);have dq:Hid (dt br):=by rw[bZ];exact mI bz.out _ _
   rw[<-bZ]at c4 O;refine eO 4 fun j f=> ?_;go_wp2_with fail;refine c4.mono ?_;rintro e v3 ⟨c7,et,rfl,dP,cT⟩;clear c4 bZ;have bC:Hid _:=a2.out.below dP;have cB:=bC.out.dk;have Y:Hid (ODisk v2.1.size v3 c7 br/\I<v2.1.size):=⟨cT,a2.out.dk.lt⟩;clear dP cT a2 bB;unfold av;go_wp2_with fail;refine goR f ?_;clear f j;refine cK 5 ?_;refine cK 6 ?_;refine cK 7 ?_;refine eO 8 fun j f=> ?_;refine bK (k:=I) (cs:=dkC c7 br) cB rfl (gH _ _) (eH _ _) rfl rfl rfl (fun ea m h=> ?_);refine goR f ?_;clear f j;refine l9 ?_;have bE:Hid _:=bC.out.put ag.out h m Y.out.1 Y.out.2;clear m h cB bC Y bz;by_cases bk:k%16=15
   ·rw[bk]at da;have a3:Hid (D=iC br (ki l n bu)):=by show D= _;rw[O.out,BC bk]
    clear O;obtain⟨K,d3⟩:=aa br;subst d3;obtain⟨d,d4⟩:=aa c7;subst d4;have J:=bDr ea;have C:Hid _:=bE.out.below J;clear bE J;go_wp2_with fail;refine l7 (fun u=>(Instr.loadAt 35 (.pointer (some ⟨I,0,none⟩))).run prog u= .ok (.agg (dkC d K).toArray) u) 3 uA ?_;generalize ea.drew=N at*;have H:=aL C.out.dk;refine l8 0 (.agg (dkC d K).toArray) H ?hzr0 ?_
    case hzr0=>exact fun u ac=>bo (p:= .pointer (some ⟨I,0,none⟩)) rfl rfl ac
    refine cK 1 ?_;refine eO 2 fun j f=> ?_;have dp:=Bz g a n c l bu N C.out.rdr;have cn:IsB (ki l n bu):=qz bx.out n _ _;generalize ki l n bu=ef at*;generalize iR l bu=ej at*;generalize qy l n bu=eL at*;go_wp2_with fail;refine dp.mono ?_;rintro e V ⟨aS,aT,rfl,d6,d7,cX⟩;clear dp H;have an:Hid _:=C.out.reader ag.out d6 d7;have ck:=cX.bs cn;clear C d6 d7 cX cn;go_wp2_with fail;refine f.out _ _ (fun _=>aL an.out.dk) ?_;clear f j;have c1:=DQ d K aS ej aT ef V an.out.reads (px an.out.reads dq.out) ck;rw[<-a3.out]at c1;generalize aR K=eB at*;refine eO 3 fun j f=> ?_;go_wp2_with fail;refine c1.mono ?_;rintro e en ⟨dU,rfl,dS,cV⟩;clear c1 ck;have bF:Hid _:=an.out.below dS;have cD:=bF.out.dk;have Y:Hid (ODisk V.1.size en dU D/\I<V.1.size):=⟨cV,an.out.dk.lt⟩;clear dS cV an;unfold av;go_wp2_with fail;refine goR f ?_;clear f j;refine cK 4 ?_;refine cK 5 ?_;refine cK 6 ?_;refine eO 7 fun j f=> ?_;refine bK (k:=I) (cs:=dkC dU D) cD rfl (gH _ _) (eH _ _) rfl rfl rfl (fun eM m h=> ?_);refine goR f ?_;clear f j;refine l9 ?_;have ds:Hid _:=bF.out.put ag.out h m Y.out.1 Y.out.2;clear m h cD bF Y;go_wp2_with fail
    go_meet
    exact⟨_,_,_,_,ds.out⟩
   ·have d1:(k%16==15)=false:=by simp[bk]
    have a3:Hid (D=br):=by show D= _;rw[O.out,BX bk]
    clear O;go_wp2_with fail
    go_meet
    exact⟨_,_,_,_,by rw[a3.out];exact bE.out⟩
  ·have d1:(k%8==7)=false:=by simp[bl]
   have a3:Hid (D=K):=by show D= _;rw[a4.out,lF,BX bl]
   clear a4;go_wp2_with fail
   go_meet
   exact⟨_,_,_,_,by rw[a3.out];exact ba.out⟩
 case rest=>
 clear ba a4;obtain⟨d,s,q,Z,b8⟩:=hcut;obtain⟨eC,b1⟩:=aa wc;subst b1;have X:Hid _:=b8;have kd:=b8.dk;have b3:=b8.r1;clear b8;go_wp2_with (first|(refine BD rfl 35 _ rfl I rfl 35 (dkC d D).toArray (0,0) _ kd underlying35 rfl (eH _ _) ?_)|(refine C2 rfl fun _ f=>bK (k:=y) (cs:=dkC d D) b3 rfl (gH _ _) (eH _ _) rfl rfl rfl (fun x m h=>f _ _ ?_)));have l0:x.cell? ⟨y,0,none⟩=some (.slice d.sa D.n d.sc):=m.cell 0;have dc:x.cell? ⟨y,1,none⟩=some (.slice d.pa D.m d.pc):=m.cell 1;have c2:Hid (Below w.1.size w x/\RDisk x d D/\dt D):=⟨X.out.fr.trans (h.below ag.out.1 X.out.fr.size),X.out.fm x ((OnlyS.ofB h).mono (fun k _ e=>by show Z k;rw[show k=y from e];exact X.out.zr)),dr.out⟩;clear m h b3 kd X
 try go_wp2_with fail
 refine BB (v:= .agg #[.slice d.sa D.n d.sc,.slice d.pa D.m d.pc]) (by simp[results,results25,go_sem,l0,dc]) rfl ?_;exact⟨d,rfl,c2.out⟩
