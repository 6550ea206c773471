import Derived.Test.YtnohmedccbogkaaGreatDoorCo30
namespace Go.Proofs.YtnohmedccbogkaaGreatDoor
open Go.Proofs.Tryz
open Go.RowKit
set_option linter.unusedVariables false
set_option maxRecDepth 100000
set_option maxHeartbeats 32000000
theorem Lk{o p d K g gw a B0 root w1}(h:RDisk w1 d K)(m:dOk K)(t:Errs w1 o p)(v:w1.ownsMap prog 3 (plainElem prog 3) g K.m (eZ K.At K.m))(j:w1.1.size<=a)(l:w1.1.size<=gw)(c:a<B0)(i:gw<B0):
 Src (pgD K) B0 83 157 (.pointer (some ⟨gw,0,none⟩)) (CS (pgD K) w1 gw a (woC d K g a root)) (fun k=>k=a) where
 low:=fun k e=>by subst e;exact c
 meth:=fun w=>Lh _ w
 ent:=fun _ _=>rfl
 keep:=fun x u' b f u=>by
  obtain⟨n,y,s⟩:=b.ca;exact⟨b.b.trans (f.mono kH),(f.block gw i).trans b.k,n,y,s.keep (f.block a c) u⟩
 page:=fun x id b q r=>Li h m t v j l id x b q r
structure WoS(K:DK)(root:Int)(B gw:Nat)(w':World):Prop where
 ok:dOk K
 ex:∃(B0:Nat)(S:World->Prop)(X:Nat->Prop),Src (pgD K) B0 83 157 (.pointer (some ⟨gw,0,none⟩)) S X/\S w'/\B0<=w'.1.size/\(∀u,S u->u.cell? ⟨gw,4,none⟩=some (.int .i64 root))/\(∀k,X k->B<=k)/\B<=B0
theorem Nb(d K g a root):prog.built 145 [(0,.agg #[.slice d.sa K.n d.sc,.slice d.pa K.m d.pc,.map (some g)]),(1,.map (some a)),(2,.int .i64 root)]=some (woC d K g a root).toArray:=kO
theorem Ll(P)(w:World)(o):CaQ P ((w.alloc (.map #[] 0)).alloc o) w.1.size [] (.map []):=⟨(World.ownsMap_made w _ _ _).alloc o,⟨o0,fun x hx=>by simp at hx⟩,fun i=>by rfl,fun i a=>by simp at a⟩
def awV:Bool->Nat->Value
 |true,gw=> .tuple #[.pointer (some ⟨gw,0,none⟩),.bool true]
 |false,_=> .tuple #[.pointer none,.bool false]
def AwP(K:DK)(gen root used free:Int)(w:World)(e:Ending)(w':World):Prop:=Below w.1.size w w'/\((whB K gen root used free=false/\e= .returned (.tuple #[.pointer none,.bool false]))\/(whB K gen root used free=true/\∃gw,e= .returned (.tuple #[.pointer (some ⟨gw,0,none⟩),.bool true])/\WoS K root w.1.size gw w'))
theorem Lm(cq cr d K i root c a w)(h:RDisk w d K)(b9:Errs w cq cr):
 Calls prog 42 #[.agg (stV d K i root c a).toArray] w (AwP K i root c a w):=by
 obtain⟨Q,z⟩:∃co,co=w.alloc (.cells (stV d K i root c a).toArray 40):=⟨_,rfl⟩;have be:Below w.1.size w Q:=by rw[z];exact bAl _ _
 have cL:Q.1.size=w.1.size+1:=by rw[z];simp
 have bb:Blk Q 40 w.1.size (stV d K i root c a):=by rw[z];exact ao w _ _
 have Y:=h.below be;have b0:=b9.below be;have O:=kG be (kR bb (kR Y b0));have b4:Q.cell? ⟨w.1.size,0,none⟩=some (.slice d.sa K.n d.sc):=bb.cell 0;have b5:Q.cell? ⟨w.1.size,1,none⟩=some (.slice d.pa K.m d.pc):=bb.cell 1;clear be bb h b9 b0;cases B:bK K with
 |false=>
  have P:=Gt d K Q Y (fun bH=>by rw[oV bH]at B;cases B);have bF:Hid (whB K i root c a=false):=by show whB K i root c a=false;unfold whB;rw[B]
  unfold bC at P;unfold rZ at P;clear Y B;go_enter func42,ntmps42;go_upto_region 1 with fail
  change Code.wp _ _ _ _ (w.alloc (.cells (stV d K i root c a).toArray 40));rw[<-z];clear z;go_wp2_with fail;refine P.mono ?_;rintro e N ⟨rfl,X⟩;have bE:=O.out.1.trans (X.mono O.out.1.size);have b1:Hid _:=bE.alloc bE.size (.cells #[.slice none 0 0,.slice none 0 0,.map none] 140);clear P X bE b4 b5;go_wp2_with (refine aL rfl 140 _ _ rfl N #[.slice none 0 0,.slice none 0 0,.map none] #[.slice none 0 0,.slice none 0 0,.map none] 140 rfl rfl Af rfl rfl ?_)
  go_ret2
  exact⟨b1.out,kV ⟨bF.out,rfl⟩⟩
 |true=>
  have T:=jj B;have cu:=T.1.2.1;have P:=Gu d.sa d.pa d.sc d.pc d.sA d.pA d.sN d.sC d.pN d.pC K Q Y.safe Y.pend T;have bF:Hid (whB K i root c a=hoB (pgD K) (nPg K) ((nPg K:Nat):Int) i root c a):=by show whB K i root c a= _;unfold whB;rw[B]
  have R:Hid _:=T;clear Y B T;go_enter func42,ntmps42;go_upto_region 1 with fail
  change Code.wp _ _ _ _ (w.alloc (.cells (stV d K i root c a).toArray 40));rw[<-z];clear z;go_wp2_with fail;refine P.mono ?_;rintro e N ⟨g,rfl,X,bq⟩;have ck:=bAl N (.cells (rdV d K g).toArray 140);have ab:=X.trans (ck.mono X.size);have U:=O.out.2.1.below ab;have bn:=ao N 140 (rdV d K g).toArray;have bs:=bq.alloc (.cells (rdV d K g).toArray 140);have cE:=ab.size;have b7:=O.out.1.trans (ab.mono O.out.1.size);have ac:=kG U (kR bs (kR (O.out.2.2.1.below ab) (kR (O.out.2.2.2.below ab) b7)));clear P X bq ck ab bs b4 b5 b7;go_upto_region 4 with(first|(refine aL rfl 140 _ _ rfl N #[.slice none 0 0,.slice none 0 0,.map none] (rdV d K g).toArray 140 rfl rfl Af rfl (dP (Lf d K g)) ?_))
  change Code.wp _ _ _ _ (N.alloc (.cells (rdV d K g).toArray 140));generalize N.alloc (.cells (rdV d K g).toArray 140)=j at*;generalize N.1.size=bR at*;have bc:=bn;have cB:j.cell? ⟨bR,0,none⟩=some (.slice d.sa K.n d.sc):=bc.cell 0;have t:j.cell? ⟨bR,1,none⟩=some (.slice d.pa K.m d.pc):=bc.cell 1;have a7:j.cell? ⟨bR,2,none⟩=some (.map (some g)):=bc.cell 2;have cp:(j.alloc (Obj.map #[] 0)).cell? ⟨w.1.size,3,none⟩=some (.int .i64 root):=(U.below (kF.alloc kE (Obj.map #[] 0))).cell 3;obtain⟨l,E⟩:∃co,co=(j.alloc (.map #[] 0)).alloc (.cells (woC d K g j.1.size root).toArray 145):=⟨_,rfl⟩;have bf:Below j.1.size j l:=by rw[E];exact(bAl _ _).alloc kP _
  have cm:l.1.size=j.1.size+1+1:=by rw[E];simp
  have cf:Blk l 145 (j.1.size+1) (woC d K g j.1.size root):=by
   have:=ao (j.alloc (.map #[] 0)) 145 (woC d K g j.1.size root).toArray;rw[E];simpa using this
  have bh:CS (pgD K) j (j.1.size+1) j.1.size (woC d K g j.1.size root) l:=⟨bf,cf,[],.map [],by rw[E];exact Ll _ _ _⟩;have b3:=Lk (B0:=j.1.size+1+1) (root:=root) ac.out.2.2.1 R.out ac.out.2.2.2.1 ac.out.2.1 kE (by omega:j.1.size<=j.1.size+1) (by omega:j.1.size<j.1.size+1+1) kH;have J:Hid _:=b3;have a8:=kG bh (kR bf cm);have cd:= @run_makeMap prog;have bl:=U.below bf;clear bc bn U bf cf bh b3;go_upto_region 5 with fail
  change Code.wp _ _ _ _ ((j.alloc (.map #[] 0)).alloc (.cells (woC d K g j.1.size root).toArray 145));rw[<-E];clear E cd cB t a7 cp;obtain⟨b,bj⟩:∃x,x=j.1.size:=⟨_,rfl⟩;rw[<-bj]at J a8 ⊢;have ce:w.1.size<b:=kH;have bN:=a8.out.2.2;have b8:=ac.out.2.2.2.2.trans (a8.out.2.1.mono kH);have n:Hid (∀o,Below b l o->o.cell? ⟨w.1.size,0,none⟩=some (.slice d.sa K.n d.sc)/\o.cell? ⟨w.1.size,1,none⟩=some (.slice d.pa K.m d.pc)/\o.cell? ⟨w.1.size,2,none⟩=some (.int .i64 i)/\o.cell? ⟨w.1.size,3,none⟩=some (.int .i64 root)/\o.cell? ⟨w.1.size,4,none⟩=some (.int .i64 c)/\o.cell? ⟨w.1.size,5,none⟩=some (.int .i64 a)):=fun o aX=>by
   have Z:Blk o 40 w.1.size (stV d K i root c a):=(aX.block w.1.size ce).trans bl;exact⟨Z.cell 0,Z.cell 1,Z.cell 2,Z.cell 3,Z.cell 4,Z.cell 5⟩
  have a9:=bDr l;have cs:=n.out l.drew (a9.mono kH);have bx:Hid (whB K i root c a=hoB (pgD K) (nPg K) ((nPg K:Nat):Int) i root c a):=bF.out;obtain⟨r,aH⟩:∃r,r=hoB (pgD K) (nPg K) ((nPg K:Nat):Int) i root c a:=⟨_,rfl⟩;have b2:Hid (r=hoB (pgD K) (nPg K) ((nPg K:Nat):Int) i root c a):=aH;have bx:Hid (whB K i root c a=r):=by rw[aH];exact bx.out
  clear aH;have u:Hid (∀(o bg:World)(G:Nat)(xs cC:List Value),OnlyS (fun k=>k=b) l o->(r=true->CS (pgD K) j (b+1) b (woC d K g b root) o)->Blk o 148 G xs->b+1+1<=G->OnlyB G o bg->Below b l bg/\(r=true->WoS K root w.1.size (b+1) bg)):=fun o bg G xs cC ba aO bH ct S=>by
   have cF:=ba.size;have cG:=S.size;refine⟨(ba.below kH (fun k e=>by omega)).trans (S.below kH kH),fun hr=>⟨R.out,b+1+1,CS (pgD K) j (b+1) b (woC d K g b root),(fun k=>k=b),J.out,J.out.keep _ _ (aO hr) (S.below ct kH) (aV S bH kN),kH,fun o aX=>aX.k.cell 4,fun k e=>by omega,kH⟩⟩
  have D:Hid (∀o,OnlyS (fun k=>k=b) l o->CS (pgD K) j (b+1) b (woC d K g b root) o->Calls prog 84 #[.iface 83 (.pointer (some ⟨b+1,0,none⟩)),.int .i64 (nPg K:Nat),.agg (eG i root c a).toArray] o (HiP (pgD K) (nPg K) (CS (pgD K) j (b+1) b (woC d K g b root)) (fun k=>k=b) r o)):=fun o ba aX=>by
   rw[b2.out];exact Le (jS ac.out.2.2.1 R.out) (fun cH=>mN R.out cH) J.out (nPg K) i root c a o aX (by have:=ba.size;omega)
  have s:Hid (∀o u',CS (pgD K) j (b+1) b (woC d K g b root) o->b+1+1<=o.1.size->Below o.1.size o u'->CS (pgD K) j (b+1) b (woC d K g b root) u'):=fun o u' aO cv G=>J.out.keep _ _ aO (G.mono cv) (aW G);have I:Hid (∀o,Calls prog 85 #[.agg #[.slice d.sa K.n d.sc,.slice d.pa K.m d.pc]] o fun e w'=>e= .returned (.int .i64 ((nPg K:Nat):Int))/\Below o.1.size o w'):=fun o=>by
   have W:=tw d.sa d.pa d.sc d.pc K o cu;rw[show(K.n:Int)/4=((nPg K:Nat):Int)by unfold nPg;omega]at W;exact W
  have v:Hid (∀o,Below b l o->(r=true->WoS K root w.1.size (b+1) o)->AwP K i root c a w (.returned (awV r (b+1))) o):=fun o G aO=>by
   refine⟨b8.trans (G.mono kH),?_⟩;rw[bx.out];cases hr:r with
   |true=>exact kT ⟨rfl,b+1,rfl,aO hr⟩
   |false=>exact kV ⟨rfl,rfl⟩
  have bY:Hid (CS (pgD K) j (b+1) b (woC d K g b root) l.drew):=s.out _ _ a8.out.1 kH a9;have cw:b+1+1<=l.1.size:=kH;clear bl b8 bj bN cm;refine ay (fun o=>o.cell? ⟨w.1.size,0,none⟩=some (.slice d.sa K.n d.sc)/\o.cell? ⟨w.1.size,1,none⟩=some (.slice d.pa K.m d.pc)/\o.cell? ⟨w.1.size,2,none⟩=some (.int .i64 i)/\o.cell? ⟨w.1.size,3,none⟩=some (.int .i64 root)/\o.cell? ⟨w.1.size,4,none⟩=some (.int .i64 c)/\o.cell? ⟨w.1.size,5,none⟩=some (.int .i64 a)) (fun k=>decide (13<=k)) kO ?_;refine aa 0 cs ?_;refine aa 1 cs ?_;refine aa 2 cs ?_;refine aa 3 cs ?_;refine aa 5 cs ?_;refine aa 6 cs ?_;refine cI 4 11 kO rfl rfl (fun m f=> ?_) (fun m f=> ?_)
  ·rw[qb (show Region.wanted _ _=true from rfl)];have W:=I.out l.drew;go_wp2_with fail;refine W.mono ?_;rintro e y ⟨rfl,b6⟩;have p:OnlyS (fun k=>k=b) l y:=(OnlyS.ofBelow a9).trans (OnlyS.ofBelow b6);have bS:=s.out _ _ bY.out (show b+1+1<=l.1.size by omega) b6;have cx:=p.size;refine f.out _ _ (fun _=>n.out _ (p.below kH (fun k e=>by omega))) ?_;clear f m;refine cI 7 11 kO rfl rfl (fun m f=> ?_) (fun m f=> ?_)
   ·rw[qb (show Region.wanted _ _=true from rfl)];have L:=D.out y p bS;unfold eG at L;go_wp2_with fail;refine L.mono ?_;rintro e t ⟨bd,cy,af,ai,an,rfl⟩;have M:=n.out t ((p.trans bd).below kH (fun k e=>by omega));refine f.out _ _ (fun _=>M) ?_;clear f m;refine aa 8 M ?_;refine aa 9 M ?_;refine aa 10 M ?_;refine aj 11 fun m f=> ?_;go_wp2_with fail;have C:=bAl t (.cells hoZ.toArray 148);have bk:=(p.trans bd).size;have bi:=n.out (t.alloc (.cells hoZ.toArray 148)) (((p.trans bd).below kH (fun k e=>by omega)).trans (C.mono kH));refine al f ?_;clear f m;have a0:Blk (t.alloc (.cells hoZ.toArray 148)) 148 t.1.size hoZ:=ao t _ _;have bp:=(p.trans bd).trans (OnlyS.ofBelow C);have bt:=fun hr=>s.out _ _ (cy hr) kH C;have ca:b+1+1<=t.1.size:=kH;clear M;have a6:(prog.info? 148).map (·.size)=some af.toArray.size:=by rw[k8,ai];exact me
    have A:=dP an;have q:=u.out (t.alloc (.cells hoZ.toArray 148)) ((t.alloc (.cells hoZ.toArray 148)).setRow t.1.size af.toArray) t.1.size hoZ [] bp bt a0 ca (aN _ _ _);refine aj 12 fun m f=> ?_;refine s5 148 _ _ rfl t.1.size af.toArray rfl rfl 148 _ a0 a6 (by rw[k8,k8,ai];rfl) A ?_;refine f.out _ _ (fun _=>n.out _ q.1) ?_;clear f m;refine aj 13 fun m f=> ?_;go_wp2_with fail;refine al f ?_;clear f m;refine ax ?_;have H:Hid _:=v.out _ q.1 q.2;clear q a0 bp bt an u D I n s v;cases r with
    |true=>
     go_wp2_with fail
     go_ret2
     exact H.out
    |false=>
     go_wp2_with fail
     go_ret2
     exact H.out
   ·rw[qb (show Region.wanted _ _=true from rfl)];go_wp2_with fail;have C:=bAl y (.cells hoZ.toArray 148);have bk:=p.size;have bi:=n.out (y.alloc (.cells hoZ.toArray 148)) ((p.below kH (fun k e=>by omega)).trans (C.mono kH));have F:=p.trans (OnlyS.ofBelow C);have bw:=s.out _ _ bS kH C;have V:Blk (y.alloc (.cells hoZ.toArray 148)) 148 y.1.size hoZ:=ao y _ _;have aw:b+1+1<=y.1.size:=kH;refine al f ?_;clear f m;refine aj 7 fun m f=> ?_;have L:=D.out (y.alloc (.cells hoZ.toArray 148)) F bw;unfold eG at L;go_wp2_with fail;refine L.mono ?_;rintro e a7 ⟨ch,cz,ag,ak,ap,rfl⟩;have a4:=F.trans ch;have a1:=Blk.onlyS V ch (fun e=>by omega);have ad:=n.out a7 (a4.below kH (fun k e=>by omega));have cb:=aw;have bu:=cz;refine al f ?_;clear f m;refine aa 8 ad ?_;refine aa 9 ad ?_;refine aa 10 ad ?_;have a6:(prog.info? 148).map (·.size)=some ag.toArray.size:=by rw[k8,ak];exact me
    have A:=dP ap;have q:=u.out a7 (a7.setRow y.1.size ag.toArray) y.1.size hoZ [] a4 bu a1 cb (aN _ _ _);refine aj 12 fun m f=> ?_;refine s5 148 _ _ rfl y.1.size ag.toArray rfl rfl 148 _ a1 a6 (by rw[k8,k8,ak];rfl) A ?_;refine f.out _ _ (fun _=>n.out _ q.1) ?_;clear f m;refine aj 13 fun m f=> ?_;go_wp2_with fail;refine al f ?_;clear f m;refine ax ?_;have H:Hid _:=v.out _ q.1 q.2;clear q a1 a4 bu ap u D I n s v;cases r with
    |true=>
     go_wp2_with fail
     go_ret2
     exact H.out
    |false=>
     go_wp2_with fail
     go_ret2
     exact H.out
  ·rw[qb (show Region.wanted _ _=true from rfl)];go_wp2_with fail;have C:=bAl l.drew (.cells hoZ.toArray 148);have F:OnlyS (fun k=>k=b) l (l.drew.alloc (.cells hoZ.toArray 148)):=(OnlyS.ofBelow a9).trans (OnlyS.ofBelow C);have bk:=F.size;have bi:=n.out (l.drew.alloc (.cells hoZ.toArray 148)) (F.below kH (fun k e=>by omega));have bw:=s.out _ _ bY.out (show b+1+1<=l.1.size by omega) C;have V:Blk (l.drew.alloc (.cells hoZ.toArray 148)) 148 l.1.size hoZ:=ao l.drew _ _;have aw:b+1+1<=l.1.size:=kH;refine al f ?_;clear f m;refine aj 4 fun m f=> ?_;have W:=I.out (l.drew.alloc (.cells hoZ.toArray 148));go_wp2_with fail;refine W.mono ?_;rintro e cl ⟨rfl,bz⟩;have a3:=F.trans (OnlyS.ofBelow bz);have cn:=s.out _ _ bw kH bz;have cg:=V.below bz;have cD:=n.out cl (a3.below kH (fun k e=>by omega));refine al f ?_;clear f m V;refine aj 7 fun m f=> ?_;have L:=D.out cl a3 cn;unfold eG at L;go_wp2_with fail;refine L.mono ?_;rintro e bP ⟨ci,cA,ah,am,ar,rfl⟩;have a5:=a3.trans ci;have a2:=Blk.onlyS cg ci (fun e=>by omega);have ae:=n.out bP (a5.below kH (fun k e=>by omega));have cc:=aw;have bv:=cA;refine al f ?_;clear f m;refine aa 8 ae ?_;refine aa 9 ae ?_;refine aa 10 ae ?_;have a6:(prog.info? 148).map (·.size)=some ah.toArray.size:=by rw[k8,am];exact me
   have A:=dP ar;have q:=u.out bP (bP.setRow l.1.size ah.toArray) l.1.size hoZ [] a5 bv a2 cc (aN _ _ _);refine aj 12 fun m f=> ?_;refine s5 148 _ _ rfl l.1.size ah.toArray rfl rfl 148 _ a2 a6 (by rw[k8,k8,am];rfl) A ?_;refine f.out _ _ (fun _=>n.out _ q.1) ?_;clear f m;refine aj 13 fun m f=> ?_;go_wp2_with fail;refine al f ?_;clear f m;refine ax ?_;have H:Hid _:=v.out _ q.1 q.2;clear q a2 a5 bv ar u D I n s v;cases r with
   |true=>
    go_wp2_with fail
    go_ret2
    exact H.out
   |false=>
    go_wp2_with fail
    go_ret2
    exact H.out
