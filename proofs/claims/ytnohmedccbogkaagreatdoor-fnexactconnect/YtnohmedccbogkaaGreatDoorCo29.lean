import Derived.Test.YtnohmedccbogkaaGreatDoorCo28
import Derived.Test.YtnohmedccbogkaaGreatDoorCo26
namespace Go.Proofs.YtnohmedccbogkaaGreatDoor
open Go.Proofs.Tryz
open Go.RowKit
set_option linter.unusedVariables false
set_option maxRecDepth 100000
set_option maxHeartbeats 32000000
section
def eG(gen root used free:Int):List Value:=[.int .i64 gen,.int .i64 root,.int .i64 used,.int .i64 free]
def hoC(t p f o:Value):List Value:=[t,p,f,o]
def hoZ:List Value:=hoC (.pointer none) (.slice none 0 0) (.slice none 0 0) (.slice none 0 0)
structure HoQ(N:Nat)(S:World->Prop)(hb:Nat)(o:Option Tr)(fs own:List Int)(w w':World):Prop where
 ex:∃gt F a c a2 c2,Blk w' 148 hb (hoC (.pointer (some ⟨gt,0,none⟩)) (.slice none 0 0) (.slice a fs.length c) (.slice a2 own.length c2))/\TopR w' gt o F/\(∀k∈F,w.1.size<=k)/\Own1 3 w.1.size w' a fs.length c (on fs)/\Own1 3 w.1.size w' a2 own.length c2 (on own)
 src:S w'
 good:qj N o
 lf:fs.length<=65536
 lo:own.length<=1024
def HoP(P:Pg)(N:Nat)(S:World->Prop)(X:Nat->Prop)(hb:Nat)(root free:Int)(w:World)(e:Ending)(w':World):Prop:=
 OnlyS (fun k=>X k\/k=hb) w w'/\((∃o fs own,rtO P N root=some o/\flR P (N+1) free [] []=some (fs,own)/\e= .returned (.tuple #[])/\HoQ N S hb o fs own w w')\/((rtO P N root=none\/flR P (N+1) free [] []=none)/\e= .panicked aU))
variable {S:World->Prop} {X:Nat->Prop} {B0 N ty fn:Nat} {v:Value} {P:Pg}
theorem Blk.keepX{w w' c g xs}(a:Src P B0 ty fn v S X)(h:Blk w c g xs)(b:OnlyS X w w')(d:B0<=g):Blk w' c g xs:=h.onlyS b (fun e=>by have:=a.low g e;omega)
theorem La(ag:PgW P N)(ar:∀bh,(P.bd bh).length<=256)(h:Src P B0 ty fn v S X)(sb z d an root af b w)(C:Blk w 214 sb [.iface ty v])(B:Blk w 38 z (eG an root af b))(i:Blk w 148 d hoZ)(ap:S w)(a4:B0<=sb)(a2:B0<=z)(t:B0<=d)(a1:0<=root)(aX:root<4294967296)(aw:0<=b)(aH:b<4294967296):
 Calls prog 150 #[.pointer (some ⟨sb,0,none⟩),.pointer (some ⟨z,0,none⟩),.pointer (some ⟨d,0,none⟩)] w (HoP P N S X d root b w):=by
 have bb:=i.lt;have ba:B0<=w.1.size:=kH;have ai:=K8 ag h root w ap ba a1 aX;have Y:w.cell? ⟨sb,0,none⟩=some (.iface ty v):=C.cell 0;have l:w.cell? ⟨z,1,none⟩=some (.int .i64 root):=B.cell 1;have ac:sb≠d:=fun e=>by subst e;unfold Blk at C i;rw[C]at i;cases i
 have ad:z≠d:=fun e=>by subst e;unfold Blk at B i;rw[B]at i;cases i
 have D:=kG C (kR B i);clear C B i ap;go_enter func150,ntmps150;go_wp2_with fail;refine ai.mono ?_;clear ai Y l;rintro e w1 ⟨q,⟨o,F,bc,a3,rfl,Z,G,a7,aO⟩|⟨n,rfl⟩⟩
 rotate_left
 ·have j:Hid (HoP P N S X d root b w (.panicked aU) w1):=⟨q.mono (fun k _ e=>kV e),kT ⟨kV n,rfl⟩⟩;clear q n;go_wp2;exact⟨rfl,j.out⟩
 have T:=Blk.keepX h D.out.1 q a4;have Q:=Blk.keepX h D.out.2.1 q a2;have p:=Blk.keepX h D.out.2.2 q t;have bi:=q.size;have r:=aB w1 d 0 (.pointer (some ⟨F,0,none⟩));have U:=T.only r ac;have R:=Q.only r ad;have M:=p.set 0 (.pointer (some ⟨F,0,none⟩));have ak:=h.keep _ _ a7 (r.below t kH) (aV r p kN);have am:=Z.keep (fun k m=>r.block k (Z.flt k m) (fun e=>by have:=G k m;omega));have a8:=p.cell 0;have a9:=p.free 0;have bj:=r.size;have I:=(q.mono (fun k _ e=>kV e)).transN (OnlyS.ofB r) (fun k _ e=>kT e);have y:=kG am (kR M I);clear T Q r M am I p Z a7 q D;go_upto_region 1 with fail
 generalize w1.setCell ⟨d,0,none⟩ (.pointer (some ⟨F,0,none⟩))=W at*;clear a8 a9;have ah:=KF ag ar h b W ak kH aw aH;have Y:W.cell? ⟨sb,0,none⟩=some (.iface ty v):=U.cell 0;have l:W.cell? ⟨z,3,none⟩=some (.int .i64 b):=R.cell 3;clear U R ak;go_wp2_with fail;refine ah.mono ?_;clear ah Y l;rintro e H ⟨s,⟨A,x,a,c,E,l,J,a0,ab,rfl,K,L,s3,ae⟩|⟨n,rfl⟩⟩
 rotate_left
 ·have j:Hid (HoP P N S X d root b w (.panicked aU) H):=⟨y.out.2.2.transN s (fun k _ e=>kV e),kT ⟨kT n,rfl⟩⟩;clear s n;go_wp2;exact⟨rfl,j.out⟩
 have f:=Blk.keepX h y.out.2.1 s t;have V:=y.out.1.keep (fun k m=>s.block k (y.out.1.flt k m) (fun e=>by have:=h.low k e;have:=G k m;omega));have bk:=s.size;have bd:=f.cell 2;have bf:=f.free 2;have a5:=aB H d 2 (.slice a A.length c);have u:=f.set 2 (.slice a A.length c);have be:=u.cell 3;have bg:=u.free 3;have a6:=aB (H.setCell ⟨d,2,none⟩ (.slice a A.length c)) d 3 (.slice E x.length l);have O:=u.set 3 (.slice E x.length l);have g:=a5.trans a6;have j:Hid (HoP P N S X d root b w (.returned (.tuple #[])) ((H.setCell ⟨d,2,none⟩ (.slice a A.length c)).setCell ⟨d,3,none⟩ (.slice E x.length l))):=by
  refine⟨(y.out.2.2.transN s (fun k _ e=>kV e)).transN (OnlyS.ofB g) (fun k _ e=>kT e),kV ⟨o,A,x,a3,J,rfl,⟨F,bc,a,c,E,l,O,?_,G,?_,?_⟩,?_,aO,a0,ab⟩⟩
  ·exact V.keep (fun k m=>g.block k (V.flt k m) (fun e=>by have:=G k m;omega))
  ·exact(K.keep (aV g f kN)).mono kH
  ·exact(L.keep (aV g f kN)).mono kH
  ·exact h.keep _ _ s3 (g.below t kH) (aV g f kN)
 clear f V a5 u a6 O g K L s3 ae s J y;go_wp2_with fail;refine p6 (v:= .tuple #[]) (by simp[results,results150]) rfl j.out
end
section
theorem Lb{N o}(h:qj N o):okO o/\(dK o).length<=N/\∀x∈dK o,x≠0:=by
 cases o with
 |none=>exact⟨trivial,kX _,fun x hx=>by simp[dK]at hx⟩
 |some T=>
  obtain⟨b,c,d,a⟩:=h;have e:SeenOk (bB T) N:=⟨d,fun x hx=>by have:=a x hx;omega⟩;refine⟨⟨b,c⟩,by show(pgN T).length<=N;rw[(l6 T).length_eq];exact e.le,fun x hx=>by have:=a x ((l6 T).mem_iff.1 hx);omega⟩
def hoR(P:Pg)(N:Nat)(root free:Int)(M:Nat):Bool:=match rtO P N root,flR P (N+1) free [] []with
 |some o,some p=>fI (srt (dK o)++(p.1++p.2)) M
 |_,_=>false
def hoB(P:Pg)(N:Nat)(pages gen root used free:Int):Bool:=gY gen root used free&&decide (used<=pages)&&hoR P N root free used.toNat
theorem Ld{P N root a M o c b}(d:rtO P N root=some o)(e:flR P (N+1) a [] []=some (c,b)):hoR P N root a M=fI (srt (dK o)++(c++b)) M:=by unfold hoR;rw[d,e]
theorem Ab{P N root a M}(h:rtO P N root=none\/flR P (N+1) a [] []=none):hoR P N root a M=false:=by
 unfold hoR;rcases h with h|h
 ·rw[h]
 ·rw[h];cases rtO P N root<;>rfl
def HiP(P:Pg)(N:Nat)(S:World->Prop)(X:Nat->Prop)(r:Bool)(w:World)(e:Ending)(w':World):Prop:=
 OnlyS X w w'/\(r=true->S w')/\∃cs:List Value,cs.length=4/\(∀u∈cs,u.oneCell'=true)/\e= .returned (.tuple #[.agg cs.toArray,.bool r])
theorem me:(prog.info? 148).map (·.size)=some 4:=kO
theorem Ac:(prog.info? 38).map (·.size)=some 4:=kO
theorem M9:prog.built 148 []=some hoZ.toArray:=kO
theorem nx:∀b∈hoZ,b.oneCell'=true:=by intro b a;simp[hoZ,hoC]at a;rcases a with rfl|rfl<;>rfl
theorem Ad(p a b c n m k i j l):∀e∈hoC (.pointer p) (.slice a n i) (.slice b m j) (.slice c k l),e.oneCell'=true:=by
 intro e d;simp[hoC]at d;rcases d with rfl|rfl|rfl|rfl<;>rfl
variable {S:World->Prop} {X:Nat->Prop} {B0 N ty fn:Nat} {v:Value} {P:Pg}
theorem Le(ci:PgW P N)(cL:∀dF,(P.bd dF).length<=256)(R:Src P B0 ty fn v S X)(f j root d b w)(c5:S w)(cG:B0<=w.1.size):
 Calls prog 84 #[.iface ty v,.int .i64 (f:Nat),.agg (eG j root d b).toArray] w (HiP P N S X (hoB P N (f:Nat) j root d b) w):=by
 obtain⟨am,ac⟩:∃ck,ck=w.alloc (.cells #[.iface ty v] 214):=⟨_,rfl⟩;obtain⟨an,ad⟩:∃ck,ck=am.alloc (.cells (eG j root d b).toArray 38):=⟨_,rfl⟩;obtain⟨a9,ae⟩:∃ck,ck=an.alloc (.cells hoZ.toArray 148):=⟨_,rfl⟩;have cp:Below w.1.size w am:=by rw[ac];exact bAl _ _
 have cq:Below am.1.size am an:=by rw[ad];exact bAl _ _
 have q3:Below an.1.size an a9:=by rw[ae];exact bAl _ _
 have cs:am.1.size=w.1.size+1:=by rw[ac];simp
 have ct:an.1.size=w.1.size+1+1:=by rw[ad];simp[cs]
 have df:a9.1.size=w.1.size+1+1+1:=by rw[ae];simp[ct]
 have bs:=cq.trans (q3.mono cq.size);have cP:=(by rw[ac];exact ao w _ _:Blk am 214 w.1.size [.iface ty v]).below bs;have cn:=(by rw[ad,<-cs];exact ao am _ _:Blk an 38 (w.1.size+1) (eG j root d b)).below q3;have cM:Blk a9 148 (w.1.size+1+1) hoZ:=by rw[ae,<-ct];exact ao an _ _
 have ce:=cp.trans (bs.mono cp.size);have dd:(prog.info? 38).map (·.size)=some (eG j root d b).toArray.size:=Ac;have a4:(prog.info? 148).map (·.size)=some hoZ.toArray.size:=me;have cC:=DL j root d b a9;have cv:Hid _:=ce;have dy:w.1.size+1+1<a9.1.size:=kH;clear cp cq q3 cs ct bs ce df;go_enter func84,ntmps84;go_upto_region 1 with fail
 change Code.wp _ _ _ _ (((w.alloc (.cells #[.iface ty v] 214)).alloc (.cells (eG j root d b).toArray 38)).alloc (.cells hoZ.toArray 148));rw[<-ac,<-ad,<-ae];clear ac ad ae;go_wp2_with (refine qi rfl 38 _ rfl (w.1.size+1) rfl 38 (eG j root d b).toArray (0,0) _ cn underlying38 rfl dd ?_);refine cC.mono ?_;rintro e W ⟨rfl,a3⟩;have b6:=cP.below a3;have bl:=cn.below a3;have ag:=cM.below a3;have bb:=cv.out.trans (a3.mono cv.out.size);have dA:=a3.size;have cz:=R.keep _ _ c5 (bb.mono cG) (aW bb);have cV:W.cell? ⟨w.1.size+1,2,none⟩=some (.int .i64 d):=bl.cell 2;have bq:=aN W (w.1.size+1+1) hoZ.toArray;have ap:=ag.setRow hoZ;have ai:Hid (hoB P N (f:Nat) j root d b=false->HiP P N S X (hoB P N (f:Nat) j root d b) w (.returned (.tuple #[.agg hoZ.toArray,.bool false])) (W.setRow (w.1.size+1+1) hoZ.toArray)):=fun h=>⟨(OnlyS.ofBelow bb).transN (OnlyS.ofB bq) (fun k bd e=>by omega),(fun C=>by rw[h]at C;cases C),hoZ,rfl,nx,by rw[h]⟩;have Z:=kG b6 (kR bl (kR bb cz));clear cC cP cn cM a3 b6 bb cz bq;cases I:gY j root d b with
 |false=>
  have ab:Hid (hoB P N (f:Nat) j root d b=false):=by show hoB P N (f:Nat) j root d b=false;unfold hoB;rw[I];rfl
  go_wp2_with (first|(refine qB rfl 148 _ _ rfl (w.1.size+1+1) hoZ.toArray rfl rfl 148 _ ag a4 rfl (dP nx) ?_));refine p6 (v:= .tuple #[.agg hoZ.toArray,.bool false]) ?_ rfl (ai.out ab.out);exact bA results84 _ _ (w.1.size+1+1) 148 hoZ.toArray _ rfl ap underlying148 rfl a4 rfl
 |true=>
  have a0:j9 j d=true/\nmB d root=true/\nmB d b=true:=by
   unfold gY at I;rw[ly,ly]at I;exact I
  obtain⟨g1,g2,dG,dW⟩:=r6 a0.1;have cS:=r6 a0.2.1;have cR:=r6 a0.2.2;by_cases bh:d<=(f:Int)
  rotate_left
  ·have cm:(f:Int)<d:=kH;have ab:Hid (hoB P N (f:Nat) j root d b=false):=by show hoB P N (f:Nat) j root d b=false;unfold hoB;rw[I,q5 bh];rfl
   clear bh;go_wp2_with (first|(refine qB rfl 148 _ _ rfl (w.1.size+1+1) hoZ.toArray rfl rfl 148 _ ag a4 rfl (dP nx) ?_));refine p6 (v:= .tuple #[.agg hoZ.toArray,.bool false]) ?_ rfl (ai.out ab.out);exact bA results84 _ _ (w.1.size+1+1) 148 hoZ.toArray _ rfl ap underlying148 rfl a4 rfl
  have cm:¬(f:Int)<d:=kH;have aH:Hid (hoB P N (f:Nat) j root d b=hoR P N root b d.toNat):=by
   show hoB P N (f:Nat) j root d b= _;unfold hoB;rw[I,q6 bh];rfl
  obtain⟨M,rfl⟩:∃M:Nat,d=(M:Int):=⟨d.toNat,kH⟩;rw[Int.toNat_natCast]at aH;clear ai I a0 ap;obtain⟨m,bc⟩:∃x,x=W.1.size:=⟨_,rfl⟩;obtain⟨H,aO⟩:∃ck,ck=W.alloc (.cells hoZ.toArray 148):=⟨_,rfl⟩;have ah:Below W.1.size W H:=by rw[aO];exact bAl _ _
  have bj:Blk H 148 m hoZ:=by rw[aO,bc];exact ao W _ _
  have b7:=Z.out.1.below ah;have bn:=Z.out.2.1.below ah;have cO:=ag.below ah;have cA:=R.keep _ _ Z.out.2.2.2 (ah.mono kH) (aW ah);have cF:=Z.out.2.2.1.trans (ah.mono kH);have bw:=La ci cL R w.1.size (w.1.size+1) m j root (M:Nat) b H b7 bn bj cA cG kH kH kH kH kH kH;have dB:w.1.size+1+1<m:=kH;have c9:=bj.lt;have ak:=kG cF (kR bn (kR cO ah));clear ah bj b7 bn cA cF Z;go_upto_region 4 with fail
  change Code.wp _ _ _ _ (W.alloc (.cells hoZ.toArray 148));rw[<-aO,<-bc];clear aO bc ag cV bl;by_cases U:∃o p,rtO P N root=some o/\flR P (N+1) b [] []=some p
  rotate_left
  ·have bS:rtO P N root=none\/flR P (N+1) b [] []=none:=by
    cases E:rtO P N root with
    |none=>exact kV rfl
    |some o=>
     cases C:flR P (N+1) b [] []with
     |none=>exact kT rfl
     |some p=>exact absurd ⟨o,p,E,C⟩ U
   have cw:Calls prog 150 #[.pointer (some ⟨w.1.size,0,none⟩),.pointer (some ⟨w.1.size+1,0,none⟩),.pointer (some ⟨m,0,none⟩)] H fun e w'=>e= .panicked aU/\OnlyS (fun k=>X k\/k=m) H w':=bw.mono (by
    rintro e w' ⟨o,⟨co,n,l,E,C,_⟩|⟨_,bx⟩⟩
    ·exact absurd ⟨co,_,E,C⟩ U
    ·exact⟨bx,o⟩)
   have a8:=vm 150 _ H (OnlyS (fun k=>X k\/k=m) H) (fun _=>rfl) cw;have ab:Hid (hoB P N (f:Nat) j root (M:Nat) b=false):=by show hoB P N (f:Nat) j root (M:Nat) b=false;rw[aH.out];exact Ab bS
   clear bw cw U bS;go_wp2_with fail;refine q2 a8 ?_;rintro e bu ⟨rfl,cr,V,B⟩;have O:¬(X (w.1.size+1+1)\/w.1.size+1+1=m):=fun e=>by
    rcases e with e|e
    ·have:=R.low _ e;omega
    ·omega
   have b4:=(ak.out.2.2.1.onlyS V O).below B;have bq:=aN bu (w.1.size+1+1) hoZ.toArray;have ap:=b4.setRow hoZ;have a6:Hid (HiP P N S X (hoB P N (f:Nat) j root (M:Nat) b) w (.returned (.tuple #[.agg hoZ.toArray,.bool false])) (bu.setRow (w.1.size+1+1) hoZ.toArray)):=⟨(((OnlyS.ofBelow ak.out.1).transN V (fun k bd e=>by rcases e with e|e;exact e;omega)).trans (OnlyS.ofBelow B)).transN (OnlyS.ofB bq) (fun k bd e=>by omega),(fun C=>by rw[ab.out]at C;cases C),hoZ,rfl,nx,by rw[ab.out]⟩;clear a8 V B ak bq O;go_wp2_with (first|(refine qB rfl 148 _ _ rfl (w.1.size+1+1) hoZ.toArray rfl rfl 148 _ b4 a4 rfl (dP nx) ?_));refine p6 (v:= .tuple #[.agg hoZ.toArray,.bool false]) ?_ rfl a6.out;exact bA results84 _ _ (w.1.size+1+1) 148 hoZ.toArray _ rfl ap underlying148 rfl a4 rfl
  obtain⟨o,⟨n,l⟩,a1,aX⟩:=U;have cx:Calls prog 150 #[.pointer (some ⟨w.1.size,0,none⟩),.pointer (some ⟨w.1.size+1,0,none⟩),.pointer (some ⟨m,0,none⟩)] H fun e w'=>e= .returned (.tuple #[])/\(OnlyS (fun k=>X k\/k=m) H w'/\HoQ N S m o n l H w'):=bw.mono (by
   rintro e w' ⟨co,⟨dE,dl,dc,E,C,bx,af⟩|⟨E|E,bx⟩⟩
   ·rw[a1]at E;rw[aX]at C;cases E;cases C;exact⟨bx,co,af⟩
   ·rw[a1]at E;cases E
   ·rw[aX]at E;cases E)
  have a8:=vk 150 _ H _ (fun _=>rfl) cx;have c4:Hid (hoB P N (f:Nat) j root (M:Nat) b=fI (srt (dK o)++(n++l)) M):=by show hoB P N (f:Nat) j root (M:Nat) b= _;rw[aH.out];exact Ld a1 aX
  clear bw cx a1 aX aH;go_wp2_with fail;refine q2 a8 ?_;rintro e cr ⟨rfl,V,af⟩;clear a8;obtain⟨G,dD,a,c,y,z,bk,cD,ab,b8,ca⟩:=af.ex;obtain⟨bf,cl,be⟩:=Lb af.good;have dr:=af.lf;have ds:=af.lo;have cy:=K9 G o dD cr cD bf (by have:=ci.le;omega) be;have c0:cr.cell? ⟨m,0,none⟩=some (.pointer (some ⟨G,0,none⟩)):=bk.cell 0;have d1:=V.size;have O:∀g,B0<=g->g≠m->¬(X g\/g=m):=fun g E C e=>by
   rcases e with e|e
   ·have:=R.low _ e;omega
   ·exact C e
  have b1:=ak.out.2.1.onlyS V (O _ kH kH);have b3:=ak.out.2.2.1.onlyS V (O _ kH kH);have bN:=(OnlyS.ofBelow ak.out.1).transN V (fun k bd e=>by rcases e with e|e;exact e;omega);have Y:=kG bk (kR b8 (kR ca (kR b1 (kR b3 (kR bN af.src)))));have dv:(dK o).length<=1024:=by have:=ci.le;omega
  have bz:Hid ((srt (dK o)).length=(dK o).length):=jT _;clear bk cD ab b8 ca b1 b3 bN af bf cl be ak V O;go_upto_region 8 with fail
  refine cy.mono ?_;rintro e bu ⟨q,r,rfl,B,cc⟩;clear cy;have F:=Y.out.1.below B;have c1:=F.cell 1;have c3:=F.free 1;generalize dx:(dK o).length=s at*;have J:=aB bu m 1 (.slice q s r);have b0:=F.set 1 (.slice q s r);have b9:=(Y.out.2.1.below B).keep (aV J F kN);have cb:=(Y.out.2.2.1.below B).keep (aV J F kN);have cd:=cc.keep (aV J F kN);have b2:=(Y.out.2.2.2.1.below B).only J kH;have b5:=(Y.out.2.2.2.2.1.below B).only J kH;have d2:=B.size;have bP:=(Y.out.2.2.2.2.2.1.trans (OnlyS.ofBelow B)).transN (OnlyS.ofB J) (fun k bd e=>by omega);have cB:=R.keep _ _ (R.keep _ _ Y.out.2.2.2.2.2.2 (B.mono kH) (aW B)) (J.below kH kH) (aV J F kN);have d3:=J.size;have t:=kG b0 (kR b9 (kR cb (kR cd (kR b2 (kR b5 (kR bP cB))))));clear F J b0 b9 cb cd b2 b5 bP cB cc B Y c0;go_upto_region 8 with fail
  generalize bu.setCell ⟨m,1,none⟩ (.slice q s r)=u at*;clear c1 c3;have A:u.drew.cell? ⟨m,0,none⟩=some (.pointer (some ⟨G,0,none⟩))/\u.drew.cell? ⟨m,1,none⟩=some (.slice q s r)/\u.drew.cell? ⟨m,2,none⟩=some (.slice a n.length c)/\u.drew.cell? ⟨m,3,none⟩=some (.slice y l.length z)/\u.drew.cell? ⟨w.1.size+1,2,none⟩=some (.int .i64 (M:Nat)):=⟨Blk.cell t.out.1 0,Blk.cell t.out.1 1,Blk.cell t.out.1 2,Blk.cell t.out.1 3,Blk.cell t.out.2.2.2.2.1 2⟩;have dn:m<u.1.size:=kH;have a7:Hid (∀a5,Below u.1.size u a5->a5.cell? ⟨m,0,none⟩=some (.pointer (some ⟨G,0,none⟩))/\a5.cell? ⟨m,1,none⟩=some (.slice q s r)/\a5.cell? ⟨m,2,none⟩=some (.slice a n.length c)/\a5.cell? ⟨m,3,none⟩=some (.slice y l.length z)/\a5.cell? ⟨w.1.size+1,2,none⟩=some (.int .i64 (M:Nat))):=fun a5 bg=>⟨Blk.cell (t.out.1.below bg) 0,Blk.cell (t.out.1.below bg) 1,Blk.cell (t.out.1.below bg) 2,Blk.cell (t.out.1.below bg) 3,Blk.cell (t.out.2.2.2.2.1.below bg) 2⟩;refine ay (fun a5=>a5.cell? ⟨m,0,none⟩=some (.pointer (some ⟨G,0,none⟩))/\a5.cell? ⟨m,1,none⟩=some (.slice q s r)/\a5.cell? ⟨m,2,none⟩=some (.slice a n.length c)/\a5.cell? ⟨m,3,none⟩=some (.slice y l.length z)/\a5.cell? ⟨w.1.size+1,2,none⟩=some (.int .i64 (M:Nat))) (fun k=>decide (12<=k)) kO ?_;refine aa 0 A ?_;refine aa 1 A ?_;refine aa 2 A ?_;refine aa 3 A ?_;refine aa 4 A ?_;refine aa 5 A ?_;refine aa 6 A ?_;refine aa 9 A ?_;refine aa 10 A ?_;refine aj 7 fun T D=> ?_;go_wp2_with fail;have aw:Below u.1.size u (u.alloc (.cells #[.slice q s r,.slice a n.length c,.slice y l.length z] 119)).drew:=(bAl _ _).drew;refine D.out _ _ (fun _=>a7.out _ aw) ?_;clear D T;have bi:Blk (u.alloc (.cells #[.slice q s r,.slice a n.length c,.slice y l.length z] 119)).drew 119 u.1.size [.slice q s r,.slice a n.length c,.slice y l.length z]:=ao u 119 #[.slice q s r,.slice a n.length c,.slice y l.length z];generalize (u.alloc (.cells #[.slice q s r,.slice a n.length c,.slice y l.length z] 119)).drew=cE at*;generalize Q:u.1.size=da at*;have cg:=Kk da 0 3 3 (fun i=>[q,a,y].getD i none) (fun i=>[s,n.length,l.length].getD i 0) (fun i=>[r,c,z].getD i 0) (fun i=>[srt (dK o),n,l].getD i []) cE bi.lt kH
   (fun i c6=>by
 have:i=0\/i=1\/i=2:=kH;rcases this with rfl|rfl|rfl
 ·exact bi.cell 0
 ·exact bi.cell 1
 ·exact bi.cell 2)
   (fun i c6=>by
 have:i=0\/i=1\/i=2:=kH;rcases this with rfl|rfl|rfl
 ·exact(t.out.2.2.2.1.below (by rw[Q];exact aw)).mono (kX _)
 ·exact(t.out.2.1.below (by rw[Q];exact aw)).mono (kX _)
 ·exact(t.out.2.2.1.below (by rw[Q];exact aw)).mono (kX _))
   (by simp[dQ,bz.out];omega)
  rw[show dQ (fun i=>[srt (dK o),n,l].getD i []) 3=srt (dK o)++(n++l)by simp[dQ]]at cg;have cH:(srt (dK o)++(n++l)).length<=1048576:=by rw[kY,kY,bz.out];omega
  generalize srt (dK o)++(n++l)=ch at*;have bE:Hid _:=aw;have dC:=aw.size;clear bi aw;refine aj 8 fun T D=> ?_;go_wp2_with fail;refine cg.mono ?_;rintro e cf ⟨cT,c2,rfl,ba,bp⟩;have bH:=bE.out.trans (ba.mono kH);have cu:=Ks cE.1.size cT c2 ch M cf bp cH kH;have K:=kG bH bp;have c7:=ba.size;clear cg bH ba bp bE;go_wp2_with fail;refine D.out _ _ (fun _=>a7.out _ K.out.1) ?_;clear D T;refine aj 11 fun T D=> ?_;go_wp2_with fail;refine cu.mono ?_;rintro e bt ⟨rfl,bR⟩;have L:=K.out.1.grown bR kH (fun k e=>by have:=(qX K.out.2 k e).1;omega);have bY:KeepT 5 cf bt:=bJ K.out.2 bR kN;have ar:=t.out.2.2.2.2.2.1.below (by rw[Q];exact L);have bF:=R.keep _ _ t.out.2.2.2.2.2.2.2 (L.mono kH) ((aW (by rw[Q];exact K.out.1)).trans bY);have a2:=aN bt (w.1.size+1+1) (hoC (.pointer (some ⟨G,0,none⟩)) (.slice q s r) (.slice a n.length c) (.slice y l.length z)).toArray;have ap:=ar.setRow (hoC (.pointer (some ⟨G,0,none⟩)) (.slice q s r) (.slice a n.length c) (.slice y l.length z));have c8:=L.size;have a6:Hid (HiP P N S X (hoB P N (f:Nat) j root (M:Nat) b) w (.returned (.tuple #[.agg (hoC (.pointer (some ⟨G,0,none⟩)) (.slice q s r) (.slice a n.length c) (.slice y l.length z)).toArray,.bool (fI ch M)])) (bt.setRow (w.1.size+1+1) (hoC (.pointer (some ⟨G,0,none⟩)) (.slice q s r) (.slice a n.length c) (.slice y l.length z)).toArray)):=by
   refine⟨(t.out.2.2.2.2.2.2.1.trans (OnlyS.ofBelow (by rw[Q];exact L))).transN (OnlyS.ofB a2) (fun k bd e=>by omega),fun _=>R.keep _ _ bF (a2.below kH kH) (aV a2 ar kN),_,rfl,?_,by rw[c4.out]⟩;exact Ad _ _ _ _ _ _ _ _ _ _
  have bv:=a7.out _ L;clear cu L bY bF a2 K;go_wp2_with fail;refine al D ?_;clear D T bv;refine aj 12 fun T D=> ?_;refine s5 148 _ _ rfl (w.1.size+1+1) (hoC (.pointer (some ⟨G,0,none⟩)) (.slice q s r) (.slice a n.length c) (.slice y l.length z)).toArray rfl rfl 148 _ ar me rfl (dP (Ad _ _ _ _ _ _ _ _ _ _)) ?_;refine al D ?_;clear D T;refine aj 13 fun T D=> ?_;go_wp2_with fail;refine al D ?_;clear D T;refine ax ?_;clear A;go_wp2_with fail;refine p6 (v:= .tuple #[.agg (hoC (.pointer (some ⟨G,0,none⟩)) (.slice q s r) (.slice a n.length c) (.slice y l.length z)).toArray,.bool (fI ch M)]) ?_ rfl a6.out;exact bA results84 _ _ (w.1.size+1+1) 148 (hoC (.pointer (some ⟨G,0,none⟩)) (.slice q s r) (.slice a n.length c) (.slice y l.length z)).toArray _ rfl ap underlying148 rfl me rfl
end
