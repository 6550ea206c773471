import Derived.Test.YtglbanolhhjjiaaGreatDoorFo34
namespace Go.Proofs.YtglbanolhhjjiaaGreatDoor
open Go.Proofs.Tryz
open Go.RowKit
set_option linter.unusedVariables false
set_option maxRecDepth 100000
set_option maxHeartbeats 32000000
def FlP(K:DK)(fr:Int)(w:World)(e:Ending)(w':World):Prop:=Below w.1.size w w'/\∃(fs own:List Int)(ok:Bool)(a:Option Addr)(c:Nat)(a2:Option Addr)(c2:Nat),e= .returned (.tuple #[.slice a fs.length c,.slice a2 own.length c2,.bool ok])/\Own1 3 w.1.size w' a fs.length c (on fs)/\Own1 3 w.1.size w' a2 own.length c2 (on own)/\fs.length<=65536/\own.length<=1024/\((flT K fr=some (fs,own)/\ok=true)\/(flT K fr=none/\ok=false))
theorem yi{K fr w u}(a:Below w.1.size w u)(e:flT K fr=none):FlP K fr w (.returned (.tuple #[.slice (some ⟨u.1.size,0,none⟩) 0 0,.slice (some ⟨u.1.size+1,0,none⟩) 0 0,.bool false])) ((u.alloc (.cells #[] 3)).alloc (.cells #[] 3)):=by
 have f:=bAl u (.cells #[] 3);have d:Below (u.alloc (.cells #[] 3)).1.size (u.alloc (.cells #[] 3)) ((u.alloc (.cells #[] 3)).alloc (.cells #[] 3)):=bAl _ _;have g:(u.alloc (.cells #[] 3)).1.size=u.1.size+1:=by simp
 have b:=a.size;have c:=fU 3 w.1.size (u.alloc (.cells #[] 3)) t7;rw[g]at c;exact⟨(a.trans (f.mono b)).trans (d.mono t7),[],[],false,_,0,_,0,rfl,(fU 3 w.1.size u b).below d,c,uB,uB,u4 ⟨e,rfl⟩⟩
structure FI(w:World)(d:DV)(K:DK)(gv cv vb sb:Nat)(fr:Int)(fs own:List Int)(a a2:Option Addr)(c c2:Nat)(last id:Int)(wr:World):Prop where
 s:FS w d K gv cv vb sb fs own a a2 c c2 wr
 ok:SeenOk own (nPg K)
 lf:fs.length<=64*own.length
 la:last=fs.getLastD 0
 eq:flR (pgD K) (nPg K+1) fr [] []=flR (pgD K) (nPg K+1-own.length) id own fs
theorem Ja(a n c):prog.built 136 [(0,.slice a n c)]=some #[.slice a n c]:=uA
theorem yj(d K aT O P fr w)(ad:RDisk w d K):
 Calls prog 66 #[av d K,.agg (al aT O P fr).toArray] w (FlP K fr w):=by
 have bg:Hid (∀u,Below w.1.size w u->RDisk u d K):=fun u b=>ad.below b;obtain⟨af,W⟩:=aa (w.alloc (.cells #[.slice d.sa K.n d.sc,.slice d.pa K.m d.pc] 35));obtain⟨a3,X⟩:=aa (af.alloc (.cells (al aT O P fr).toArray 36));obtain⟨a4,Y⟩:=aa (a3.alloc (.cells #[] 3));obtain⟨b4,Z⟩:=aa (a4.alloc (.cells #[] 3));have c0:Below w.1.size w af:=by rw[W];exact bAl _ _
 have c1:Below af.1.size af a3:=by rw[X];exact bAl _ _
 have ap:Below a3.1.size a3 a4:=by rw[Y];exact bAl _ _
 have c2:Below a4.1.size a4 b4:=by rw[Z];exact bAl _ _
 have c8:af.1.size=w.1.size+1:=by rw[W];simp
 have c9:a3.1.size=w.1.size+1+1:=by rw[X];simp[c8]
 have da:a4.1.size=w.1.size+1+1+1:=by rw[Y];simp[c9]
 have b2:=ap.trans (c2.mono ap.size);have b1:=c1.trans (b2.mono c1.size);have cV:=(by rw[W];exact aq w _ _:Blk af 35 w.1.size [.slice d.sa K.n d.sc,.slice d.pa K.m d.pc]).below b1;have d7:=(by rw[X,<-c8];exact aq af _ _:Blk a3 36 (w.1.size+1) (al aT O P fr)).below b2;have cn:=(by rw[Y,<-c9];exact fU _ _ _ t7:Own1 3 w.1.size a4 (some ⟨w.1.size+1+1,0,none⟩) 0 0 []).below c2;have cp:Own1 3 w.1.size b4 (some ⟨w.1.size+1+1+1,0,none⟩) 0 0 []:=by rw[Z,<-da];exact fU _ _ _ t7
 have b0:=c0.trans (b1.mono c0.size);have c5:(prog.info? 35).map (·.size)=some (#[Value.slice d.sa K.n d.sc,Value.slice d.pa K.m d.pc]:Array Value).size:=gD;have br:=jt d K b4 (ad.below b0);have bf:=t6 b0 (u2 cn cp);have fl:w.1.size+1+1+1<b4.1.size:=by rw[Z];simp[da]
 unfold av at br ⊢;clear c0 c1 ap c2 c8 c9 da b2 b1 cn cp b0;go_enter func66,ntmps66;go_upto_region 3 with fail
 change Code.wp _ _ _ _ ((((w.alloc (.cells #[.slice d.sa K.n d.sc,.slice d.pa K.m d.pc] 35)).alloc (.cells (al aT O P fr).toArray 36)).alloc (.cells #[] 3)).alloc (.cells #[] 3));rw[<-W,<-X,<-Y,<-Z];clear W X Y Z;go_wp2_with (refine BD rfl 35 _ rfl w.1.size rfl 35 #[.slice d.sa K.n d.sc,.slice d.pa K.m d.pc] (0,0) _ cV underlying35 rfl c5 ?_);refine br.mono ?_;rintro e em ⟨rfl,ag⟩;have bT:=cV.below ag;have cl:=d7.below ag;have dq:=bf.out.1.trans (ag.mono bf.out.1.size);have r:=t6 dq (u2 (bf.out.2.1.below ag) (bf.out.2.2.below ag));have fm:=ag.size;clear br cV d7 ag dq bf;cases ac:aR K with
 |false=>
  have bz:Hid (flT K fr=none):=by show flT K fr=none;unfold flT;rw[ac]
  clear ac;go_wp2_with fail;refine BB (v:= .tuple #[.slice (some ⟨w.1.size+1+1,0,none⟩) 0 0,.slice (some ⟨w.1.size+1+1+1,0,none⟩) 0 0,.bool false]) (by simp[results,results66]) rfl ?_;exact⟨r.out.1,[],[],false,_,0,_,0,rfl,r.out.2.1,r.out.2.2,uB,uB,u4 ⟨bz.out,rfl⟩⟩
 |true=>
  have J:=gK ac;have dk:=kO (bg.out w t2) J;have dE:=J.1.2.1;have e2:=dk.le;have bz:Hid (flT K fr=flR (pgD K) (nPg K+1) fr [] []):=by show flT K fr= _;unfold flT;rw[ac]
  clear ac;have bn:=qn d K em (bg.out em r.out.1) J;unfold av at bn;go_wp2_with (refine BD rfl 35 _ rfl w.1.size rfl 35 #[.slice d.sa K.n d.sc,.slice d.pa K.m d.pc] (0,0) _ bT underlying35 rfl c5 ?_);refine bn.mono ?_;rintro e aB ⟨q,C,rfl,cB,cX⟩;have c6:=qN (bg.out w t2) J cX;have cf:∃cs,aB.heap[q]?=some (.cells cs 56 (0,0)):=by
   rcases cX.2 with⟨ak,_⟩|⟨fo,ex,eB,ak,_,dS,_⟩
   ·cases ak
   ·cases ak;exact⟨_,dS⟩
  have b7:=bAl aB (.cells #[.slice (some ⟨q,0,none⟩) K.n C] 136);have d6:=aq aB 136 #[.slice (some ⟨q,0,none⟩) K.n C];have ej:=cB.trans (b7.mono cB.size);have ek:=c6.below b7;have cg:∃cs,(aB.alloc (.cells #[.slice (some ⟨q,0,none⟩) K.n C] 136)).heap[q]?=some (.cells cs 56 (0,0)):=by obtain⟨cs,ba⟩:=cf;exact⟨cs,(b7.block q c6.1).trans ba⟩
  have L:=t6 ej (u2 ek (u2 cg d6));clear bn cB cX c6 b7 cf d6 ej ek cg;go_upto_region 6 with fail
  change Code.wp _ _ _ _ (aB.alloc (.cells #[.slice (some ⟨q,0,none⟩) K.n C] 136));generalize aB.alloc (.cells #[.slice (some ⟨q,0,none⟩) K.n C] 136)=eq at*;generalize aB.1.size=bb at*;have ck:=bT.below L.out.1;have cm:=cl.below L.out.1;have bs:=kQ d K eq dE;unfold av at bs;have d5:=L.out.1.size;clear bT cl;go_wp2_with (refine BD rfl 35 _ rfl w.1.size rfl 35 #[.slice d.sa K.n d.sc,.slice d.pa K.m d.pc] (0,0) _ ck underlying35 rfl c5 ?_);refine bs.mono ?_;rintro e B ⟨rfl,U⟩;have en:=jG (nPg K) t7 B;have ea:=bAl B (.cells (madeCells #[.bool false] (nPg K)) 4);have d8:=jH w.1.size (nPg K) t7 B (by have:=U.size;have:=r.out.1.size;omega);have H:=U.trans (ea.mono U.size);have b8:=L.out.1.trans (H.mono d5);have cb:FS w d K q C bb B.1.size [] [] (some ⟨w.1.size+1+1,0,none⟩) (some ⟨w.1.size+1+1+1,0,none⟩) 0 0 (B.alloc (.cells (madeCells #[.bool false] (nPg K)) 4)):=
   ⟨r.out.1.trans (b8.mono r.out.1.size),r.out.2.1.below b8,r.out.2.2.below b8,d8,L.out.2.1.below H,by obtain⟨cs,ba⟩:=L.out.2.2.1;exact⟨cs,(H.block q L.out.2.1.1).trans ba⟩,Blk.below L.out.2.2.2 H,fun g ak eC=>by simp at ak eC;omega⟩
  have ev:(B.alloc (.cells (madeCells #[.bool false] (nPg K)) 4)).cell? ⟨w.1.size+1,3,none⟩=some (.int .i64 fr):=(cm.below H).cell 3;have dc:Hid (FI w d K q C bb B.1.size fr [] [] (some ⟨w.1.size+1+1,0,none⟩) (some ⟨w.1.size+1+1+1,0,none⟩) 0 0 0 fr (B.alloc (.cells (madeCells #[.bool false] (nPg K)) 4))):=⟨cb,⟨ya,uB⟩,uB,rfl,rfl⟩;clear bs U ea d8 H b8 cb ck cm L r;go_upto_region 9 with fail
  change Code.wp _ _ _ _ (B.alloc (.cells (madeCells #[.bool false] (nPg K)) 4));generalize B.alloc (.cells (madeCells #[.bool false] (nPg K)) 4)=fn at*;generalize B.1.size=sb at*;clear ev en;go_loopw [7,8,11,12] (fun c3 c4 b3 eb wr=> ∃(p f:List Int)(a a5:Option Addr)(c a6:Nat)(N id:Int),c3= .slice a p.length c/\c4= .slice a5 f.length a6/\b3= .int .i64 N/\eb= .int .i64 id/\FI w d K q C bb sb fr p f a a5 c a6 N id wr) (fun _ c4 _ _ _=>nPg K+1-li c4)
  case atStart=>exact⟨[],[],_,_,0,0,0,fr,rfl,rfl,rfl,rfl,dc.out⟩
  case round=>
   obtain⟨p,f,a,a5,c,a6,N,id,rfl,rfl,rfl,rfl,am⟩:=hrel;obtain⟨c7,bS⟩:=aa wr;subst bS;have fc:=am.ok.le;have e5:=am.lf;have Q:Hid _:=am;have dp:c7.cell? ⟨bb,0,none⟩=some (.slice (some ⟨q,0,none⟩) K.n C):=am.s.k.cell 0;have cz:=qM d K id q C c7 (bg.out c7 am.s.b) J am.s.v;clear am;by_cases bx:id=0
   ·subst bx;have cS:Hid (flT K fr=some (p,f)):=by show flT K fr=some (p,f);rw[bz.out,Q.out.eq,xf]
    clear cz dp;go_wp2_with fail;refine BB (v:= .tuple #[.slice a p.length c,.slice a5 f.length a6,.bool true]) (by simp[results,results66]) rfl ?_;exact⟨Q.out.s.b,p,f,true,a,c,a5,a6,rfl,Q.out.s.f,Q.out.s.o,t7,t7,u5 ⟨cS.out,rfl⟩⟩
   have bP:Hid (flT K fr=flR (pgD K) (nPg K-f.length+1) id f p):=by
    show flT K fr=flR (pgD K) (nPg K-f.length+1) id f p;rw[bz.out,Q.out.eq];congr 1;omega
   have e1:(id==0)=false:=by simp[bx]
   go_wp2_with fail;refine cz.mono ?_;rintro e w1 ⟨ab,a7,rfl,dl,cq⟩;have aS:=Q.out.s.below dl;have bs1:=yg cq (ml (bg.out w t2) id);have dF:=mn J id;have n:Hid (eZ (pgD K) f id=false->FlP K fr w (.returned (.tuple #[.slice (some ⟨w1.1.size,0,none⟩) 0 0,.slice (some ⟨w1.1.size+1,0,none⟩) 0 0,.bool false])) ((w1.alloc (.cells #[] 3)).alloc (.cells #[] 3))):=fun eU=>yi aS.b (by rw[bP.out,xg bx eU]);have a2:=aS.m;have G:=t6 aS bs1;have y:Hid (eZ (pgD K) f id=true↔vB K id=true/\vK K id=4/\id∉f/\4<=(vL K id).length/\(vL K id).length%4=0):=kY;generalize d1:vL K id=l at bs1 dF y G ⊢;generalize dX:vK K id=kd at y ⊢;have dd:Hid (vL K id=l):=d1;clear cz dp dl cq aS bs1 d1 dX;cases A:vB K id with
   |false=>
    have m:Hid _:=n.out (by rw[<-w6,y.out,A];intro ad;exact absurd ad.1 uv);clear a2 A;go_wp2_with fail;refine BB (v:= .tuple #[.slice (some ⟨w1.1.size,0,none⟩) 0 0,.slice (some ⟨w1.1.size+1,0,none⟩) 0 0,.bool false]) (by simp[results,results66]) rfl m.out
   |true=>
   have e6:=dk.ok id (show vB K id=true from A);by_cases bE:kd=4
   rotate_left
   ·have eM:(kd==4)=false:=by simp[bE]
    have m:Hid _:=n.out (by rw[<-w6,y.out];intro ad;exact bE ad.2.1);clear a2 A;go_wp2_with fail;refine BB (v:= .tuple #[.slice (some ⟨w1.1.size,0,none⟩) 0 0,.slice (some ⟨w1.1.size+1,0,none⟩) 0 0,.bool false]) (by simp[results,results66]) rfl m.out
   subst bE;obtain⟨i,rfl⟩:∃i:Nat,id=(i:Int):=⟨id.toNat,t7⟩;have bC:i<nPg K:=t7;obtain⟨_,ak,fd,eV,⟨cP,aX⟩,ba⟩:=a2.at_ t7;cases ak;have db:Hid (w1.heap[sb]?=some (.cells cP 4 (0,0))):=aX;clear aX;have cM:=(ba i bC).trans (B8 some (go f (nPg K) i bC));clear ba a2;cases z:f.contains (i:Int)with
   |true=>
    rw[z]at cM;have m:Hid _:=n.out (by rw[<-w6,y.out];intro ad;exact ad.2.2.1 (w5.1 z));clear z A;go_wp2_with fail;refine BB (v:= .tuple #[.slice (some ⟨w1.1.size,0,none⟩) 0 0,.slice (some ⟨w1.1.size+1,0,none⟩) 0 0,.bool false]) (by simp[results,results66]) rfl m.out
   |false=>
   rw[z]at cM;have ce:(i:Int)∉f:=fun ad=>by rw[w5.2 ad]at z;cases z
   by_cases fs:l.length<4
   ·have m:Hid _:=n.out (by rw[<-w6,y.out];intro ad;omega);have dr:(l.length:Int)<4:=t7;clear z A;go_wp2_with fail;refine BB (v:= .tuple #[.slice (some ⟨w1.1.size,0,none⟩) 0 0,.slice (some ⟨w1.1.size+1,0,none⟩) 0 0,.bool false]) (by simp[results,results66]) rfl m.out
   have dr:¬(l.length:Int)<4:=t7;by_cases b5:l.length%4=0
   rotate_left
   ·have m:Hid _:=n.out (by rw[<-w6,y.out];intro ad;omega);have ds:((l.length:Int)%4 !=0)=true:=by simp;omega
    have r:Hid _:=b5;clear b5;clear z A;go_wp2_with fail;refine BB (v:= .tuple #[.slice (some ⟨w1.1.size,0,none⟩) 0 0,.slice (some ⟨w1.1.size+1,0,none⟩) 0 0,.bool false]) (by simp[results,results66]) rfl m.out
   have ds:((l.length:Int)%4 !=0)=false:=by simp;omega
   have r:Hid (l.length%4=0):=b5;have bA:=G.out.1.m.free i;clear z b5;go_upto_region 13 with fail
   go_upto_region 14 with fail
   have cW:=ax w1 sb i (.bool true);have bW:∀t,4≠t->KeepT t w1 (w1.setCell ⟨sb,i,none⟩ (.bool true)):=fun t eW=>cx cW db.out eW;have bZ:=G.out.1.o.keep (bW _ uv);have d4:w.1.size<=(w1.setCell ⟨sb,i,none⟩ (.bool true)).1.size:=by have:=cW.size;omega
   have cj:(w1.setCell ⟨sb,i,none⟩ (.bool true)).1.size=w1.1.size:=by simp
   generalize cc:w1.setCell ⟨sb,i,none⟩ (.bool true)=cA at*;have bm:Hid (w1.setCell ⟨sb,i,none⟩ (.bool true)=cA/\cA.1.size=w1.1.size):=⟨cc,cj⟩;clear cj cc;go_upto_region 15 with(first|(at_builtin;refine iF rfl _ _ co rfl w.1.size a5 f.length a6 (on f) rfl bZ (.int .i64 (i:Nat)) rfl rfl t7 t7 d4 ?_;intro cR cL ft d9 es bv bu)|fail)
   rw[bm.out.2]at bu;have b9:=G.out.1.appO bC d9 (by rw[bm.out.1];exact bv) bu;have ap:=bAl cA (.cells #[.int .i64 (i:Nat)] 3);have I:=G.out.2.keep (((bW _ uv).trans (aV ap)).trans (bD (bQ bZ ap) bv uv));obtain⟨cD,bY,rfl,_,_⟩:=I.bs.at_ (by have:=I.bs.len_eq;omega);have e3:=I.bs.le;have dI:=I.bs.le';unfold maxLen at dI;have an:=Q.out.ok.snoc t7 t7 ce;have d2:=an.le;rw[u7,x2]at d2;have bl:Hid (eZ (pgD K) f (i:Int)=true):=y.out.2 ⟨A,True.intro,ce,t7,r.out⟩;have cr:=t6 b9 (u2 I an);clear cW bW bZ d9 es bv bu b9 ap I an G n y cM A bA bm;go_upto_region 16 with fail
   go_loopw [7,11,16] (fun c3 b3 ef wr=> ∃(j k:Nat)(h:List Int)(S:Option Addr)(V:Nat)(o:Int),c3= .slice S h.length V/\b3= .int .i64 o/\ef= .int .i64 (j:Nat)/\j=4*k/\1<=k/\j<=l.length/\FS w d K q C bb sb h (f++[(i:Int)]) S (some ⟨cR,0,none⟩) V cL wr/\BsT wr (some ⟨cD,bY,none⟩) l.length a7 l/\h.length+1=p.length+k/\o=h.getLastD 0/\frA (cG l 1) p=frA (cG l k) h) (fun _ _ s _=>l.length-(intOf s).toNat)
   case atStart=>exact⟨4,1,p,a,c,N,rfl,rfl,rfl,rfl,t7,t7,cr.out.1,cr.out.2.1,rfl,Q.out.la,rfl⟩
   case round=>
    obtain⟨j,k,h,S,V,o,rfl,rfl,rfl,b6,e8,e7,a9,a8,bB,a1,a0⟩:=hrel;obtain⟨wI,bS⟩:=aa wr;subst bS;have ch:=a9.b.size;have F:=t6 a9 (u2 a8 (u2 a1 a0));have cv:Hid (j=4*k):=b6;have ca:Hid _:=bB;by_cases e9:j<l.length
    ·have eN:(j:Int)< (l.length:Int):=t7;have dD:=r.out;have dU:j+4<=l.length:=t7;have ae:=lQ (some ⟨cD,bY+j,none⟩) 4 (a7-j) ((l.drop j).take 4) wI (a8.bs.piece j 4 dU (a7-j) t7 (by unfold maxLen;omega)) t7;rw[show low ((l.drop j).take 4)=dN l k by rw[b6];rfl]at ae;have M:Hid (cG l k=dN l k::cG l (k+1)):=xe t7;have e4:¬a7=j:=t7;have R:=a9.f;have cT:h.length<=65536:=t7;clear b6 a9 a8 a1 a0 dD bB;generalize dN l k=x at*;go_upto_region 19 with fail
     refine ae.mono ?_;rintro e u ⟨rfl,bR⟩;obtain rfl:=bR.symm;clear bR ae;go_upto_region 19 with fail
     rcases Nat.eq_zero_or_pos h.length with hf0|hf0
     ·have dP:=x8 hf0;subst dP;have R:Own1 3 w.1.size wI S 0 V (on []):=R;have bk:Hid (frA (cG l 1) p=frA (cG l (k+1)) ([]++[x])):=by
       show frA (cG l 1) p=frA (cG l (k+1)) ([]++[x]);rw[F.out.2.2.2,M.out,frA,BX (fun ad=>ad.1 rfl)]
      clear hf0 cT;go_wp2_with (at_builtin;refine iF rfl _ _ co rfl w.1.size S 0 V (on []) rfl R (.int .i64 x) rfl rfl t7 t7 ch ?_);intro eK et B bX U E T;have bd:=F.out.1.appF bX E T;have aA:=bAl wI (.cells #[.int .i64 x] 3);have bc:=F.out.2.1.keep ((aV aA).trans (bD (bQ R aA) E uv));have D:=t6 bd bc;clear bX U E T aA bd bc R;go_wp2_with fail;go_roundw
      case rel=>have dV:=cv.out;have bA:=ca.out;exact⟨j+4,k+1,[]++[x],_,_,x,by rw[u7];rfl,rfl,by go_num,t7,t7,t7,D.out.1,D.out.2,by rw[u7,x2];omega,uB,bk.out⟩
      case measure=>simp[intOf];omega
     ·have eL:(0:Int)< (h.length:Int):=t7;have bF:h≠[]:=fun e=>by rw[e]at hf0;exact absurd hf0 (Nat.lt_irrefl _)
      by_cases d3:x<=o
      ·have m:Hid _:=yi (K:=K) (fr:=fr) F.out.1.b (by
        have eR:h≠[]/\x<=h.getLastD 0:=⟨bF,by rw[<-F.out.2.2.1];exact d3⟩;rw[bP.out,oH bx bl.out,show(pgD K).bd (i:Int)=l from dd.out,F.out.2.2.2,M.out,frA,BC eR];rfl)
       clear hf0 bF;go_wp2_with fail;refine BB (v:= .tuple #[.slice (some ⟨wI.1.size,0,none⟩) 0 0,.slice (some ⟨wI.1.size+1,0,none⟩) 0 0,.bool false]) (by simp[results,results66]) rfl m.out
      ·have bk:Hid (frA (cG l 1) p=frA (cG l (k+1)) (h++[x])):=by
        show frA (cG l 1) p=frA (cG l (k+1)) (h++[x]);rw[F.out.2.2.2,M.out,frA,BX (fun ad=>by have:=ad.2;rw[<-F.out.2.2.1]at this;omega)]
       clear hf0 bF;go_wp2_with (at_builtin;refine iF rfl _ _ co rfl w.1.size S h.length V (on h) rfl R (.int .i64 x) rfl rfl t7 t7 ch ?_);intro eK et B bX U E T;have bd:=F.out.1.appF bX E T;have aA:=bAl wI (.cells #[.int .i64 x] 3);have bc:=F.out.2.1.keep ((aV aA).trans (bD (bQ R aA) E uv));have D:=t6 bd bc;clear bX U E T aA bd bc R;go_wp2_with fail;go_roundw
       case rel=>have dV:=cv.out;have bA:=ca.out;exact⟨j+4,k+1,h++[x],_,_,x,by rw[u7];rfl,rfl,by go_num,t7,t7,t7,D.out.1,D.out.2,by rw[u7,x2];omega,uB,bk.out⟩
       case measure=>simp[intOf];omega
    ·have dW:j=l.length:=t7;have fa:¬(j:Int)< (l.length:Int):=t7;have ae:=lQ (some ⟨cD,bY,none⟩) 4 a7 (l.take 4) wI (by have:=a8.bs.piece 0 4 t7 a7 t7 a8.bs.le';simpa using this) t7;rw[show low (l.take 4)=dN l 0 by simp[dN]]at ae;have D:Hid (FI w d K q C bb sb fr h (f++[(i:Int)]) S (some ⟨cR,0,none⟩) V cL o (dN l 0) wI):=by
      refine⟨a9,cr.out.2.2,by rw[u7,x2];omega,a1,?_⟩;rw[<-bz.out,bP.out,oH bx bl.out,show(pgD K).bd (i:Int)=l from dd.out,a0,wZ t7,frA];show flR (pgD K) (nPg K-f.length) _ _ _= _;congr 1;rw[u7,x2];omega
     clear dW b6 a9 a8 a1 a0 cv bB;go_wp2_with fail;refine ae.mono ?_;rintro e u ⟨rfl,bR⟩;obtain rfl:=bR.symm;clear bR ae;go_wp2_with fail;go_roundw
     case rel=>exact⟨h,f++[(i:Int)],S,some ⟨cR,0,none⟩,V,cL,o,dN l 0,rfl,by rw[u7];rfl,rfl,rfl,D.out⟩
     case measure=>simp only[li];omega
noncomputable def iG(K:DK)(root fr:Int)(M:Nat):Bool:=match flT K fr with|some p=>tpB K root&&mrk M (tpL K root) p.1 p.2|none=>false
noncomputable def whS(K:DK)(gen root used fr:Int):Bool:=aR K&&bG gen root used fr&&decide (used<=((nPg K:Nat):Int))&&iG K root fr used.toNat
theorem yk(d K o b h fr w)(c5:RDisk w d K):
 Calls prog 28 #[av d K,.agg (al o b h fr).toArray] w fun e w'=>e= .returned (.bool (whS K o b h fr))/\Below w.1.size w w':=by
 obtain⟨P,J⟩:=aa (w.alloc (.cells #[.slice d.sa K.n d.sc,.slice d.pa K.m d.pc] 35));obtain⟨t,W⟩:=aa (P.alloc (.cells (al o b h fr).toArray 36));have b0:Below w.1.size w P:=by rw[J];exact bAl _ _
 have b1:Below P.1.size P t:=by rw[W];exact bAl _ _
 have cv:P.1.size=w.1.size+1:=by rw[J];simp
 have a3:=(by rw[J];exact aq w _ _:Blk P 35 w.1.size [.slice d.sa K.n d.sc,.slice d.pa K.m d.pc]).below b1;have ac:Blk t 36 (w.1.size+1) (al o b h fr):=by rw[W,<-cv];exact aq P _ _
 have O:=b0.trans (b1.mono b0.size);have ck:(prog.info? 35).map (·.size)=some (#[Value.slice d.sa K.n d.sc,Value.slice d.pa K.m d.pc]:Array Value).size:=gD;have cS:(prog.info? 36).map (·.size)=some (al o b h fr).toArray.size:=bj;have bE:Hid (∀u,Below t.1.size t u->RDisk u d K):=fun u s=>c5.below (O.trans (s.mono O.size));have A:Hid (∀u,Below t.1.size t u->Below w.1.size w u):=fun u s=>O.trans (s.mono O.size);have S:Hid (∀u,Below t.1.size t u->u.cell? ⟨w.1.size,0,none⟩=some (.slice d.sa K.n d.sc)/\u.cell? ⟨w.1.size,1,none⟩=some (.slice d.pa K.m d.pc)/\u.cell? ⟨w.1.size+1,0,none⟩=some (.int .i64 o)/\u.cell? ⟨w.1.size+1,1,none⟩=some (.int .i64 b)/\u.cell? ⟨w.1.size+1,2,none⟩=some (.int .i64 h)/\u.cell? ⟨w.1.size+1,3,none⟩=some (.int .i64 fr)):=fun u s=>⟨Blk.cell (a3.below s) 0,Blk.cell (a3.below s) 1,Blk.cell (ac.below s) 0,Blk.cell (ac.below s) 1,Blk.cell (ac.below s) 2,Blk.cell (ac.below s) 3⟩;have D:=t6 a3 ac;have an:=bDr t;have cs:=S.out t.drew an;have bx:=jt d K t.drew (bE.out _ an);unfold av at bx ⊢;clear b0 b1 cv O a3 ac;generalize aB:whS K o b h fr=i at*;have E:Hid _:=aB;clear aB;go_enter func28,ntmps28;go_upto_region 1 with fail
 change Code.wp _ _ _ _ ((w.alloc (.cells #[.slice d.sa K.n d.sc,.slice d.pa K.m d.pc] 35)).alloc (.cells (al o b h fr).toArray 36));rw[<-J,<-W];clear J W;refine az (fun u=>u.cell? ⟨w.1.size,0,none⟩=some (.slice d.sa K.n d.sc)/\u.cell? ⟨w.1.size,1,none⟩=some (.slice d.pa K.m d.pc)/\u.cell? ⟨w.1.size+1,0,none⟩=some (.int .i64 o)/\u.cell? ⟨w.1.size+1,1,none⟩=some (.int .i64 b)/\u.cell? ⟨w.1.size+1,2,none⟩=some (.int .i64 h)/\u.cell? ⟨w.1.size+1,3,none⟩=some (.int .i64 fr)) (fun _=>false) uA ?_;refine ai 0 cs ?_;refine ah 1 fun n k=> ?_;go_wp2_with fail;refine bx.mono ?_;rintro e cn ⟨rfl,b6⟩;have ag:=an.trans (b6.mono an.size);have f:=S.out cn ag;clear bx;go_wp2_with fail;refine ao k ?_;clear k n;have bz:=mU o b h fr cn;cases B:aR K with
 |false=>
  have p:Hid (i=false):=by show i=false;rw[<-E.out];unfold whS;rw[B];rfl
  clear bz;refine ai 2 f ?_;refine ai 3 f ?_;refine aE 4 f ?_;refine aE 5 f ?_;refine aE 6 f ?_;refine ai 7 f ?_;refine ai 8 f ?_;refine aE 9 f ?_;refine aE 10 f ?_;refine aE 11 f ?_;refine aE 12 f ?_;refine aE 13 f ?_;refine ai 14 f ?_;refine bi ?_;go_wp2_with fail;go_ret;exact⟨by rw[p.out];rfl,A.out _ ag⟩
 |true=>
 have ce:=gK B;refine ai 2 f ?_;refine ai 3 f ?_;refine ai 4 f ?_;refine ah 5 fun n k=> ?_;go_wp2_with fail;refine bz.mono ?_;rintro e cp ⟨rfl,b7⟩;have ak:=ag.trans (b7.mono ag.size);have g:=S.out cp ak;clear bz;go_wp2_with fail;refine ao k ?_;clear k n;cases y:bG o b h fr with
 |false=>
  have p:Hid (i=false):=by show i=false;rw[<-E.out];unfold whS;rw[B,y];rfl
  refine ai 6 g ?_;refine ai 7 g ?_;refine ai 8 g ?_;refine aE 9 g ?_;refine aE 10 g ?_;refine aE 11 g ?_;refine aE 12 g ?_;refine aE 13 g ?_;refine ai 14 g ?_;refine bi ?_;go_wp2_with fail;go_ret;exact⟨by rw[p.out];rfl,A.out _ ak⟩
 |true=>
 have cc:=ce.1.2.1;have bA:=kQ d K cp cc;unfold av at bA;refine ai 6 g ?_;refine ai 7 g ?_;refine ai 8 g ?_;refine ai 9 g ?_;refine ai 10 g ?_;refine ai 11 g ?_;refine ah 12 fun n k=> ?_;go_wp2_with fail;refine bA.mono ?_;rintro e b2 ⟨rfl,b8⟩;have Z:=ak.trans (b8.mono ak.size);have q:=S.out b2 Z;clear bA;go_wp2_with fail;refine ao k ?_;clear k n;by_cases Y:h<=((nPg K:Nat):Int)
 rotate_left
 ·have aS:((nPg K:Nat):Int)<h:=t7;have p:Hid (i=false):=by show i=false;rw[<-E.out];unfold whS;rw[B,y,B1 Y];rfl
  clear Y;refine ai 13 q ?_;refine ai 14 q ?_;refine bi ?_;go_wp2_with fail;go_ret;exact⟨by rw[p.out];rfl,A.out _ Z⟩
 have aS:¬((nPg K:Nat):Int)<h:=t7;refine ai 13 q ?_;refine ai 14 q ?_;refine bi ?_;go_upto_region 3 with fail
 have bb:iK o h=true/\nmB h b=true/\nmB h fr=true:=by
  unfold bG at y;rw[wz,wz]at y;exact y
 obtain⟨c3,c4,u1,c6⟩:=CC bb.1;have V:Hid (i=iG K b fr h.toNat):=by
  show i= _;rw[<-E.out];unfold whS;rw[B,y,B2 Y];rfl
 obtain⟨M,rfl⟩:∃M:Nat,h=(M:Int):=⟨h.toNat,t7⟩;rw[Int.toNat_natCast]at V;have bf:=D.out.1.below Z;obtain⟨_,_,_,cD,_,_⟩:=q;have bS:=wY d K b b2 (bE.out b2 Z);have bB:Hid _:=Z;clear cs f g ag ak an b6 b7 b8 bb y B Y aS Z;unfold av at bS;go_wp2_with (refine BD rfl 35 _ rfl w.1.size rfl 35 #[.slice d.sa K.n d.sc,.slice d.pa K.m d.pc] (0,0) _ bf underlying35 rfl ck ?_);refine bS.mono ?_;rintro e cq ⟨b4,cb,rfl,b9,br⟩;have am:=bB.out.trans (b9.mono bB.out.size);have bg:=D.out.1.below am;have bk:=D.out.2.below am;have bC:=yj d K o b (M:Nat) fr cq (bE.out cq am);unfold av at bC;have aX:=t6 am br;have cW:(tpL K b).length<=1024:=by
  unfold tpL;cases ldT K b with
  |none=>simp
  |some x=>exact u9 (oe _ _) (by unfold nPg;omega)
 generalize bd:tpL K b=z at*;generalize bc:tpB K b=cl at*;have ad:Hid (tpL K b=z/\tpB K b=cl):=⟨bd,bc⟩;clear bS b9 br am bf cD bd bc;go_wp2_with (first|(refine BD rfl 35 _ rfl w.1.size rfl 35 #[.slice d.sa K.n d.sc,.slice d.pa K.m d.pc] (0,0) _ bg underlying35 rfl ck ?_)|(refine BD rfl 36 _ rfl (w.1.size+1) rfl 36 (al o b (M:Nat) fr).toArray (0,0) _ bk underlying36 rfl cS ?_));refine bC.mono ?_;rintro e G ⟨bT,I,C,c0,a,c,cA,cB,rfl,bm,bn,cT,cV,ba⟩;have bW:=aX.out.1.trans (bT.mono aX.out.1.size);have bs:=aX.out.2.below bT;have ca:G.cell? ⟨w.1.size+1,2,none⟩=some (.int .i64 (M:Nat)):=(D.out.2.below bW).cell 2;have F:=t6 bW (u2 bs (u2 bm bn));clear bC bT bm bn bW bs bg bk aX bB;cases cl with
 |false=>
  have p:Hid (i=false):=by
   show i=false;rw[V.out];unfold iG;rw[ad.out.2];cases flT K fr<;>rfl
  clear ba;go_wp2_with fail;go_ret;exact⟨by rw[p.out];rfl,A.out _ F.out.1⟩
 |true=>
 rcases ba with⟨L,rfl⟩|⟨L,rfl⟩
 rotate_left
 ·have p:Hid (i=false):=by show i=false;rw[V.out];unfold iG;rw[L]
  clear L;go_wp2_with fail;go_ret;exact⟨by rw[p.out];rfl,A.out _ F.out.1⟩
 have a1:Hid (i=mrk M z I C):=by show i= _;rw[V.out];unfold iG;rw[L,ad.out.1,ad.out.2];rfl
 have cz:=jG M t7 G;have aT:=bAl G (.cells (madeCells #[.bool false] M) 4);have ch:=jH G.1.size M t7 G t1;have ab:=F.out.1.trans (aT.mono F.out.1.size);have a6:(G.alloc (.cells (madeCells #[.bool false] M) 4)).cell? ⟨w.1.size+1,2,none⟩=some (.int .i64 (M:Nat)):=(D.out.2.below ab).cell 2;have cX:=F.out.1.size;have H:=t6 ab (u2 (F.out.2.1.below aT) (u2 (F.out.2.2.1.below aT) (u2 (F.out.2.2.2.below aT) ch)));clear aT ch ab L F;go_upto_region 8 with fail
 change Code.wp _ _ _ _ (G.alloc (.cells (madeCells #[.bool false] M) 4));generalize G.alloc (.cells (madeCells #[.bool false] M) 4)=ae at*;generalize cf:G.1.size=mb at*;clear ca cz cf;have v:=bDr ae;have ab:=H.out.1.trans (v.mono H.out.1.size);have a7:ae.drew.cell? ⟨w.1.size+1,2,none⟩=some (.int .i64 (M:Nat)):=a6;obtain⟨_,cL,a9⟩:=(H.out.2.2.2.2.below v).blk;have a4:Hid (∀u,OnlyB mb ae.drew u->KeepT 3 ae.drew u):=fun u s=>cx s a9 uv;have bF:=qY _ _ mb M [] z b4 cb ae.drew t7 t7 (H.out.2.2.2.2.below v) (H.out.2.1.below v);generalize N:mOk M z []=cM at bF;have a5:=t6 (H.out.2.2.1.below v) (H.out.2.2.2.1.below v);clear v a9 a6 H;refine az (fun u=>u.cell? ⟨w.1.size+1,2,none⟩=some (.int .i64 (M:Nat))) (fun _=>false) uA ?_;refine ai 0 a7 ?_;refine ai 1 a7 ?_;refine ah 2 fun n k=> ?_;go_wp2_with fail;refine bF.mono ?_;rintro e cr ⟨rfl,bY,aA⟩;have a0:=ab.trans (bY.below t7 ab.size);have l:cr.cell? ⟨w.1.size+1,2,none⟩=some (.int .i64 (M:Nat)):=(D.out.2.below a0).cell 2;clear bF;go_wp2_with fail;refine ao k ?_;clear k n;cases cM with
 |false=>
  have p:Hid (i=false):=by show i=false;rw[a1.out];unfold mrk;rw[N];rfl
  clear aA;refine ai 3 l ?_;refine aE 4 l ?_;refine aE 5 l ?_;refine aE 6 l ?_;refine ai 7 l ?_;refine ai 8 l ?_;refine aE 9 l ?_;refine aE 10 l ?_;refine aE 11 l ?_;refine ai 12 l ?_;refine ai 13 l ?_;refine aE 14 l ?_;refine aE 15 l ?_;refine aE 16 l ?_;refine aE 17 l ?_;refine aE 18 l ?_;refine aE 19 l ?_;refine aE 20 l ?_;refine ai 21 l ?_;refine ah 22 fun n k=> ?_;go_wp2_with fail;refine ao k ?_;clear k n;refine bi ?_;go_wp2_with fail;go_ret;exact⟨by rw[p.out];rfl,A.out _ a0⟩
 |true=>
 have bP:=qY _ _ mb M (z.reverse++[]) I a c cr t7 t7 (aA rfl) (a5.out.1.keep (a4.out _ bY));generalize X:mOk M I (z.reverse++[])=cP at bP;clear aA;refine ai 3 l ?_;refine ai 4 l ?_;refine ai 5 l ?_;refine ah 6 fun n k=> ?_;go_wp2_with fail;refine bP.mono ?_;rintro e bu ⟨rfl,bl,Q⟩;have T:=a0.trans (bl.below t7 a0.size);have j:bu.cell? ⟨w.1.size+1,2,none⟩=some (.int .i64 (M:Nat)):=(D.out.2.below T).cell 2;clear bP;go_wp2_with fail;refine ao k ?_;clear k n;have bX:=bY.trans bl;cases cP with
 |false=>
  have p:Hid (i=false):=by show i=false;rw[a1.out];unfold mrk;rw[N,X];rfl
  clear Q;refine ai 7 j ?_;refine ai 8 j ?_;refine aE 9 j ?_;refine aE 10 j ?_;refine aE 11 j ?_;refine ai 12 j ?_;refine ai 13 j ?_;refine aE 14 j ?_;refine aE 15 j ?_;refine aE 16 j ?_;refine aE 17 j ?_;refine aE 18 j ?_;refine aE 19 j ?_;refine aE 20 j ?_;refine ai 21 j ?_;refine ah 22 fun n k=> ?_;go_wp2_with fail;refine ao k ?_;clear k n;refine bi ?_;go_wp2_with fail;go_ret;exact⟨by rw[p.out];rfl,A.out _ T⟩
 |true=>
 have bR:=qY _ _ mb M (I.reverse++(z.reverse++[])) C cA cB bu t7 t7 (Q rfl) (a5.out.2.keep (a4.out _ bX));generalize ap:mOk M C (I.reverse++(z.reverse++[]))=cR at bR;clear Q;refine ai 7 j ?_;refine ai 8 j ?_;refine ai 9 j ?_;refine ai 10 j ?_;refine ah 11 fun n k=> ?_;go_wp2_with fail;refine bR.mono ?_;rintro e bv ⟨rfl,cj,R⟩;have U:=T.trans (cj.below t7 T.size);have m:bv.cell? ⟨w.1.size+1,2,none⟩=some (.int .i64 (M:Nat)):=(D.out.2.below U).cell 2;clear bR;go_wp2_with fail;refine ao k ?_;clear k n;cases cR with
 |false=>
  have p:Hid (i=false):=by show i=false;rw[a1.out];unfold mrk;rw[N,X,ap];rfl
  clear R;refine ai 12 m ?_;refine ai 13 m ?_;refine aE 14 m ?_;refine aE 15 m ?_;refine aE 16 m ?_;refine aE 17 m ?_;refine aE 18 m ?_;refine aE 19 m ?_;refine aE 20 m ?_;refine ai 21 m ?_;refine ah 22 fun n k=> ?_;go_wp2_with fail;refine ao k ?_;clear k n;refine bi ?_;go_wp2_with fail;go_ret;exact⟨by rw[p.out];rfl,A.out _ U⟩
 |true=>
 have b3:=og _ mb M (C.reverse++(I.reverse++(z.reverse++[]))) bv t7 (R rfl);have a8:Hid (i=((mkd (C.reverse++(I.reverse++(z.reverse++[]))) M).length+2==M)):=by show i= _;rw[a1.out];unfold mrk;rw[N,X,ap];rfl
 generalize mkd (C.reverse++(I.reverse++(z.reverse++[]))) M=mk at*;clear R N X ap;refine ai 12 m ?_;refine ai 13 m ?_;refine ai 14 m ?_;refine ai 17 m ?_;refine ai 18 m ?_;refine ai 19 m ?_;refine ah 15 fun n k=> ?_;go_wp2_with fail;refine b3.mono ?_;rintro e cm ⟨c1,c2,rfl,b5,bZ⟩;have af:=U.trans (b5.mono U.size);have r:cm.cell? ⟨w.1.size+1,2,none⟩=some (.int .i64 (M:Nat)):=(D.out.2.below af).cell 2;clear b3 bZ;go_wp2_with fail;refine ao k ?_;clear k n;by_cases a2:mk.length+2=M
 ·have cg:(((mk.length:Nat):Int)==(M:Int)-2)=true:=by simp;omega
  have p:Hid (i=true):=by show i=true;rw[a8.out];simp[a2]
  clear a2;refine ai 16 r ?_;refine ai 20 r ?_;refine ai 21 r ?_;refine ah 22 fun n k=> ?_;go_wp2_with fail;refine ao k ?_;clear k n;refine bi ?_;go_wp2_with fail;go_ret;exact⟨by rw[p.out];rfl,A.out _ af⟩
 ·have cg:(((mk.length:Nat):Int)==(M:Int)-2)=false:=by simp;omega
  have p:Hid (i=false):=by show i=false;rw[a8.out];simp[a2]
  clear a2;refine ai 16 r ?_;refine ai 20 r ?_;refine ai 21 r ?_;refine ah 22 fun n k=> ?_;go_wp2_with fail;refine ao k ?_;clear k n;refine bi ?_;go_wp2_with fail;go_ret;exact⟨by rw[p.out];rfl,A.out _ af⟩
