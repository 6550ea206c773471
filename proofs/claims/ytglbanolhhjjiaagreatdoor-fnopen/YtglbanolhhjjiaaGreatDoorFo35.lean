import Derived.Test.YtglbanolhhjjiaaGreatDoorFo34
namespace Go.Proofs.YtglbanolhhjjiaaGreatDoor
open Go.Proofs.Tryz
open Go.RowKit
set_option linter.unusedVariables false
set_option maxRecDepth 100000
set_option maxHeartbeats 32000000
def FlP(K:DK)(fr:Int)(w:World)(e:Ending)(w':World):Prop:=Below w.1.size w w'/\∃(fs own:List Int)(ok:Bool)(a:Option Addr)(c:Nat)(a2:Option Addr)(c2:Nat),e= .returned (.tuple #[.slice a fs.length c,.slice a2 own.length c2,.bool ok])/\Own1 3 w.1.size w' a fs.length c (on fs)/\Own1 3 w.1.size w' a2 own.length c2 (on own)/\fs.length<=65536/\own.length<=1024/\((flT K fr=some (fs,own)/\ok=true)\/(flT K fr=none/\ok=false))
theorem yi{K fr w u}(a:Below w.1.size w u)(e:flT K fr=none):FlP K fr w (.returned (.tuple #[.slice (some ⟨u.1.size,0,none⟩) 0 0,.slice (some ⟨u.1.size+1,0,none⟩) 0 0,.bool false])) ((u.alloc (.cells #[] 3)).alloc (.cells #[] 3)):=by
 have f:=bAl u (.cells #[] 3);have d:Below (u.alloc (.cells #[] 3)).1.size (u.alloc (.cells #[] 3)) ((u.alloc (.cells #[] 3)).alloc (.cells #[] 3)):=bAl _ _;have g:(u.alloc (.cells #[] 3)).1.size=u.1.size+1:=by simp
 have b:=a.size;have c:=fU 3 w.1.size (u.alloc (.cells #[] 3)) uA;rw[g]at c;exact⟨(a.trans (f.mono b)).trans (d.mono uA),[],[],false,_,0,_,0,rfl,(fU 3 w.1.size u b).below d,c,vo,vo,v6 ⟨e,rfl⟩⟩
structure FI(w:World)(d:DV)(K:DK)(gv cv vb sb:Nat)(fr:Int)(fs own:List Int)(a a2:Option Addr)(c c2:Nat)(last id:Int)(wr:World):Prop where
 s:Ftq w d K gv cv vb sb fs own a a2 c c2 wr
 ok:SeenOk own (nPg K)
 lf:fs.length<=64*own.length
 la:last=fs.getLastD 0
 eq:flR (pgD K) (nPg K+1) fr [] []=flR (pgD K) (nPg K+1-own.length) id own fs
theorem Ja(a n c):prog.built 136 [(0,.slice a n c)]=some #[.slice a n c]:=vk
theorem yj(d K aS O P fr w)(h:RDisk w d K):
 Calls prog 66 #[av d K,.agg (al aS O P fr).toArray] w (FlP K fr w):=by
 have bf:Hid (∀u,Below w.1.size w u->RDisk u d K):=fun u b=>h.below b;obtain⟨ae,W⟩:=aa (w.alloc (.cells #[.slice d.sa K.n d.sc,.slice d.pa K.m d.pc] 35));obtain⟨a2,X⟩:=aa (ae.alloc (.cells (al aS O P fr).toArray 36));obtain⟨a3,Y⟩:=aa (a2.alloc (.cells #[] 3));obtain⟨b3,Z⟩:=aa (a3.alloc (.cells #[] 3));have cW:Below w.1.size w ae:=by rw[W];exact bAl _ _
 have cX:Below ae.1.size ae a2:=by rw[X];exact bAl _ _
 have an:Below a2.1.size a2 a3:=by rw[Y];exact bAl _ _
 have c0:Below a3.1.size a3 b3:=by rw[Z];exact bAl _ _
 have c6:ae.1.size=w.1.size+1:=by rw[W];simp
 have c7:a2.1.size=w.1.size+1+1:=by rw[X];simp[c6]
 have c8:a3.1.size=w.1.size+1+1+1:=by rw[Y];simp[c7]
 have b1:=an.trans (c0.mono an.size);have b0:=cX.trans (b1.mono cX.size);have cS:=(by rw[W];exact aq w _ _:Blk ae 35 w.1.size [.slice d.sa K.n d.sc,.slice d.pa K.m d.pc]).below b0;have d6:=(by rw[X,<-c6];exact aq ae _ _:Blk a2 36 (w.1.size+1) (al aS O P fr)).below b1;have cl:=(by rw[Y,<-c7];exact fU _ _ _ uA:Own1 3 w.1.size a3 (some ⟨w.1.size+1+1,0,none⟩) 0 0 []).below c0;have cm:Own1 3 w.1.size b3 (some ⟨w.1.size+1+1+1,0,none⟩) 0 0 []:=by rw[Z,<-c8];exact fU _ _ _ uA
 have bZ:=cW.trans (b0.mono cW.size);have c3:(prog.info? 35).map (·.size)=some (#[Value.slice d.sa K.n d.sc,Value.slice d.pa K.m d.pc]:Array Value).size:=gD;have bn:=jt d K b3 (h.below bZ);have bd:=uv bZ (vJ cl cm);have fc:w.1.size+1+1+1<b3.1.size:=by rw[Z];simp[c8]
 unfold av at bn ⊢;clear cW cX an c0 c6 c7 c8 b1 b0 cl cm bZ;go_enter func66,ntmps66;go_upto_region 3 with fail
 change Code.wp _ _ _ _ ((((w.alloc (.cells #[.slice d.sa K.n d.sc,.slice d.pa K.m d.pc] 35)).alloc (.cells (al aS O P fr).toArray 36)).alloc (.cells #[] 3)).alloc (.cells #[] 3));rw[<-W,<-X,<-Y,<-Z];clear W X Y Z;go_wp2_with (refine B5 rfl 35 _ rfl w.1.size rfl 35 #[.slice d.sa K.n d.sc,.slice d.pa K.m d.pc] (0,0) _ cS underlying35 rfl c3 ?_);refine bn.mono ?_;rintro e ej ⟨rfl,af⟩;have bS:=cS.below af;have cj:=d6.below af;have dl:=bd.out.1.trans (af.mono bd.out.1.size);have r:=uv dl (vJ (bd.out.2.1.below af) (bd.out.2.2.below af));have fd:=af.size;clear bn cS d6 af dl bd;cases ac:aR K with
 |false=>
  have bx:Hid (flT K fr=none):=by show flT K fr=none;unfold flT;rw[ac]
  clear ac;go_wp2_with fail;refine B3 (v:= .tuple #[.slice (some ⟨w.1.size+1+1,0,none⟩) 0 0,.slice (some ⟨w.1.size+1+1+1,0,none⟩) 0 0,.bool false]) (by simp[results,results66]) rfl ?_;exact⟨r.out.1,[],[],false,_,0,_,0,rfl,r.out.2.1,r.out.2.2,vo,vo,v6 ⟨bx.out,rfl⟩⟩
 |true=>
  have J:=gK ac;have dc:=kO (bf.out w t7) J;have ds:=J.1.2.1;have eW:=dc.le;have bx:Hid (flT K fr=flR (pgD K) (nPg K+1) fr [] []):=by show flT K fr= _;unfold flT;rw[ac]
  clear ac;have bm:=qn d K ej (bf.out ej r.out.1) J;unfold av at bm;go_wp2_with (refine B5 rfl 35 _ rfl w.1.size rfl 35 #[.slice d.sa K.n d.sc,.slice d.pa K.m d.pc] (0,0) _ bS underlying35 rfl c3 ?_);refine bm.mono ?_;rintro e aA ⟨q,C,rfl,cz,cV⟩;have c4:=qN (bf.out w t7) J cV;have cc:∃cs,aA.heap[q]?=some (.cells cs 56 (0,0)):=by
   rcases cV.2 with⟨ag,_⟩|⟨fm,et,ev,ag,_,dI,_⟩
   ·cases ag
   ·cases ag;exact⟨_,dI⟩
  have b6:=bAl aA (.cells #[.slice (some ⟨q,0,none⟩) K.n C] 136);have d5:=aq aA 136 #[.slice (some ⟨q,0,none⟩) K.n C];have u7:=cz.trans (b6.mono cz.size);have ef:=c4.below b6;have ce:∃cs,(aA.alloc (.cells #[.slice (some ⟨q,0,none⟩) K.n C] 136)).heap[q]?=some (.cells cs 56 (0,0)):=by obtain⟨cs,a9⟩:=cc;exact⟨cs,(b6.block q c4.1).trans a9⟩
  have L:=uv u7 (vJ ef (vJ ce d5));clear bm cz cV c4 b6 cc d5 u7 ef ce;go_upto_region 6 with fail
  change Code.wp _ _ _ _ (aA.alloc (.cells #[.slice (some ⟨q,0,none⟩) K.n C] 136));generalize aA.alloc (.cells #[.slice (some ⟨q,0,none⟩) K.n C] 136)=em at*;generalize aA.1.size=ba at*;have ch:=bS.below L.out.1;have ck:=cj.below L.out.1;have br:=kQ d K em ds;unfold av at br;have d4:=L.out.1.size;clear bS cj;go_wp2_with (refine B5 rfl 35 _ rfl w.1.size rfl 35 #[.slice d.sa K.n d.sc,.slice d.pa K.m d.pc] (0,0) _ ch underlying35 rfl c3 ?_);refine br.mono ?_;rintro e B ⟨rfl,U⟩;have ek:=jG (nPg K) uA B;have d9:=bAl B (.cells (madeCells #[.bool false] (nPg K)) 4);have d7:=jH w.1.size (nPg K) uA B (by have:=U.size;have:=r.out.1.size;omega);have H:=U.trans (d9.mono U.size);have u9:=L.out.1.trans (H.mono d4);have b9:Ftq w d K q C ba B.1.size [] [] (some ⟨w.1.size+1+1,0,none⟩) (some ⟨w.1.size+1+1+1,0,none⟩) 0 0 (B.alloc (.cells (madeCells #[.bool false] (nPg K)) 4)):=
   ⟨r.out.1.trans (u9.mono r.out.1.size),r.out.2.1.below u9,r.out.2.2.below u9,d7,L.out.2.1.below H,by obtain⟨cs,a9⟩:=L.out.2.2.1;exact⟨cs,(H.block q L.out.2.1.1).trans a9⟩,Blk.below L.out.2.2.2 H,fun g ag ex=>by simp at ag ex;omega⟩
  have es:(B.alloc (.cells (madeCells #[.bool false] (nPg K)) 4)).cell? ⟨w.1.size+1,3,none⟩=some (.int .i64 fr):=(ck.below H).cell 3;have da:Hid (FI w d K q C ba B.1.size fr [] [] (some ⟨w.1.size+1+1,0,none⟩) (some ⟨w.1.size+1+1+1,0,none⟩) 0 0 0 fr (B.alloc (.cells (madeCells #[.bool false] (nPg K)) 4))):=⟨b9,⟨y6,vo⟩,vo,rfl,rfl⟩;clear br U d9 d7 H u9 b9 ch ck L r;go_upto_region 9 with fail
  change Code.wp _ _ _ _ (B.alloc (.cells (madeCells #[.bool false] (nPg K)) 4));generalize B.alloc (.cells (madeCells #[.bool false] (nPg K)) 4)=fl at*;generalize B.1.size=sb at*;clear es ek;go_loopw [7,8,11,12] (fun c1 c2 b2 ea wr=> ∃(p own:List Int)(a a4:Option Addr)(c a5:Nat)(N id:Int),c1= .slice a p.length c/\c2= .slice a4 own.length a5/\b2= .int .i64 N/\ea= .int .i64 id/\FI w d K q C ba sb fr p own a a4 c a5 N id wr) (fun _ c2 _ _ _=>nPg K+1-li c2)
  case atStart=>exact⟨[],[],_,_,0,0,0,fr,rfl,rfl,rfl,rfl,da.out⟩
  case round=>
   obtain⟨p,own,a,a4,c,a5,N,id,rfl,rfl,rfl,rfl,ak⟩:=hrel;obtain⟨c5,bR⟩:=aa wr;subst bR;have e9:=ak.ok.le;have e3:=ak.lf;have Q:Hid _:=ak;have dk:c5.cell? ⟨ba,0,none⟩=some (.slice (some ⟨q,0,none⟩) K.n C):=ak.s.k.cell 0;have cr:=qM d K id q C c5 (bf.out c5 ak.s.b) J ak.s.v;clear ak;by_cases bv:id=0
   ·subst bv;have cP:Hid (flT K fr=some (p,own)):=by show flT K fr=some (p,own);rw[bx.out,Q.out.eq,xf]
    clear cr dk;go_wp2_with fail;refine B3 (v:= .tuple #[.slice a p.length c,.slice a4 own.length a5,.bool true]) (by simp[results,results66]) rfl ?_;exact⟨Q.out.s.b,p,own,true,a,c,a4,a5,rfl,Q.out.s.f,Q.out.s.o,uA,uA,v7 ⟨cP.out,rfl⟩⟩
   have bF:Hid (flT K fr=flR (pgD K) (nPg K-own.length+1) id own p):=by
    show flT K fr=flR (pgD K) (nPg K-own.length+1) id own p;rw[bx.out,Q.out.eq];congr 1;omega
   have eV:(id==0)=false:=by simp[bv]
   go_wp2_with fail;refine cr.mono ?_;rintro e w1 ⟨ab,a6,rfl,dd,cn⟩;have aB:=Q.out.s.below dd;have bs1:=yg cn (ml (bf.out w t7) id);have dD:=mn J id;have n:Hid (eZ (pgD K) own id=false->FlP K fr w (.returned (.tuple #[.slice (some ⟨w1.1.size,0,none⟩) 0 0,.slice (some ⟨w1.1.size+1,0,none⟩) 0 0,.bool false])) ((w1.alloc (.cells #[] 3)).alloc (.cells #[] 3))):=fun eN=>yi aB.b (by rw[bF.out,xg bv eN]);have a1:=aB.m;have G:=uv aB bs1;have y:Hid (eZ (pgD K) own id=true↔vB K id=true/\vK K id=4/\id∉own/\4<=(vL K id).length/\(vL K id).length%4=0):=kY;generalize dX:vL K id=l at bs1 dD y G ⊢;generalize dW:vK K id=kd at y ⊢;have db:Hid (vL K id=l):=dX;clear cr dk dd cn aB bs1 dX dW;cases A:vB K id with
   |false=>
    have m:Hid _:=n.out (by rw[<-xA,y.out,A];intro h;exact absurd h.1 uB);clear a1 A;go_wp2_with fail;refine B3 (v:= .tuple #[.slice (some ⟨w1.1.size,0,none⟩) 0 0,.slice (some ⟨w1.1.size+1,0,none⟩) 0 0,.bool false]) (by simp[results,results66]) rfl m.out
   |true=>
   have e4:=dc.ok id (show vB K id=true from A);by_cases bC:kd=4
   rotate_left
   ·have eK:(kd==4)=false:=by simp[bC]
    have m:Hid _:=n.out (by rw[<-xA,y.out];intro h;exact bC h.2.1);clear a1 A;go_wp2_with fail;refine B3 (v:= .tuple #[.slice (some ⟨w1.1.size,0,none⟩) 0 0,.slice (some ⟨w1.1.size+1,0,none⟩) 0 0,.bool false]) (by simp[results,results66]) rfl m.out
   subst bC;obtain⟨i,rfl⟩:∃i:Nat,id=(i:Int):=⟨id.toNat,uA⟩;have bB:i<nPg K:=uA;obtain⟨_,ag,fa,eR,⟨cL,aT⟩,a9⟩:=a1.at_ uA;cases ag;have c9:Hid (w1.heap[sb]?=some (.cells cL 4 (0,0))):=aT;clear aT;have cD:=(a9 i bB).trans (C1 some (go own (nPg K) i bB));clear a9 a1;cases z:own.contains (i:Int)with
   |true=>
    rw[z]at cD;have m:Hid _:=n.out (by rw[<-xA,y.out];intro h;exact h.2.2.1 (xr.1 z));clear z A;go_wp2_with fail;refine B3 (v:= .tuple #[.slice (some ⟨w1.1.size,0,none⟩) 0 0,.slice (some ⟨w1.1.size+1,0,none⟩) 0 0,.bool false]) (by simp[results,results66]) rfl m.out
   |false=>
   rw[z]at cD;have cb:(i:Int)∉own:=fun h=>by rw[xr.2 h]at z;cases z
   by_cases fn:l.length<4
   ·have m:Hid _:=n.out (by rw[<-xA,y.out];intro h;omega);have dp:(l.length:Int)<4:=uA;clear z A;go_wp2_with fail;refine B3 (v:= .tuple #[.slice (some ⟨w1.1.size,0,none⟩) 0 0,.slice (some ⟨w1.1.size+1,0,none⟩) 0 0,.bool false]) (by simp[results,results66]) rfl m.out
   have dp:¬(l.length:Int)<4:=uA;by_cases b4:l.length%4=0
   rotate_left
   ·have m:Hid _:=n.out (by rw[<-xA,y.out];intro h;omega);have dq:((l.length:Int)%4 !=0)=true:=by simp;omega
    have r:Hid _:=b4;clear b4;clear z A;go_wp2_with fail;refine B3 (v:= .tuple #[.slice (some ⟨w1.1.size,0,none⟩) 0 0,.slice (some ⟨w1.1.size+1,0,none⟩) 0 0,.bool false]) (by simp[results,results66]) rfl m.out
   have dq:((l.length:Int)%4 !=0)=false:=by simp;omega
   have r:Hid (l.length%4=0):=b4;have bz:=G.out.1.m.free i;clear z b4;go_upto_region 13 with fail
   go_upto_region 14 with fail
   have cT:=ax w1 sb i (.bool true);have bT:∀t,4≠t->KeepT t w1 (w1.setCell ⟨sb,i,none⟩ (.bool true)):=fun t eU=>cx cT c9.out eU;have bY:=G.out.1.o.keep (bT _ uB);have d3:w.1.size<=(w1.setCell ⟨sb,i,none⟩ (.bool true)).1.size:=by have:=cT.size;omega
   have cg:(w1.setCell ⟨sb,i,none⟩ (.bool true)).1.size=w1.1.size:=by simp
   generalize ca:w1.setCell ⟨sb,i,none⟩ (.bool true)=cv at*;have bl:Hid (w1.setCell ⟨sb,i,none⟩ (.bool true)=cv/\cv.1.size=w1.1.size):=⟨ca,cg⟩;clear cg ca;go_upto_region 15 with(first|(at_builtin;refine iF rfl _ _ co rfl w.1.size a4 own.length a5 (on own) rfl bY (.int .i64 (i:Nat)) rfl rfl uA uA d3 ?_;intro cM cB fo d8 en bu bs)|fail)
   rw[bl.out.2]at bs;have b7:=G.out.1.appO bB d8 (by rw[bl.out.1];exact bu) bs;have an:=bAl cv (.cells #[.int .i64 (i:Nat)] 3);have I:=G.out.2.keep (((bT _ uB).trans (aV an)).trans (bD (bQ bY an) bu uB));obtain⟨cA,bX,rfl,_,_⟩:=I.bs.at_ (by have:=I.bs.len_eq;omega);have e1:=I.bs.le;have dE:=I.bs.le';unfold maxLen at dE;have am:=Q.out.ok.snoc uA uA cb;have d1:=am.le;rw[wb,yb]at d1;have bk:Hid (eZ (pgD K) own (i:Int)=true):=y.out.2 ⟨A,True.intro,cb,uA,r.out⟩;have cp:=uv b7 (vJ I am);clear cT bT bY d8 en bu bs b7 an I am G n y cD A bz bl;go_upto_region 16 with fail
   go_loopw [7,11,16] (fun c1 b2 eb wr=> ∃(j k:Nat)(f:List Int)(S:Option Addr)(V:Nat)(o:Int),c1= .slice S f.length V/\b2= .int .i64 o/\eb= .int .i64 (j:Nat)/\j=4*k/\1<=k/\j<=l.length/\Ftq w d K q C ba sb f (own++[(i:Int)]) S (some ⟨cM,0,none⟩) V cB wr/\BsT wr (some ⟨cA,bX,none⟩) l.length a6 l/\f.length+1=p.length+k/\o=f.getLastD 0/\frA (cG l 1) p=frA (cG l k) f) (fun _ _ s _=>l.length-(intOf s).toNat)
   case atStart=>exact⟨4,1,p,a,c,N,rfl,rfl,rfl,rfl,uA,uA,cp.out.1,cp.out.2.1,rfl,Q.out.la,rfl⟩
   case round=>
    obtain⟨j,k,f,S,V,o,rfl,rfl,rfl,b5,e6,e5,a8,a7,bA,a0,aX⟩:=hrel;obtain⟨wI,bR⟩:=aa wr;subst bR;have cf:=a8.b.size;have F:=uv a8 (vJ a7 (vJ a0 aX));have cq:Hid (j=4*k):=b5;have b8:Hid _:=bA;by_cases e7:j<l.length
    ·have eL:(j:Int)< (l.length:Int):=uA;have dr:=r.out;have dP:j+4<=l.length:=uA;have ad:=lQ (some ⟨cA,bX+j,none⟩) 4 (a6-j) ((l.drop j).take 4) wI (a7.bs.piece j 4 dP (a6-j) uA (by unfold maxLen;omega)) uA;rw[show low ((l.drop j).take 4)=dN l k by rw[b5];rfl]at ad;have M:Hid (cG l k=dN l k::cG l (k+1)):=xe uA;have e2:¬a6=j:=uA;have R:=a8.f;have cR:f.length<=65536:=uA;clear b5 a8 a7 a0 aX dr bA;generalize dN l k=x at*;go_upto_region 19 with fail
     refine ad.mono ?_;rintro e u ⟨rfl,bP⟩;obtain rfl:=bP.symm;clear bP ad;go_upto_region 19 with fail
     rcases Nat.eq_zero_or_pos f.length with hf0|hf0
     ·have dF:=y3 hf0;subst dF;have R:Own1 3 w.1.size wI S 0 V (on []):=R;have bg:Hid (frA (cG l 1) p=frA (cG l (k+1)) ([]++[x])):=by
       show frA (cG l 1) p=frA (cG l (k+1)) ([]++[x]);rw[F.out.2.2.2,M.out,frA,CH (fun h=>h.1 rfl)]
      clear hf0 cR;go_wp2_with (at_builtin;refine iF rfl _ _ co rfl w.1.size S 0 V (on []) rfl R (.int .i64 x) rfl rfl uA uA cf ?_);intro eB eq B bW U E T;have bc:=F.out.1.appF bW E T;have ap:=bAl wI (.cells #[.int .i64 x] 3);have bb:=F.out.2.1.keep ((aV ap).trans (bD (bQ R ap) E uB));have D:=uv bc bb;clear bW U E T ap bc bb R;go_wp2_with fail;go_roundw
      case rel=>have dS:=cq.out;have bz:=b8.out;exact⟨j+4,k+1,[]++[x],_,_,x,by rw[wb];rfl,rfl,by go_num,uA,uA,uA,D.out.1,D.out.2,by rw[wb,yb];omega,vo,bg.out⟩
      case measure=>simp[intOf];omega
     ·have eC:(0:Int)< (f.length:Int):=uA;have bE:f≠[]:=fun e=>by rw[e]at hf0;exact absurd hf0 (Nat.lt_irrefl _)
      by_cases d2:x<=o
      ·have m:Hid _:=yi (K:=K) (fr:=fr) F.out.1.b (by
        have eM:f≠[]/\x<=f.getLastD 0:=⟨bE,by rw[<-F.out.2.2.1];exact d2⟩;rw[bF.out,oH bv bk.out,show(pgD K).bd (i:Int)=l from db.out,F.out.2.2.2,M.out,frA,B4 eM];rfl)
       clear hf0 bE;go_wp2_with fail;refine B3 (v:= .tuple #[.slice (some ⟨wI.1.size,0,none⟩) 0 0,.slice (some ⟨wI.1.size+1,0,none⟩) 0 0,.bool false]) (by simp[results,results66]) rfl m.out
      ·have bg:Hid (frA (cG l 1) p=frA (cG l (k+1)) (f++[x])):=by
        show frA (cG l 1) p=frA (cG l (k+1)) (f++[x]);rw[F.out.2.2.2,M.out,frA,CH (fun h=>by have:=h.2;rw[<-F.out.2.2.1]at this;omega)]
       clear hf0 bE;go_wp2_with (at_builtin;refine iF rfl _ _ co rfl w.1.size S f.length V (on f) rfl R (.int .i64 x) rfl rfl uA uA cf ?_);intro eB eq B bW U E T;have bc:=F.out.1.appF bW E T;have ap:=bAl wI (.cells #[.int .i64 x] 3);have bb:=F.out.2.1.keep ((aV ap).trans (bD (bQ R ap) E uB));have D:=uv bc bb;clear bW U E T ap bc bb R;go_wp2_with fail;go_roundw
       case rel=>have dS:=cq.out;have bz:=b8.out;exact⟨j+4,k+1,f++[x],_,_,x,by rw[wb];rfl,rfl,by go_num,uA,uA,uA,D.out.1,D.out.2,by rw[wb,yb];omega,vo,bg.out⟩
       case measure=>simp[intOf];omega
    ·have dV:j=l.length:=uA;have e8:¬(j:Int)< (l.length:Int):=uA;have ad:=lQ (some ⟨cA,bX,none⟩) 4 a6 (l.take 4) wI (by have:=a7.bs.piece 0 4 uA a6 uA a7.bs.le';simpa using this) uA;rw[show low (l.take 4)=dN l 0 by simp[dN]]at ad;have D:Hid (FI w d K q C ba sb fr f (own++[(i:Int)]) S (some ⟨cM,0,none⟩) V cB o (dN l 0) wI):=by
      refine⟨a8,cp.out.2.2,by rw[wb,yb];omega,a0,?_⟩;rw[<-bx.out,bF.out,oH bv bk.out,show(pgD K).bd (i:Int)=l from db.out,aX,wZ uA,frA];show flR (pgD K) (nPg K-own.length) _ _ _= _;congr 1;rw[wb,yb];omega
     clear dV b5 a8 a7 a0 aX cq bA;go_wp2_with fail;refine ad.mono ?_;rintro e u ⟨rfl,bP⟩;obtain rfl:=bP.symm;clear bP ad;go_wp2_with fail;go_roundw
     case rel=>exact⟨f,own++[(i:Int)],S,some ⟨cM,0,none⟩,V,cB,o,dN l 0,rfl,by rw[wb];rfl,rfl,rfl,D.out⟩
     case measure=>simp only[li];omega
noncomputable def iG(K:DK)(root fr:Int)(M:Nat):Bool:=match flT K fr with|some p=>tpB K root&&mrk M (tpL K root) p.1 p.2|none=>false
noncomputable def whS(K:DK)(gen root used fr:Int):Bool:=aR K&&bG gen root used fr&&decide (used<=((nPg K:Nat):Int))&&iG K root fr used.toNat
theorem yk(d K p b i fr w)(h:RDisk w d K):
 Calls prog 28 #[av d K,.agg (al p b i fr).toArray] w fun e w'=>e= .returned (.bool (whS K p b i fr))/\Below w.1.size w w':=by
 obtain⟨P,J⟩:=aa (w.alloc (.cells #[.slice d.sa K.n d.sc,.slice d.pa K.m d.pc] 35));obtain⟨v,W⟩:=aa (P.alloc (.cells (al p b i fr).toArray 36));have b0:Below w.1.size w P:=by rw[J];exact bAl _ _
 have b1:Below P.1.size P v:=by rw[W];exact bAl _ _
 have cv:P.1.size=w.1.size+1:=by rw[J];simp
 have a3:=(by rw[J];exact aq w _ _:Blk P 35 w.1.size [.slice d.sa K.n d.sc,.slice d.pa K.m d.pc]).below b1;have ac:Blk v 36 (w.1.size+1) (al p b i fr):=by rw[W,<-cv];exact aq P _ _
 have O:=b0.trans (b1.mono b0.size);have ck:(prog.info? 35).map (·.size)=some (#[Value.slice d.sa K.n d.sc,Value.slice d.pa K.m d.pc]:Array Value).size:=gD;have cS:(prog.info? 36).map (·.size)=some (al p b i fr).toArray.size:=bj;have bE:Hid (∀u,Below v.1.size v u->RDisk u d K):=fun u t=>h.below (O.trans (t.mono O.size));have B:Hid (∀u,Below v.1.size v u->Below w.1.size w u):=fun u t=>O.trans (t.mono O.size);have S:Hid (∀u,Below v.1.size v u->u.cell? ⟨w.1.size,0,none⟩=some (.slice d.sa K.n d.sc)/\u.cell? ⟨w.1.size,1,none⟩=some (.slice d.pa K.m d.pc)/\u.cell? ⟨w.1.size+1,0,none⟩=some (.int .i64 p)/\u.cell? ⟨w.1.size+1,1,none⟩=some (.int .i64 b)/\u.cell? ⟨w.1.size+1,2,none⟩=some (.int .i64 i)/\u.cell? ⟨w.1.size+1,3,none⟩=some (.int .i64 fr)):=fun u t=>⟨Blk.cell (a3.below t) 0,Blk.cell (a3.below t) 1,Blk.cell (ac.below t) 0,Blk.cell (ac.below t) 1,Blk.cell (ac.below t) 2,Blk.cell (ac.below t) 3⟩;have D:=uv a3 ac;have an:=bDr v;have cs:=S.out v.drew an;have bx:=jt d K v.drew (bE.out _ an);unfold av at bx ⊢;clear b0 b1 cv O a3 ac;generalize aB:whS K p b i fr=j at*;have E:Hid _:=aB;clear aB;go_enter func28,ntmps28;go_upto_region 1 with fail
 change Code.wp _ _ _ _ ((w.alloc (.cells #[.slice d.sa K.n d.sc,.slice d.pa K.m d.pc] 35)).alloc (.cells (al p b i fr).toArray 36));rw[<-J,<-W];clear J W;refine az (fun u=>u.cell? ⟨w.1.size,0,none⟩=some (.slice d.sa K.n d.sc)/\u.cell? ⟨w.1.size,1,none⟩=some (.slice d.pa K.m d.pc)/\u.cell? ⟨w.1.size+1,0,none⟩=some (.int .i64 p)/\u.cell? ⟨w.1.size+1,1,none⟩=some (.int .i64 b)/\u.cell? ⟨w.1.size+1,2,none⟩=some (.int .i64 i)/\u.cell? ⟨w.1.size+1,3,none⟩=some (.int .i64 fr)) (fun _=>false) vk ?_;refine ai 0 cs ?_;refine ah 1 fun o l=> ?_;go_wp2_with fail;refine bx.mono ?_;rintro e cn ⟨rfl,b6⟩;have ag:=an.trans (b6.mono an.size);have f:=S.out cn ag;clear bx;go_wp2_with fail;refine ao l ?_;clear l o;have bz:=mU p b i fr cn;cases C:aR K with
 |false=>
  have q:Hid (j=false):=by show j=false;rw[<-E.out];unfold whS;rw[C];rfl
  clear bz;refine ai 2 f ?_;refine ai 3 f ?_;refine aE 4 f ?_;refine aE 5 f ?_;refine aE 6 f ?_;refine ai 7 f ?_;refine ai 8 f ?_;refine aE 9 f ?_;refine aE 10 f ?_;refine aE 11 f ?_;refine aE 12 f ?_;refine aE 13 f ?_;refine ai 14 f ?_;refine bi ?_;go_wp2_with fail;go_ret;exact⟨by rw[q.out];rfl,B.out _ ag⟩
 |true=>
 have ce:=gK C;refine ai 2 f ?_;refine ai 3 f ?_;refine ai 4 f ?_;refine ah 5 fun o l=> ?_;go_wp2_with fail;refine bz.mono ?_;rintro e cp ⟨rfl,b7⟩;have ak:=ag.trans (b7.mono ag.size);have g:=S.out cp ak;clear bz;go_wp2_with fail;refine ao l ?_;clear l o;cases z:bG p b i fr with
 |false=>
  have q:Hid (j=false):=by show j=false;rw[<-E.out];unfold whS;rw[C,z];rfl
  refine ai 6 g ?_;refine ai 7 g ?_;refine ai 8 g ?_;refine aE 9 g ?_;refine aE 10 g ?_;refine aE 11 g ?_;refine aE 12 g ?_;refine aE 13 g ?_;refine ai 14 g ?_;refine bi ?_;go_wp2_with fail;go_ret;exact⟨by rw[q.out];rfl,B.out _ ak⟩
 |true=>
 have cc:=ce.1.2.1;have bA:=kQ d K cp cc;unfold av at bA;refine ai 6 g ?_;refine ai 7 g ?_;refine ai 8 g ?_;refine ai 9 g ?_;refine ai 10 g ?_;refine ai 11 g ?_;refine ah 12 fun o l=> ?_;go_wp2_with fail;refine bA.mono ?_;rintro e b2 ⟨rfl,b8⟩;have Z:=ak.trans (b8.mono ak.size);have r:=S.out b2 Z;clear bA;go_wp2_with fail;refine ao l ?_;clear l o;by_cases Y:i<=((nPg K:Nat):Int)
 rotate_left
 ·have aS:((nPg K:Nat):Int)<i:=uA;have q:Hid (j=false):=by show j=false;rw[<-E.out];unfold whS;rw[C,z,CP Y];rfl
  clear Y;refine ai 13 r ?_;refine ai 14 r ?_;refine bi ?_;go_wp2_with fail;go_ret;exact⟨by rw[q.out];rfl,B.out _ Z⟩
 have aS:¬((nPg K:Nat):Int)<i:=uA;refine ai 13 r ?_;refine ai 14 r ?_;refine bi ?_;go_upto_region 3 with fail
 have bb:iK p i=true/\nmB i b=true/\nmB i fr=true:=by
  unfold bG at z;rw[wX,wX]at z;exact z
 obtain⟨c3,c4,u1,u2⟩:=C3 bb.1;have V:Hid (j=iG K b fr i.toNat):=by
  show j= _;rw[<-E.out];unfold whS;rw[C,z,CR Y];rfl
 obtain⟨M,rfl⟩:∃M:Nat,i=(M:Int):=⟨i.toNat,uA⟩;rw[Int.toNat_natCast]at V;have bf:=D.out.1.below Z;obtain⟨_,_,_,cD,_,_⟩:=r;have bS:=wY d K b b2 (bE.out b2 Z);have bB:Hid _:=Z;clear cs f g ag ak an b6 b7 b8 bb z C Y aS Z;unfold av at bS;go_wp2_with (refine B5 rfl 35 _ rfl w.1.size rfl 35 #[.slice d.sa K.n d.sc,.slice d.pa K.m d.pc] (0,0) _ bf underlying35 rfl ck ?_);refine bS.mono ?_;rintro e cq ⟨b4,cb,rfl,b9,br⟩;have am:=bB.out.trans (b9.mono bB.out.size);have bg:=D.out.1.below am;have bk:=D.out.2.below am;have bC:=yj d K p b (M:Nat) fr cq (bE.out cq am);unfold av at bC;have aX:=uv am br;have cW:(tpL K b).length<=1024:=by
  unfold tpL;cases ldT K b with
  |none=>simp
  |some x=>exact wg (oe _ _) (by unfold nPg;omega)
 generalize bd:tpL K b=A at*;generalize bc:tpB K b=cl at*;have ad:Hid (tpL K b=A/\tpB K b=cl):=⟨bd,bc⟩;clear bS b9 br am bf cD bd bc;go_wp2_with (first|(refine B5 rfl 35 _ rfl w.1.size rfl 35 #[.slice d.sa K.n d.sc,.slice d.pa K.m d.pc] (0,0) _ bg underlying35 rfl ck ?_)|(refine B5 rfl 36 _ rfl (w.1.size+1) rfl 36 (al p b (M:Nat) fr).toArray (0,0) _ bk underlying36 rfl cS ?_));refine bC.mono ?_;rintro e G ⟨bT,I,own,c0,a,c,cA,cB,rfl,bm,bn,cT,cV,ba⟩;have bW:=aX.out.1.trans (bT.mono aX.out.1.size);have bs:=aX.out.2.below bT;have ca:G.cell? ⟨w.1.size+1,2,none⟩=some (.int .i64 (M:Nat)):=(D.out.2.below bW).cell 2;have F:=uv bW (vJ bs (vJ bm bn));clear bC bT bm bn bW bs bg bk aX bB;cases cl with
 |false=>
  have q:Hid (j=false):=by
   show j=false;rw[V.out];unfold iG;rw[ad.out.2];cases flT K fr<;>rfl
  clear ba;go_wp2_with fail;go_ret;exact⟨by rw[q.out];rfl,B.out _ F.out.1⟩
 |true=>
 rcases ba with⟨L,rfl⟩|⟨L,rfl⟩
 rotate_left
 ·have q:Hid (j=false):=by show j=false;rw[V.out];unfold iG;rw[L]
  clear L;go_wp2_with fail;go_ret;exact⟨by rw[q.out];rfl,B.out _ F.out.1⟩
 have a1:Hid (j=mrk M A I own):=by show j= _;rw[V.out];unfold iG;rw[L,ad.out.1,ad.out.2];rfl
 have cz:=jG M uA G;have aT:=bAl G (.cells (madeCells #[.bool false] M) 4);have ch:=jH G.1.size M uA G t6;have ab:=F.out.1.trans (aT.mono F.out.1.size);have a6:(G.alloc (.cells (madeCells #[.bool false] M) 4)).cell? ⟨w.1.size+1,2,none⟩=some (.int .i64 (M:Nat)):=(D.out.2.below ab).cell 2;have cX:=F.out.1.size;have H:=uv ab (vJ (F.out.2.1.below aT) (vJ (F.out.2.2.1.below aT) (vJ (F.out.2.2.2.below aT) ch)));clear aT ch ab L F;go_upto_region 8 with fail
 change Code.wp _ _ _ _ (G.alloc (.cells (madeCells #[.bool false] M) 4));generalize G.alloc (.cells (madeCells #[.bool false] M) 4)=ae at*;generalize cf:G.1.size=mb at*;clear ca cz cf;have y:=bDr ae;have ab:=H.out.1.trans (y.mono H.out.1.size);have a7:ae.drew.cell? ⟨w.1.size+1,2,none⟩=some (.int .i64 (M:Nat)):=a6;obtain⟨_,cL,a9⟩:=(H.out.2.2.2.2.below y).blk;have a4:Hid (∀u,OnlyB mb ae.drew u->KeepT 3 ae.drew u):=fun u t=>cx t a9 uB;have bF:=qY _ _ mb M [] A b4 cb ae.drew uA uA (H.out.2.2.2.2.below y) (H.out.2.1.below y);generalize N:mOk M A []=cM at bF;have a5:=uv (H.out.2.2.1.below y) (H.out.2.2.2.1.below y);clear y a9 a6 H;refine az (fun u=>u.cell? ⟨w.1.size+1,2,none⟩=some (.int .i64 (M:Nat))) (fun _=>false) vk ?_;refine ai 0 a7 ?_;refine ai 1 a7 ?_;refine ah 2 fun o l=> ?_;go_wp2_with fail;refine bF.mono ?_;rintro e cr ⟨rfl,bY,aA⟩;have a0:=ab.trans (bY.below uA ab.size);have m:cr.cell? ⟨w.1.size+1,2,none⟩=some (.int .i64 (M:Nat)):=(D.out.2.below a0).cell 2;clear bF;go_wp2_with fail;refine ao l ?_;clear l o;cases cM with
 |false=>
  have q:Hid (j=false):=by show j=false;rw[a1.out];unfold mrk;rw[N];rfl
  clear aA;refine ai 3 m ?_;refine aE 4 m ?_;refine aE 5 m ?_;refine aE 6 m ?_;refine ai 7 m ?_;refine ai 8 m ?_;refine aE 9 m ?_;refine aE 10 m ?_;refine aE 11 m ?_;refine ai 12 m ?_;refine ai 13 m ?_;refine aE 14 m ?_;refine aE 15 m ?_;refine aE 16 m ?_;refine aE 17 m ?_;refine aE 18 m ?_;refine aE 19 m ?_;refine aE 20 m ?_;refine ai 21 m ?_;refine ah 22 fun o l=> ?_;go_wp2_with fail;refine ao l ?_;clear l o;refine bi ?_;go_wp2_with fail;go_ret;exact⟨by rw[q.out];rfl,B.out _ a0⟩
 |true=>
 have bP:=qY _ _ mb M (A.reverse++[]) I a c cr uA uA (aA rfl) (a5.out.1.keep (a4.out _ bY));generalize X:mOk M I (A.reverse++[])=cP at bP;clear aA;refine ai 3 m ?_;refine ai 4 m ?_;refine ai 5 m ?_;refine ah 6 fun o l=> ?_;go_wp2_with fail;refine bP.mono ?_;rintro e bu ⟨rfl,bl,Q⟩;have T:=a0.trans (bl.below uA a0.size);have k:bu.cell? ⟨w.1.size+1,2,none⟩=some (.int .i64 (M:Nat)):=(D.out.2.below T).cell 2;clear bP;go_wp2_with fail;refine ao l ?_;clear l o;have bX:=bY.trans bl;cases cP with
 |false=>
  have q:Hid (j=false):=by show j=false;rw[a1.out];unfold mrk;rw[N,X];rfl
  clear Q;refine ai 7 k ?_;refine ai 8 k ?_;refine aE 9 k ?_;refine aE 10 k ?_;refine aE 11 k ?_;refine ai 12 k ?_;refine ai 13 k ?_;refine aE 14 k ?_;refine aE 15 k ?_;refine aE 16 k ?_;refine aE 17 k ?_;refine aE 18 k ?_;refine aE 19 k ?_;refine aE 20 k ?_;refine ai 21 k ?_;refine ah 22 fun o l=> ?_;go_wp2_with fail;refine ao l ?_;clear l o;refine bi ?_;go_wp2_with fail;go_ret;exact⟨by rw[q.out];rfl,B.out _ T⟩
 |true=>
 have bR:=qY _ _ mb M (I.reverse++(A.reverse++[])) own cA cB bu uA uA (Q rfl) (a5.out.2.keep (a4.out _ bX));generalize ap:mOk M own (I.reverse++(A.reverse++[]))=cR at bR;clear Q;refine ai 7 k ?_;refine ai 8 k ?_;refine ai 9 k ?_;refine ai 10 k ?_;refine ah 11 fun o l=> ?_;go_wp2_with fail;refine bR.mono ?_;rintro e bv ⟨rfl,cj,R⟩;have U:=T.trans (cj.below uA T.size);have n:bv.cell? ⟨w.1.size+1,2,none⟩=some (.int .i64 (M:Nat)):=(D.out.2.below U).cell 2;clear bR;go_wp2_with fail;refine ao l ?_;clear l o;cases cR with
 |false=>
  have q:Hid (j=false):=by show j=false;rw[a1.out];unfold mrk;rw[N,X,ap];rfl
  clear R;refine ai 12 n ?_;refine ai 13 n ?_;refine aE 14 n ?_;refine aE 15 n ?_;refine aE 16 n ?_;refine aE 17 n ?_;refine aE 18 n ?_;refine aE 19 n ?_;refine aE 20 n ?_;refine ai 21 n ?_;refine ah 22 fun o l=> ?_;go_wp2_with fail;refine ao l ?_;clear l o;refine bi ?_;go_wp2_with fail;go_ret;exact⟨by rw[q.out];rfl,B.out _ U⟩
 |true=>
 have b3:=og _ mb M (own.reverse++(I.reverse++(A.reverse++[]))) bv uA (R rfl);have a8:Hid (j=((mkd (own.reverse++(I.reverse++(A.reverse++[]))) M).length+2==M)):=by show j= _;rw[a1.out];unfold mrk;rw[N,X,ap];rfl
 generalize mkd (own.reverse++(I.reverse++(A.reverse++[]))) M=mk at*;clear R N X ap;refine ai 12 n ?_;refine ai 13 n ?_;refine ai 14 n ?_;refine ai 17 n ?_;refine ai 18 n ?_;refine ai 19 n ?_;refine ah 15 fun o l=> ?_;go_wp2_with fail;refine b3.mono ?_;rintro e cm ⟨c1,c2,rfl,b5,bZ⟩;have af:=U.trans (b5.mono U.size);have s:cm.cell? ⟨w.1.size+1,2,none⟩=some (.int .i64 (M:Nat)):=(D.out.2.below af).cell 2;clear b3 bZ;go_wp2_with fail;refine ao l ?_;clear l o;by_cases a2:mk.length+2=M
 ·have cg:(((mk.length:Nat):Int)==(M:Int)-2)=true:=by simp;omega
  have q:Hid (j=true):=by show j=true;rw[a8.out];simp[a2]
  clear a2;refine ai 16 s ?_;refine ai 20 s ?_;refine ai 21 s ?_;refine ah 22 fun o l=> ?_;go_wp2_with fail;refine ao l ?_;clear l o;refine bi ?_;go_wp2_with fail;go_ret;exact⟨by rw[q.out];rfl,B.out _ af⟩
 ·have cg:(((mk.length:Nat):Int)==(M:Int)-2)=false:=by simp;omega
  have q:Hid (j=false):=by show j=false;rw[a8.out];simp[a2]
  clear a2;refine ai 16 s ?_;refine ai 20 s ?_;refine ai 21 s ?_;refine ah 22 fun o l=> ?_;go_wp2_with fail;refine ao l ?_;clear l o;refine bi ?_;go_wp2_with fail;go_ret;exact⟨by rw[q.out];rfl,B.out _ af⟩
