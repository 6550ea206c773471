import Derived.Test.YtglbanolhhjjiaaGreatDoorFo34
namespace Go.Proofs.YtglbanolhhjjiaaGreatDoor
open Go.Proofs.Tryz
open Go.RowKit
set_option linter.unusedVariables false
set_option maxRecDepth 100000
set_option maxHeartbeats 32000000
def FlP(K:DK)(fr:Int)(w:World)(e:Ending)(w':World):Prop:=Below w.1.size w w'/\∃(fs own:List Int)(ok:Bool)(a:Option Addr)(c:Nat)(a2:Option Addr)(c2:Nat),e= .returned (.tuple #[.slice a fs.length c,.slice a2 own.length c2,.bool ok])/\Own1 3 w.1.size w' a fs.length c (on fs)/\Own1 3 w.1.size w' a2 own.length c2 (on own)/\fs.length<=65536/\own.length<=1024/\((flT K fr=some (fs,own)/\ok=true)\/(flT K fr=none/\ok=false))
theorem yi{K fr w u}(a:Below w.1.size w u)(e:flT K fr=none):FlP K fr w (.returned (.tuple #[.slice (some ⟨u.1.size,0,none⟩) 0 0,.slice (some ⟨u.1.size+1,0,none⟩) 0 0,.bool false])) ((u.alloc (.cells #[] 3)).alloc (.cells #[] 3)):=by
 have f:=bAl u (.cells #[] 3);have d:Below (u.alloc (.cells #[] 3)).1.size (u.alloc (.cells #[] 3)) ((u.alloc (.cells #[] 3)).alloc (.cells #[] 3)):=bAl _ _;have g:(u.alloc (.cells #[] 3)).1.size=u.1.size+1:=by simp
 have b:=a.size;have c:=fU 3 w.1.size (u.alloc (.cells #[] 3)) t7;rw[g]at c;exact⟨(a.trans (f.mono b)).trans (d.mono t7),[],[],false,_,0,_,0,rfl,(fU 3 w.1.size u b).below d,c,uB,uB,vJ ⟨e,rfl⟩⟩
structure FI(w:World)(d:DV)(K:DK)(gv cv vb sb:Nat)(fr:Int)(fs own:List Int)(a a2:Option Addr)(c c2:Nat)(last id:Int)(wr:World):Prop where
 s:FS w d K gv cv vb sb fs own a a2 c c2 wr
 ok:SeenOk own (nPg K)
 lf:fs.length<=64*own.length
 la:last=fs.getLastD 0
 eq:flR (pgD K) (nPg K+1) fr [] []=flR (pgD K) (nPg K+1-own.length) id own fs
theorem Ja(a n c):prog.built 136 [(0,.slice a n c)]=some #[.slice a n c]:=uA
theorem yj(d K aT P Q fr w)(h:RDisk w d K):
 Calls prog 66 #[av d K,.agg (al aT P Q fr).toArray] w (FlP K fr w):=by
 have bg:Hid (∀u,Below w.1.size w u->RDisk u d K):=fun u b=>h.below b;obtain⟨af,X⟩:=aa (w.alloc (.cells #[.slice d.sa K.n d.sc,.slice d.pa K.m d.pc] 35));obtain⟨a3,Y⟩:=aa (af.alloc (.cells (al aT P Q fr).toArray 36));obtain⟨a4,Z⟩:=aa (a3.alloc (.cells #[] 3));obtain⟨b4,ac⟩:=aa (a4.alloc (.cells #[] 3));have cX:Below w.1.size w af:=by rw[X];exact bAl _ _
 have c0:Below af.1.size af a3:=by rw[Y];exact bAl _ _
 have ap:Below a3.1.size a3 a4:=by rw[Z];exact bAl _ _
 have c1:Below a4.1.size a4 b4:=by rw[ac];exact bAl _ _
 have c7:af.1.size=w.1.size+1:=by rw[X];simp
 have c8:a3.1.size=w.1.size+1+1:=by rw[Y];simp[c7]
 have c9:a4.1.size=w.1.size+1+1+1:=by rw[Z];simp[c8]
 have b2:=ap.trans (c1.mono ap.size);have b1:=c0.trans (b2.mono c0.size);have cT:=(by rw[X];exact aq w _ _:Blk af 35 w.1.size [.slice d.sa K.n d.sc,.slice d.pa K.m d.pc]).below b1;have d6:=(by rw[Y,<-c7];exact aq af _ _:Blk a3 36 (w.1.size+1) (al aT P Q fr)).below b2;have cm:=(by rw[Z,<-c8];exact fU _ _ _ t7:Own1 3 w.1.size a4 (some ⟨w.1.size+1+1,0,none⟩) 0 0 []).below c1;have cn:Own1 3 w.1.size b4 (some ⟨w.1.size+1+1+1,0,none⟩) 0 0 []:=by rw[ac,<-c9];exact fU _ _ _ t7
 have b0:=cX.trans (b1.mono cX.size);have c4:(prog.info? 35).map (·.size)=some (#[Value.slice d.sa K.n d.sc,Value.slice d.pa K.m d.pc]:Array Value).size:=gD;have br:=jt d K b4 (h.below b0);have bf:=t6 b0 (vk cm cn);have fc:w.1.size+1+1+1<b4.1.size:=by rw[ac];simp[c9]
 unfold av at br ⊢;clear cX c0 ap c1 c7 c8 c9 b2 b1 cm cn b0;go_enter func66,ntmps66;go_upto_region 3 with fail
 change Code.wp _ _ _ _ ((((w.alloc (.cells #[.slice d.sa K.n d.sc,.slice d.pa K.m d.pc] 35)).alloc (.cells (al aT P Q fr).toArray 36)).alloc (.cells #[] 3)).alloc (.cells #[] 3));rw[<-X,<-Y,<-Z,<-ac];clear X Y Z ac;go_wp2_with (refine B3 rfl 35 _ rfl w.1.size rfl 35 #[.slice d.sa K.n d.sc,.slice d.pa K.m d.pc] (0,0) _ cT underlying35 rfl c4 ?_);refine br.mono ?_;rintro e ej ⟨rfl,ag⟩;have bT:=cT.below ag;have ck:=d6.below ag;have dp:=bf.out.1.trans (ag.mono bf.out.1.size);have y:=t6 dp (vk (bf.out.2.1.below ag) (bf.out.2.2.below ag));have fd:=ag.size;clear br cT d6 ag dp bf;cases ad:aR K with
 |false=>
  have bz:Hid (flT K fr=none):=by show flT K fr=none;unfold flT;rw[ad]
  clear ad;go_wp2_with fail;refine B1 (v:= .tuple #[.slice (some ⟨w.1.size+1+1,0,none⟩) 0 0,.slice (some ⟨w.1.size+1+1+1,0,none⟩) 0 0,.bool false]) (by simp[results,results66]) rfl ?_;exact⟨y.out.1,[],[],false,_,0,_,0,rfl,y.out.2.1,y.out.2.2,uB,uB,vJ ⟨bz.out,rfl⟩⟩
 |true=>
  have L:=gK ad;have dd:=kO (bg.out w t2) L;have dD:=L.1.2.1;have eW:=dd.le;have bz:Hid (flT K fr=flR (pgD K) (nPg K+1) fr [] []):=by show flT K fr= _;unfold flT;rw[ad]
  clear ad;have bn:=qn d K ej (bg.out ej y.out.1) L;unfold av at bn;go_wp2_with (refine B3 rfl 35 _ rfl w.1.size rfl 35 #[.slice d.sa K.n d.sc,.slice d.pa K.m d.pc] (0,0) _ bT underlying35 rfl c4 ?_);refine bn.mono ?_;rintro e aB ⟨r,D,rfl,cA,cW⟩;have c5:=qN (bg.out w t2) L cW;have ce:∃cs,aB.heap[r]?=some (.cells cs 56 (0,0)):=by
   rcases cW.2 with⟨ak,_⟩|⟨fm,et,ev,ak,_,dP,_⟩
   ·cases ak
   ·cases ak;exact⟨_,dP⟩
  have b7:=bAl aB (.cells #[.slice (some ⟨r,0,none⟩) K.n D] 136);have d5:=aq aB 136 #[.slice (some ⟨r,0,none⟩) K.n D];have u7:=cA.trans (b7.mono cA.size);have ef:=c5.below b7;have cf:∃cs,(aB.alloc (.cells #[.slice (some ⟨r,0,none⟩) K.n D] 136)).heap[r]?=some (.cells cs 56 (0,0)):=by obtain⟨cs,ba⟩:=ce;exact⟨cs,(b7.block r c5.1).trans ba⟩
  have M:=t6 u7 (vk ef (vk cf d5));clear bn cA cW c5 b7 ce d5 u7 ef cf;go_upto_region 6 with fail
  change Code.wp _ _ _ _ (aB.alloc (.cells #[.slice (some ⟨r,0,none⟩) K.n D] 136));generalize aB.alloc (.cells #[.slice (some ⟨r,0,none⟩) K.n D] 136)=em at*;generalize aB.1.size=bb at*;have cj:=bT.below M.out.1;have cl:=ck.below M.out.1;have bs:=kQ d K em dD;unfold av at bs;have d4:=M.out.1.size;clear bT ck;go_wp2_with (refine B3 rfl 35 _ rfl w.1.size rfl 35 #[.slice d.sa K.n d.sc,.slice d.pa K.m d.pc] (0,0) _ cj underlying35 rfl c4 ?_);refine bs.mono ?_;rintro e C ⟨rfl,V⟩;have ek:=jG (nPg K) t7 C;have d9:=bAl C (.cells (madeCells #[.bool false] (nPg K)) 4);have d7:=jH w.1.size (nPg K) t7 C (by have:=V.size;have:=y.out.1.size;omega);have I:=V.trans (d9.mono V.size);have u9:=M.out.1.trans (I.mono d4);have ca:FS w d K r D bb C.1.size [] [] (some ⟨w.1.size+1+1,0,none⟩) (some ⟨w.1.size+1+1+1,0,none⟩) 0 0 (C.alloc (.cells (madeCells #[.bool false] (nPg K)) 4)):=
   ⟨y.out.1.trans (u9.mono y.out.1.size),y.out.2.1.below u9,y.out.2.2.below u9,d7,M.out.2.1.below I,by obtain⟨cs,ba⟩:=M.out.2.2.1;exact⟨cs,(I.block r M.out.2.1.1).trans ba⟩,Blk.below M.out.2.2.2 I,fun g ak ex=>by simp at ak ex;omega⟩
  have es:(C.alloc (.cells (madeCells #[.bool false] (nPg K)) 4)).cell? ⟨w.1.size+1,3,none⟩=some (.int .i64 fr):=(cl.below I).cell 3;have db:Hid (FI w d K r D bb C.1.size fr [] [] (some ⟨w.1.size+1+1,0,none⟩) (some ⟨w.1.size+1+1+1,0,none⟩) 0 0 0 fr (C.alloc (.cells (madeCells #[.bool false] (nPg K)) 4))):=⟨ca,⟨y3,uB⟩,uB,rfl,rfl⟩;clear bs V d9 d7 I u9 ca cj cl M y;go_upto_region 9 with fail
  change Code.wp _ _ _ _ (C.alloc (.cells (madeCells #[.bool false] (nPg K)) 4));generalize C.alloc (.cells (madeCells #[.bool false] (nPg K)) 4)=fl at*;generalize C.1.size=sb at*;clear es ek;go_loopw [7,8,11,12] (fun c2 c3 b3 ea wr=> ∃(q f:List Int)(a a5:Option Addr)(c a6:Nat)(O id:Int),c2= .slice a q.length c/\c3= .slice a5 f.length a6/\b3= .int .i64 O/\ea= .int .i64 id/\FI w d K r D bb sb fr q f a a5 c a6 O id wr) (fun _ c3 _ _ _=>nPg K+1-li c3)
  case atStart=>exact⟨[],[],_,_,0,0,0,fr,rfl,rfl,rfl,rfl,db.out⟩
  case round=>
   obtain⟨q,f,a,a5,c,a6,O,id,rfl,rfl,rfl,rfl,am⟩:=hrel;obtain⟨c6,bS⟩:=aa wr;subst bS;have e9:=am.ok.le;have e3:=am.lf;have R:Hid _:=am;have dl:c6.cell? ⟨bb,0,none⟩=some (.slice (some ⟨r,0,none⟩) K.n D):=am.s.k.cell 0;have cv:=qM d K id r D c6 (bg.out c6 am.s.b) L am.s.v;clear am;by_cases bx:id=0
   ·subst bx;have cR:Hid (flT K fr=some (q,f)):=by show flT K fr=some (q,f);rw[bz.out,R.out.eq,xf]
    clear cv dl;go_wp2_with fail;refine B1 (v:= .tuple #[.slice a q.length c,.slice a5 f.length a6,.bool true]) (by simp[results,results66]) rfl ?_;exact⟨R.out.s.b,q,f,true,a,c,a5,a6,rfl,R.out.s.f,R.out.s.o,t7,t7,vR ⟨cR.out,rfl⟩⟩
   have bP:Hid (flT K fr=flR (pgD K) (nPg K-f.length+1) id f q):=by
    show flT K fr=flR (pgD K) (nPg K-f.length+1) id f q;rw[bz.out,R.out.eq];congr 1;omega
   have eV:(id==0)=false:=by simp[bx]
   go_wp2_with fail;refine cv.mono ?_;rintro e w1 ⟨ab,a7,rfl,dk,cp⟩;have aS:=R.out.s.below dk;have bs1:=yg cp (ml (bg.out w t2) id);have dE:=mn L id;have o:Hid (eZ (pgD K) f id=false->FlP K fr w (.returned (.tuple #[.slice (some ⟨w1.1.size,0,none⟩) 0 0,.slice (some ⟨w1.1.size+1,0,none⟩) 0 0,.bool false])) ((w1.alloc (.cells #[] 3)).alloc (.cells #[] 3))):=fun eN=>yi aS.b (by rw[bP.out,xg bx eN]);have a2:=aS.m;have H:=t6 aS bs1;have z:Hid (eZ (pgD K) f id=true↔vB K id=true/\vK K id=4/\id∉f/\4<=(vL K id).length/\(vL K id).length%4=0):=kY;generalize dX:vL K id=l at bs1 dE z H ⊢;generalize dW:vK K id=kd at z ⊢;have dc:Hid (vL K id=l):=dX;clear cv dl dk cp aS bs1 dX dW;cases B:vB K id with
   |false=>
    have n:Hid _:=o.out (by rw[<-xd,z.out,B];intro h;exact absurd h.1 uv);clear a2 B;go_wp2_with fail;refine B1 (v:= .tuple #[.slice (some ⟨w1.1.size,0,none⟩) 0 0,.slice (some ⟨w1.1.size+1,0,none⟩) 0 0,.bool false]) (by simp[results,results66]) rfl n.out
   |true=>
   have e4:=dd.ok id (show vB K id=true from B);by_cases bE:kd=4
   rotate_left
   ·have eK:(kd==4)=false:=by simp[bE]
    have n:Hid _:=o.out (by rw[<-xd,z.out];intro h;exact bE h.2.1);clear a2 B;go_wp2_with fail;refine B1 (v:= .tuple #[.slice (some ⟨w1.1.size,0,none⟩) 0 0,.slice (some ⟨w1.1.size+1,0,none⟩) 0 0,.bool false]) (by simp[results,results66]) rfl n.out
   subst bE;obtain⟨i,rfl⟩:∃i:Nat,id=(i:Int):=⟨id.toNat,t7⟩;have bC:i<nPg K:=t7;obtain⟨_,ak,fa,eR,⟨cM,aX⟩,ba⟩:=a2.at_ t7;cases ak;have da:Hid (w1.heap[sb]?=some (.cells cM 4 (0,0))):=aX;clear aX;have cL:=(ba i bC).trans (CV some (go f (nPg K) i bC));clear ba a2;cases A:f.contains (i:Int)with
   |true=>
    rw[A]at cL;have n:Hid _:=o.out (by rw[<-xd,z.out];intro h;exact h.2.2.1 (xc.1 A));clear A B;go_wp2_with fail;refine B1 (v:= .tuple #[.slice (some ⟨w1.1.size,0,none⟩) 0 0,.slice (some ⟨w1.1.size+1,0,none⟩) 0 0,.bool false]) (by simp[results,results66]) rfl n.out
   |false=>
   rw[A]at cL;have cc:(i:Int)∉f:=fun h=>by rw[xc.2 h]at A;cases A
   by_cases fn:l.length<4
   ·have n:Hid _:=o.out (by rw[<-xd,z.out];intro h;omega);have dq:(l.length:Int)<4:=t7;clear A B;go_wp2_with fail;refine B1 (v:= .tuple #[.slice (some ⟨w1.1.size,0,none⟩) 0 0,.slice (some ⟨w1.1.size+1,0,none⟩) 0 0,.bool false]) (by simp[results,results66]) rfl n.out
   have dq:¬(l.length:Int)<4:=t7;by_cases b5:l.length%4=0
   rotate_left
   ·have n:Hid _:=o.out (by rw[<-xd,z.out];intro h;omega);have dr:((l.length:Int)%4 !=0)=true:=by simp;omega
    have y:Hid _:=b5;clear b5;clear A B;go_wp2_with fail;refine B1 (v:= .tuple #[.slice (some ⟨w1.1.size,0,none⟩) 0 0,.slice (some ⟨w1.1.size+1,0,none⟩) 0 0,.bool false]) (by simp[results,results66]) rfl n.out
   have dr:((l.length:Int)%4 !=0)=false:=by simp;omega
   have y:Hid (l.length%4=0):=b5;have bA:=H.out.1.m.free i;clear A b5;go_upto_region 13 with fail
   go_upto_region 14 with fail
   have cV:=ax w1 sb i (.bool true);have bW:∀t,4≠t->KeepT t w1 (w1.setCell ⟨sb,i,none⟩ (.bool true)):=fun t eU=>cx cV da.out eU;have bZ:=H.out.1.o.keep (bW _ uv);have d3:w.1.size<=(w1.setCell ⟨sb,i,none⟩ (.bool true)).1.size:=by have:=cV.size;omega
   have ch:(w1.setCell ⟨sb,i,none⟩ (.bool true)).1.size=w1.1.size:=by simp
   generalize cb:w1.setCell ⟨sb,i,none⟩ (.bool true)=cz at*;have bm:Hid (w1.setCell ⟨sb,i,none⟩ (.bool true)=cz/\cz.1.size=w1.1.size):=⟨cb,ch⟩;clear ch cb;go_upto_region 15 with(first|(at_builtin;refine iF rfl _ _ co rfl w.1.size a5 f.length a6 (on f) rfl bZ (.int .i64 (i:Nat)) rfl rfl t7 t7 d3 ?_;intro cP cD fo d8 en bv bu)|fail)
   rw[bm.out.2]at bu;have b8:=H.out.1.appO bC d8 (by rw[bm.out.1];exact bv) bu;have ap:=bAl cz (.cells #[.int .i64 (i:Nat)] 3);have J:=H.out.2.keep (((bW _ uv).trans (aV ap)).trans (bD (bQ bZ ap) bv uv));obtain⟨cB,bY,rfl,_,_⟩:=J.bs.at_ (by have:=J.bs.len_eq;omega);have e1:=J.bs.le;have dF:=J.bs.le';unfold maxLen at dF;have an:=R.out.ok.snoc t7 t7 cc;have d1:=an.le;rw[v7,x9]at d1;have bl:Hid (eZ (pgD K) f (i:Int)=true):=z.out.2 ⟨B,True.intro,cc,t7,y.out⟩;have cq:=t6 b8 (vk J an);clear cV bW bZ d8 en bv bu b8 ap J an H o z cL B bA bm;go_upto_region 16 with fail
   go_loopw [7,11,16] (fun c2 b3 eb wr=> ∃(j k:Nat)(m:List Int)(T:Option Addr)(W:Nat)(p:Int),c2= .slice T m.length W/\b3= .int .i64 p/\eb= .int .i64 (j:Nat)/\j=4*k/\1<=k/\j<=l.length/\FS w d K r D bb sb m (f++[(i:Int)]) T (some ⟨cP,0,none⟩) W cD wr/\BsT wr (some ⟨cB,bY,none⟩) l.length a7 l/\m.length+1=q.length+k/\p=m.getLastD 0/\frA (cG l 1) q=frA (cG l k) m) (fun _ _ s _=>l.length-(intOf s).toNat)
   case atStart=>exact⟨4,1,q,a,c,O,rfl,rfl,rfl,rfl,t7,t7,cq.out.1,cq.out.2.1,rfl,R.out.la,rfl⟩
   case round=>
    obtain⟨j,k,m,T,W,p,rfl,rfl,rfl,b6,e6,e5,a9,a8,bB,a1,a0⟩:=hrel;obtain⟨wI,bS⟩:=aa wr;subst bS;have cg:=a9.b.size;have G:=t6 a9 (vk a8 (vk a1 a0));have cr:Hid (j=4*k):=b6;have b9:Hid _:=bB;by_cases e7:j<l.length
    ·have eL:(j:Int)< (l.length:Int):=t7;have ds:=y.out;have dS:j+4<=l.length:=t7;have ae:=lQ (some ⟨cB,bY+j,none⟩) 4 (a7-j) ((l.drop j).take 4) wI (a8.bs.piece j 4 dS (a7-j) t7 (by unfold maxLen;omega)) t7;rw[show low ((l.drop j).take 4)=dN l k by rw[b6];rfl]at ae;have N:Hid (cG l k=dN l k::cG l (k+1)):=xe t7;have e2:¬a7=j:=t7;have S:=a9.f;have cS:m.length<=65536:=t7;clear b6 a9 a8 a1 a0 ds bB;generalize dN l k=x at*;go_upto_region 19 with fail
     refine ae.mono ?_;rintro e u ⟨rfl,bR⟩;obtain rfl:=bR.symm;clear bR ae;go_upto_region 19 with fail
     rcases Nat.eq_zero_or_pos m.length with hf0|hf0
     ·have dI:=y1 hf0;subst dI;have S:Own1 3 w.1.size wI T 0 W (on []):=S;have bk:Hid (frA (cG l 1) q=frA (cG l (k+1)) ([]++[x])):=by
       show frA (cG l 1) q=frA (cG l (k+1)) ([]++[x]);rw[G.out.2.2.2,N.out,frA,Ct (fun h=>h.1 rfl)]
      clear hf0 cS;go_wp2_with (at_builtin;refine iF rfl _ _ co rfl w.1.size T 0 W (on []) rfl S (.int .i64 x) rfl rfl t7 t7 cg ?_);intro eB eq C bX V F U;have bd:=G.out.1.appF bX F U;have aA:=bAl wI (.cells #[.int .i64 x] 3);have bc:=G.out.2.1.keep ((aV aA).trans (bD (bQ S aA) F uv));have E:=t6 bd bc;clear bX V F U aA bd bc S;go_wp2_with fail;go_roundw
      case rel=>have dU:=cr.out;have bA:=b9.out;exact⟨j+4,k+1,[]++[x],_,_,x,by rw[v7];rfl,rfl,by go_num,t7,t7,t7,E.out.1,E.out.2,by rw[v7,x9];omega,uB,bk.out⟩
      case measure=>simp[intOf];omega
     ·have eC:(0:Int)< (m.length:Int):=t7;have bF:m≠[]:=fun e=>by rw[e]at hf0;exact absurd hf0 (Nat.lt_irrefl _)
      by_cases d2:x<=p
      ·have n:Hid _:=yi (K:=K) (fr:=fr) G.out.1.b (by
        have eM:m≠[]/\x<=m.getLastD 0:=⟨bF,by rw[<-G.out.2.2.1];exact d2⟩;rw[bP.out,oH bx bl.out,show(pgD K).bd (i:Int)=l from dc.out,G.out.2.2.2,N.out,frA,B2 eM];rfl)
       clear hf0 bF;go_wp2_with fail;refine B1 (v:= .tuple #[.slice (some ⟨wI.1.size,0,none⟩) 0 0,.slice (some ⟨wI.1.size+1,0,none⟩) 0 0,.bool false]) (by simp[results,results66]) rfl n.out
      ·have bk:Hid (frA (cG l 1) q=frA (cG l (k+1)) (m++[x])):=by
        show frA (cG l 1) q=frA (cG l (k+1)) (m++[x]);rw[G.out.2.2.2,N.out,frA,Ct (fun h=>by have:=h.2;rw[<-G.out.2.2.1]at this;omega)]
       clear hf0 bF;go_wp2_with (at_builtin;refine iF rfl _ _ co rfl w.1.size T m.length W (on m) rfl S (.int .i64 x) rfl rfl t7 t7 cg ?_);intro eB eq C bX V F U;have bd:=G.out.1.appF bX F U;have aA:=bAl wI (.cells #[.int .i64 x] 3);have bc:=G.out.2.1.keep ((aV aA).trans (bD (bQ S aA) F uv));have E:=t6 bd bc;clear bX V F U aA bd bc S;go_wp2_with fail;go_roundw
       case rel=>have dU:=cr.out;have bA:=b9.out;exact⟨j+4,k+1,m++[x],_,_,x,by rw[v7];rfl,rfl,by go_num,t7,t7,t7,E.out.1,E.out.2,by rw[v7,x9];omega,uB,bk.out⟩
       case measure=>simp[intOf];omega
    ·have dV:j=l.length:=t7;have e8:¬(j:Int)< (l.length:Int):=t7;have ae:=lQ (some ⟨cB,bY,none⟩) 4 a7 (l.take 4) wI (by have:=a8.bs.piece 0 4 t7 a7 t7 a8.bs.le';simpa using this) t7;rw[show low (l.take 4)=dN l 0 by simp[dN]]at ae;have E:Hid (FI w d K r D bb sb fr m (f++[(i:Int)]) T (some ⟨cP,0,none⟩) W cD p (dN l 0) wI):=by
      refine⟨a9,cq.out.2.2,by rw[v7,x9];omega,a1,?_⟩;rw[<-bz.out,bP.out,oH bx bl.out,show(pgD K).bd (i:Int)=l from dc.out,a0,wZ t7,frA];show flR (pgD K) (nPg K-f.length) _ _ _= _;congr 1;rw[v7,x9];omega
     clear dV b6 a9 a8 a1 a0 cr bB;go_wp2_with fail;refine ae.mono ?_;rintro e u ⟨rfl,bR⟩;obtain rfl:=bR.symm;clear bR ae;go_wp2_with fail;go_roundw
     case rel=>exact⟨m,f++[(i:Int)],T,some ⟨cP,0,none⟩,W,cD,p,dN l 0,rfl,by rw[v7];rfl,rfl,rfl,E.out⟩
     case measure=>simp only[li];omega
noncomputable def iG(K:DK)(root fr:Int)(M:Nat):Bool:=match flT K fr with|some p=>tpB K root&&mrk M (tpL K root) p.1 p.2|none=>false
noncomputable def whS(K:DK)(gen root used fr:Int):Bool:=aR K&&bG gen root used fr&&decide (used<=((nPg K:Nat):Int))&&iG K root fr used.toNat
theorem yk(d K p b i fr w)(h:RDisk w d K):
 Calls prog 28 #[av d K,.agg (al p b i fr).toArray] w fun e w'=>e= .returned (.bool (whS K p b i fr))/\Below w.1.size w w':=by
 obtain⟨Q,L⟩:=aa (w.alloc (.cells #[.slice d.sa K.n d.sc,.slice d.pa K.m d.pc] 35));obtain⟨v,X⟩:=aa (Q.alloc (.cells (al p b i fr).toArray 36));have b1:Below w.1.size w Q:=by rw[L];exact bAl _ _
 have b2:Below Q.1.size Q v:=by rw[X];exact bAl _ _
 have cz:Q.1.size=w.1.size+1:=by rw[L];simp
 have a4:=(by rw[L];exact aq w _ _:Blk Q 35 w.1.size [.slice d.sa K.n d.sc,.slice d.pa K.m d.pc]).below b2;have ad:Blk v 36 (w.1.size+1) (al p b i fr):=by rw[X,<-cz];exact aq Q _ _
 have P:=b1.trans (b2.mono b1.size);have cl:(prog.info? 35).map (·.size)=some (#[Value.slice d.sa K.n d.sc,Value.slice d.pa K.m d.pc]:Array Value).size:=gD;have cT:(prog.info? 36).map (·.size)=some (al p b i fr).toArray.size:=bj;have bF:Hid (∀u,Below v.1.size v u->RDisk u d K):=fun u t=>h.below (P.trans (t.mono P.size));have B:Hid (∀u,Below v.1.size v u->Below w.1.size w u):=fun u t=>P.trans (t.mono P.size);have T:Hid (∀u,Below v.1.size v u->u.cell? ⟨w.1.size,0,none⟩=some (.slice d.sa K.n d.sc)/\u.cell? ⟨w.1.size,1,none⟩=some (.slice d.pa K.m d.pc)/\u.cell? ⟨w.1.size+1,0,none⟩=some (.int .i64 p)/\u.cell? ⟨w.1.size+1,1,none⟩=some (.int .i64 b)/\u.cell? ⟨w.1.size+1,2,none⟩=some (.int .i64 i)/\u.cell? ⟨w.1.size+1,3,none⟩=some (.int .i64 fr)):=fun u t=>⟨Blk.cell (a4.below t) 0,Blk.cell (a4.below t) 1,Blk.cell (ad.below t) 0,Blk.cell (ad.below t) 1,Blk.cell (ad.below t) 2,Blk.cell (ad.below t) 3⟩;have E:=t6 a4 ad;have ap:=bDr v;have cs:=T.out v.drew ap;have bz:=jt d K v.drew (bF.out _ ap);unfold av at bz ⊢;clear b1 b2 cz P a4 ad;generalize aS:whS K p b i fr=j at*;have F:Hid _:=aS;clear aS;go_enter func28,ntmps28;go_upto_region 1 with fail
 change Code.wp _ _ _ _ ((w.alloc (.cells #[.slice d.sa K.n d.sc,.slice d.pa K.m d.pc] 35)).alloc (.cells (al p b i fr).toArray 36));rw[<-L,<-X];clear L X;refine az (fun u=>u.cell? ⟨w.1.size,0,none⟩=some (.slice d.sa K.n d.sc)/\u.cell? ⟨w.1.size,1,none⟩=some (.slice d.pa K.m d.pc)/\u.cell? ⟨w.1.size+1,0,none⟩=some (.int .i64 p)/\u.cell? ⟨w.1.size+1,1,none⟩=some (.int .i64 b)/\u.cell? ⟨w.1.size+1,2,none⟩=some (.int .i64 i)/\u.cell? ⟨w.1.size+1,3,none⟩=some (.int .i64 fr)) (fun _=>false) uA ?_;refine ai 0 cs ?_;refine ah 1 fun o l=> ?_;go_wp2_with fail;refine bz.mono ?_;rintro e cp ⟨rfl,b7⟩;have ak:=ap.trans (b7.mono ap.size);have f:=T.out cp ak;clear bz;go_wp2_with fail;refine ao l ?_;clear l o;have bA:=mU p b i fr cp;cases C:aR K with
 |false=>
  have q:Hid (j=false):=by show j=false;rw[<-F.out];unfold whS;rw[C];rfl
  clear bA;refine ai 2 f ?_;refine ai 3 f ?_;refine aE 4 f ?_;refine aE 5 f ?_;refine aE 6 f ?_;refine ai 7 f ?_;refine ai 8 f ?_;refine aE 9 f ?_;refine aE 10 f ?_;refine aE 11 f ?_;refine aE 12 f ?_;refine aE 13 f ?_;refine ai 14 f ?_;refine bi ?_;go_wp2_with fail;go_ret;exact⟨by rw[q.out];rfl,B.out _ ak⟩
 |true=>
 have cf:=gK C;refine ai 2 f ?_;refine ai 3 f ?_;refine ai 4 f ?_;refine ah 5 fun o l=> ?_;go_wp2_with fail;refine bA.mono ?_;rintro e cq ⟨rfl,b8⟩;have am:=ak.trans (b8.mono ak.size);have g:=T.out cq am;clear bA;go_wp2_with fail;refine ao l ?_;clear l o;cases z:bG p b i fr with
 |false=>
  have q:Hid (j=false):=by show j=false;rw[<-F.out];unfold whS;rw[C,z];rfl
  refine ai 6 g ?_;refine ai 7 g ?_;refine ai 8 g ?_;refine aE 9 g ?_;refine aE 10 g ?_;refine aE 11 g ?_;refine aE 12 g ?_;refine aE 13 g ?_;refine ai 14 g ?_;refine bi ?_;go_wp2_with fail;go_ret;exact⟨by rw[q.out];rfl,B.out _ am⟩
 |true=>
 have ce:=cf.1.2.1;have bB:=kQ d K cq ce;unfold av at bB;refine ai 6 g ?_;refine ai 7 g ?_;refine ai 8 g ?_;refine ai 9 g ?_;refine ai 10 g ?_;refine ai 11 g ?_;refine ah 12 fun o l=> ?_;go_wp2_with fail;refine bB.mono ?_;rintro e b3 ⟨rfl,b9⟩;have ab:=am.trans (b9.mono am.size);have r:=T.out b3 ab;clear bB;go_wp2_with fail;refine ao l ?_;clear l o;by_cases Z:i<=((nPg K:Nat):Int)
 rotate_left
 ·have aT:((nPg K:Nat):Int)<i:=t7;have q:Hid (j=false):=by show j=false;rw[<-F.out];unfold whS;rw[C,z,CC Z];rfl
  clear Z;refine ai 13 r ?_;refine ai 14 r ?_;refine bi ?_;go_wp2_with fail;go_ret;exact⟨by rw[q.out];rfl,B.out _ ab⟩
 have aT:¬((nPg K:Nat):Int)<i:=t7;refine ai 13 r ?_;refine ai 14 r ?_;refine bi ?_;go_upto_region 3 with fail
 have bc:iK p i=true/\nmB i b=true/\nmB i fr=true:=by
  unfold bG at z;rw[wR,wR]at z;exact z
 obtain⟨c4,c5,u1,u2⟩:=C1 bc.1;have W:Hid (j=iG K b fr i.toNat):=by
  show j= _;rw[<-F.out];unfold whS;rw[C,z,CH Z];rfl
 obtain⟨M,rfl⟩:∃M:Nat,i=(M:Int):=⟨i.toNat,t7⟩;rw[Int.toNat_natCast]at W;have bg:=E.out.1.below ab;obtain⟨_,_,_,cL,_,_⟩:=r;have bT:=wY d K b b3 (bF.out b3 ab);have bC:Hid _:=ab;clear cs f g ak am ap b7 b8 b9 bc z C Z aT ab;unfold av at bT;go_wp2_with (refine B3 rfl 35 _ rfl w.1.size rfl 35 #[.slice d.sa K.n d.sc,.slice d.pa K.m d.pc] (0,0) _ bg underlying35 rfl cl ?_);refine bT.mono ?_;rintro e cr ⟨b5,cc,rfl,ca,bs⟩;have an:=bC.out.trans (ca.mono bC.out.size);have bk:=E.out.1.below an;have bl:=E.out.2.below an;have bE:=yj d K p b (M:Nat) fr cr (bF.out cr an);unfold av at bE;have a0:=t6 an bs;have cX:(tpL K b).length<=1024:=by
  unfold tpL;cases ldT K b with
  |none=>simp
  |some x=>exact wa (oe _ _) (by unfold nPg;omega)
 generalize bf:tpL K b=A at*;generalize bd:tpB K b=cm at*;have ae:Hid (tpL K b=A/\tpB K b=cm):=⟨bf,bd⟩;clear bT ca bs an bg cL bf bd;go_wp2_with (first|(refine B3 rfl 35 _ rfl w.1.size rfl 35 #[.slice d.sa K.n d.sc,.slice d.pa K.m d.pc] (0,0) _ bk underlying35 rfl cl ?_)|(refine B3 rfl 36 _ rfl (w.1.size+1) rfl 36 (al p b (M:Nat) fr).toArray (0,0) _ bl underlying36 rfl cT ?_));refine bE.mono ?_;rintro e H ⟨bW,J,D,c1,a,c,cB,cD,rfl,bn,br,cV,cW,bb⟩;have bX:=a0.out.1.trans (bW.mono a0.out.1.size);have bu:=a0.out.2.below bW;have cb:H.cell? ⟨w.1.size+1,2,none⟩=some (.int .i64 (M:Nat)):=(E.out.2.below bX).cell 2;have G:=t6 bX (vk bu (vk bn br));clear bE bW bn br bX bu bk bl a0 bC;cases cm with
 |false=>
  have q:Hid (j=false):=by
   show j=false;rw[W.out];unfold iG;rw[ae.out.2];cases flT K fr<;>rfl
  clear bb;go_wp2_with fail;go_ret;exact⟨by rw[q.out];rfl,B.out _ G.out.1⟩
 |true=>
 rcases bb with⟨N,rfl⟩|⟨N,rfl⟩
 rotate_left
 ·have q:Hid (j=false):=by show j=false;rw[W.out];unfold iG;rw[N]
  clear N;go_wp2_with fail;go_ret;exact⟨by rw[q.out];rfl,B.out _ G.out.1⟩
 have a2:Hid (j=mrk M A J D):=by show j= _;rw[W.out];unfold iG;rw[N,ae.out.1,ae.out.2];rfl
 have cA:=jG M t7 H;have aX:=bAl H (.cells (madeCells #[.bool false] M) 4);have cj:=jH H.1.size M t7 H t1;have ac:=G.out.1.trans (aX.mono G.out.1.size);have a7:(H.alloc (.cells (madeCells #[.bool false] M) 4)).cell? ⟨w.1.size+1,2,none⟩=some (.int .i64 (M:Nat)):=(E.out.2.below ac).cell 2;have c0:=G.out.1.size;have I:=t6 ac (vk (G.out.2.1.below aX) (vk (G.out.2.2.1.below aX) (vk (G.out.2.2.2.below aX) cj)));clear aX cj ac N G;go_upto_region 8 with fail
 change Code.wp _ _ _ _ (H.alloc (.cells (madeCells #[.bool false] M) 4));generalize H.alloc (.cells (madeCells #[.bool false] M) 4)=af at*;generalize cg:H.1.size=mb at*;clear cb cA cg;have y:=bDr af;have ac:=I.out.1.trans (y.mono I.out.1.size);have a8:af.drew.cell? ⟨w.1.size+1,2,none⟩=some (.int .i64 (M:Nat)):=a7;obtain⟨_,cM,ba⟩:=(I.out.2.2.2.2.below y).blk;have a5:Hid (∀u,OnlyB mb af.drew u->KeepT 3 af.drew u):=fun u t=>cx t ba uv;have bP:=qY _ _ mb M [] A b5 cc af.drew t7 t7 (I.out.2.2.2.2.below y) (I.out.2.1.below y);generalize O:mOk M A []=cP at bP;have a6:=t6 (I.out.2.2.1.below y) (I.out.2.2.2.1.below y);clear y ba a7 I;refine az (fun u=>u.cell? ⟨w.1.size+1,2,none⟩=some (.int .i64 (M:Nat))) (fun _=>false) uA ?_;refine ai 0 a8 ?_;refine ai 1 a8 ?_;refine ah 2 fun o l=> ?_;go_wp2_with fail;refine bP.mono ?_;rintro e cv ⟨rfl,bZ,aB⟩;have a1:=ac.trans (bZ.below t7 ac.size);have m:cv.cell? ⟨w.1.size+1,2,none⟩=some (.int .i64 (M:Nat)):=(E.out.2.below a1).cell 2;clear bP;go_wp2_with fail;refine ao l ?_;clear l o;cases cP with
 |false=>
  have q:Hid (j=false):=by show j=false;rw[a2.out];unfold mrk;rw[O];rfl
  clear aB;refine ai 3 m ?_;refine aE 4 m ?_;refine aE 5 m ?_;refine aE 6 m ?_;refine ai 7 m ?_;refine ai 8 m ?_;refine aE 9 m ?_;refine aE 10 m ?_;refine aE 11 m ?_;refine ai 12 m ?_;refine ai 13 m ?_;refine aE 14 m ?_;refine aE 15 m ?_;refine aE 16 m ?_;refine aE 17 m ?_;refine aE 18 m ?_;refine aE 19 m ?_;refine aE 20 m ?_;refine ai 21 m ?_;refine ah 22 fun o l=> ?_;go_wp2_with fail;refine ao l ?_;clear l o;refine bi ?_;go_wp2_with fail;go_ret;exact⟨by rw[q.out];rfl,B.out _ a1⟩
 |true=>
 have bR:=qY _ _ mb M (A.reverse++[]) J a c cv t7 t7 (aB rfl) (a6.out.1.keep (a5.out _ bZ));generalize Y:mOk M J (A.reverse++[])=cR at bR;clear aB;refine ai 3 m ?_;refine ai 4 m ?_;refine ai 5 m ?_;refine ah 6 fun o l=> ?_;go_wp2_with fail;refine bR.mono ?_;rintro e bv ⟨rfl,bm,R⟩;have U:=a1.trans (bm.below t7 a1.size);have k:bv.cell? ⟨w.1.size+1,2,none⟩=some (.int .i64 (M:Nat)):=(E.out.2.below U).cell 2;clear bR;go_wp2_with fail;refine ao l ?_;clear l o;have bY:=bZ.trans bm;cases cR with
 |false=>
  have q:Hid (j=false):=by show j=false;rw[a2.out];unfold mrk;rw[O,Y];rfl
  clear R;refine ai 7 k ?_;refine ai 8 k ?_;refine aE 9 k ?_;refine aE 10 k ?_;refine aE 11 k ?_;refine ai 12 k ?_;refine ai 13 k ?_;refine aE 14 k ?_;refine aE 15 k ?_;refine aE 16 k ?_;refine aE 17 k ?_;refine aE 18 k ?_;refine aE 19 k ?_;refine aE 20 k ?_;refine ai 21 k ?_;refine ah 22 fun o l=> ?_;go_wp2_with fail;refine ao l ?_;clear l o;refine bi ?_;go_wp2_with fail;go_ret;exact⟨by rw[q.out];rfl,B.out _ U⟩
 |true=>
 have bS:=qY _ _ mb M (J.reverse++(A.reverse++[])) D cB cD bv t7 t7 (R rfl) (a6.out.2.keep (a5.out _ bY));generalize aA:mOk M D (J.reverse++(A.reverse++[]))=cS at bS;clear R;refine ai 7 k ?_;refine ai 8 k ?_;refine ai 9 k ?_;refine ai 10 k ?_;refine ah 11 fun o l=> ?_;go_wp2_with fail;refine bS.mono ?_;rintro e bx ⟨rfl,ck,S⟩;have V:=U.trans (ck.below t7 U.size);have n:bx.cell? ⟨w.1.size+1,2,none⟩=some (.int .i64 (M:Nat)):=(E.out.2.below V).cell 2;clear bS;go_wp2_with fail;refine ao l ?_;clear l o;cases cS with
 |false=>
  have q:Hid (j=false):=by show j=false;rw[a2.out];unfold mrk;rw[O,Y,aA];rfl
  clear S;refine ai 12 n ?_;refine ai 13 n ?_;refine aE 14 n ?_;refine aE 15 n ?_;refine aE 16 n ?_;refine aE 17 n ?_;refine aE 18 n ?_;refine aE 19 n ?_;refine aE 20 n ?_;refine ai 21 n ?_;refine ah 22 fun o l=> ?_;go_wp2_with fail;refine ao l ?_;clear l o;refine bi ?_;go_wp2_with fail;go_ret;exact⟨by rw[q.out];rfl,B.out _ V⟩
 |true=>
 have b4:=og _ mb M (D.reverse++(J.reverse++(A.reverse++[]))) bx t7 (S rfl);have a9:Hid (j=((mkd (D.reverse++(J.reverse++(A.reverse++[]))) M).length+2==M)):=by show j= _;rw[a2.out];unfold mrk;rw[O,Y,aA];rfl
 generalize mkd (D.reverse++(J.reverse++(A.reverse++[]))) M=mk at*;clear S O Y aA;refine ai 12 n ?_;refine ai 13 n ?_;refine ai 14 n ?_;refine ai 17 n ?_;refine ai 18 n ?_;refine ai 19 n ?_;refine ah 15 fun o l=> ?_;go_wp2_with fail;refine b4.mono ?_;rintro e cn ⟨c2,c3,rfl,b6,b0⟩;have ag:=V.trans (b6.mono V.size);have s:cn.cell? ⟨w.1.size+1,2,none⟩=some (.int .i64 (M:Nat)):=(E.out.2.below ag).cell 2;clear b4 b0;go_wp2_with fail;refine ao l ?_;clear l o;by_cases a3:mk.length+2=M
 ·have ch:(((mk.length:Nat):Int)==(M:Int)-2)=true:=by simp;omega
  have q:Hid (j=true):=by show j=true;rw[a9.out];simp[a3]
  clear a3;refine ai 16 s ?_;refine ai 20 s ?_;refine ai 21 s ?_;refine ah 22 fun o l=> ?_;go_wp2_with fail;refine ao l ?_;clear l o;refine bi ?_;go_wp2_with fail;go_ret;exact⟨by rw[q.out];rfl,B.out _ ag⟩
 ·have ch:(((mk.length:Nat):Int)==(M:Int)-2)=false:=by simp;omega
  have q:Hid (j=false):=by show j=false;rw[a9.out];simp[a3]
  clear a3;refine ai 16 s ?_;refine ai 20 s ?_;refine ai 21 s ?_;refine ah 22 fun o l=> ?_;go_wp2_with fail;refine ao l ?_;clear l o;refine bi ?_;go_wp2_with fail;go_ret;exact⟨by rw[q.out];rfl,B.out _ ag⟩
