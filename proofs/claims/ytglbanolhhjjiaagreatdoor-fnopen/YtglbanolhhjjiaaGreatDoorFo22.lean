import Derived.Test.YtglbanolhhjjiaaGreatDoorFo20
import Derived.Test.YtglbanolhhjjiaaGreatDoorFo14
import Derived.Test.YtglbanolhhjjiaaGreatDoorFo11
namespace Go.Proofs.YtglbanolhhjjiaaGreatDoor
open Go.Proofs.Tryz
open Go.RowKit
set_option linter.unusedVariables false
set_option maxRecDepth 100000
set_option maxHeartbeats 32000000
theorem Em:(prog.info? 4).map (fun i=>(i.zero,i.size,i.bytes))=some (some (.bool false),1,1):=uA
theorem jG(k:Nat)(f:k<=1048576)(w):
 (Instr.makeSlice 111 (.int .i64 (k:Int)) (.int .i64 (k:Int))).run prog w= .ok (.slice (some ⟨w.1.size,0,none⟩) k k) (w.alloc (.cells (madeCells #[.bool false] k) 4)):=by
 obtain⟨i,d,a,b,c⟩:=CT Em;have e:=run_make (P:=prog) w 111 4 i _ underlying111 d a .i64 .i64 k k t7 (z7 _) (by rw[c];omega) t7;rw[e,b];simp[Value.cells]
theorem Eo(N):mkB [] N=List.replicate N (Value.bool false):=by
 apply yc;intro i;by_cases a:i<N
 ·simp[mkB,a]
 ·simp[mkB,a]
theorem jH(B k)(b:k<=1048576)(w:World)(a:B<=w.1.size):Own1 4 B (w.alloc (.cells (madeCells #[.bool false] k) 4)) (some ⟨w.1.size,0,none⟩) k k (mkB [] k):=by
 refine⟨by rw[uV];omega,u4 ⟨w.1.size,k,madeCells #[.bool false] k,rfl,a,DI w _,t1,by unfold maxLen;omega,?_,?_⟩⟩
 ·have:=B8 List.length (toList_madeCells_one (Value.bool false) k);simpa using this
 ·rw[toList_madeCells_one,Eo,Nat.mul_one];simp
theorem ou:(prog.info? 116).map (·.size)=some 5:=uA
theorem gD:(prog.info? 35).map (·.size)=some 2:=uA
noncomputable def pgD(K:DK):Pg:=⟨vK K,vL K,vB K⟩
def nPg(K:DK):Nat:=K.n/4
theorem kO{w d K}(f:RDisk w d K)(a:dOk K):PgW (pgD K) (nPg K):=by
 refine⟨fun t e=> ?_,fun t=>ml f t,fun t=>u9 (mn a t) t7,by unfold nPg;have:=a.1.2.1;omega⟩;by_cases b:eD K t
 ·unfold eD at b;unfold nPg;omega
 ·have c:vB K t=false:=by unfold vB;rw[ij b]
  have:vB K t=true:=e;rw[c]at this;cases this
theorem kQ(d K w)(c:K.n<=4096):
 Calls prog 64 #[av d K] w fun e w'=>e= .returned (.int .i64 (nPg K:Nat))/\Below w.1.size w w':=by
 have a:Hid _:=(Bn w.1.size w).alloc t1 (.cells #[.slice d.sa K.n d.sc,.slice d.pa K.m d.pc] 35);have f:(K.n:Int).tdiv 4=((nPg K:Nat):Int):=by rw[y6 t7];unfold nPg;omega
 have b:nPg K<=1024:=by unfold nPg;omega
 generalize nPg K=N at*;unfold av;go_enter func64,ntmps64;go_wp2;go_ret;exact⟨rfl,a.out⟩
noncomputable def ldT(K:DK)(root:Int):Option (Option Tr):=
 match aR K with
 |false=>none
 |true=>if root=0 then some none else(rdT (pgD K) (nPg K+1) 0 ⟨[], -1⟩ root).bind fun x=>if okT x.1 true (strOfNums []) (strOfNums [])=true then some (some x.1)else none
structure LdT(K:DK)(root:Int)(B:Nat)(w:World)(cs:List Value)(T:Tr):Prop where
 ex:∃ns nv na nc seen tall sb p,cs=trc na ns.length nc p sb (nPg K) tall false/\ns.length<=nPg K/\Rep ns T true [p] []/\rdT (pgD K) (nPg K+1) 0 ⟨[], -1⟩ root=some (T,⟨seen,tall⟩)/\
  ∀g u,Blk u 116 g cs->Below w.1.size w u->TSt B g sb (nPg K) p u ns nv na nc seen tall false
theorem TSt.setRt{B0 g sb N rt w ns nv na nc seen tall bad}(b:TSt B0 g sb N rt w ns nv na nc seen tall bad)(p):TSt B0 g sb N p (w.setCell ⟨g,1,none⟩ (.int .i64 p)) ns nv na nc seen tall bad:=by
 have c:=ax w g 1 (.int .i64 p);have a:∀t,116≠t->KeepT t w (w.setCell ⟨g,1,none⟩ (.int .i64 p)):=fun t e=>aw c b.blk e;exact⟨b.blk.set 1 (.int .i64 p),b.mks.keep (a _ uv),cw b.nodes (a _ uv),fun i d=>(b.each i d).keep (a _ uv) (a _ uv),u9 b.gB c.size,b.ok⟩
theorem VRow.only{w w' d K b g}(f:VRow w d K b)(e:OnlyB g w w')(c:b≠g):VRow w' d K b:=
 ⟨ws f.1 e.size,fun t h=>by rw[CP (a:=⟨b,t,none⟩) (e.block b f.1 c)];exact f.2 t h⟩
def trz:List Value:=[.slice none 0 0,.int .i64 0,.slice none 0 0,.int .i64 0,.bool false]
def tr1:List Value:=[.slice none 0 0,.int .i64 (-1),.slice none 0 0,.int .i64 (-1),.bool false]
theorem ov:∀u∈tr1,u.oneCell'=true:=by intro u a;simp[tr1]at a;rcases a with rfl|rfl|rfl|rfl|rfl<;>rfl
theorem df{cs:List Value}(b:∀u∈cs,u.oneCell'=true):cs.toArray.all (·.oneCell')=true:=by
 rw[Array.all_eq_true_iff_forall_mem];intro v a;exact b v (by simpa using a)
def LdP(K:DK)(root:Int)(w:World)(e:Ending)(w':World):Prop:=Below w.1.size w w'/\∃cs:List Value,cs.length=5/\(∀u∈cs,u.oneCell'=true)/\((ldT K root=none/\e= .returned (.tuple #[.agg cs.toArray,.bool false]))\/(ldT K root=some none/\cs=tr1/\e= .returned (.tuple #[.agg cs.toArray,.bool true]))\/∃T,ldT K root=some (some T)/\LdT K root w.1.size w' cs T/\e= .returned (.tuple #[.agg cs.toArray,.bool true]))
theorem wK(d K a w)(dk:RDisk w d K):
 Calls prog 69 #[av d K,.int .i64 a] w fun e w'=>LdP K a w e w':=by
 have cM:Hid (∀u,Below w.1.size w u->RDisk u d K):=fun u b=>dk.below b;have cL:Hid _:=dk;obtain⟨O,E⟩:=aa (w.alloc (.cells #[.slice d.sa K.n d.sc,.slice d.pa K.m d.pc] 35));obtain⟨P,F⟩:=aa (O.alloc (.cells trz.toArray 116));obtain⟨ac,G⟩:=aa (P.alloc (.cells tr1.toArray 116));have bz:Below w.1.size w O:=by rw[E];exact bAl _ _
 have bA:Below O.1.size O P:=by rw[F];exact bAl _ _
 have bB:Below P.1.size P ac:=by rw[G];exact bAl _ _
 have cA:O.1.size=w.1.size+1:=by rw[E];simp
 have cB:P.1.size=w.1.size+2:=by rw[F];simp[cA]
 have cn:=((by rw[E];exact aq w _ _:Blk O 35 w.1.size [.slice d.sa K.n d.sc,.slice d.pa K.m d.pc]).below bA).below bB;have cp:=((by rw[F,<-cA];exact aq O _ _:Blk P 116 (w.1.size+1) trz).below bB);have c1:Blk ac 116 (w.1.size+2) tr1:=by rw[G,<-cB];exact aq P _ _
 have bn:=(bz.trans (bA.mono bz.size)).trans (bB.mono (u9 bz.size bA.size));have dD:ac.1.size=w.1.size+3:=by rw[G];simp[cB]
 have cz:(prog.info? 35).map (·.size)=some (#[Value.slice d.sa K.n d.sc,Value.slice d.pa K.m d.pc]:Array Value).size:=gD;have ag:(prog.info? 116).map (·.size)=some tr1.toArray.size:=ou;have an:=jt d K ac (dk.below bn);unfold av at an ⊢;go_enter func69,ntmps69;go_upto_region 2 with fail
 change Code.wp _ _ _ _ (((w.alloc (.cells #[.slice d.sa K.n d.sc,.slice d.pa K.m d.pc] 35)).alloc (.cells trz.toArray 116)).alloc (.cells tr1.toArray 116));rw[<-E,<-F,<-G];have b3:w.1.size+1+1<ac.1.size:=t7;have a6:Blk ac 116 (w.1.size+1+1) tr1:=c1;clear E F G bz bA bB cA cB dD c1;obtain⟨f,b2⟩:=aa (w.1.size+1+1);obtain⟨rb,b1⟩:=aa (w.1.size+1);rw[<-b2]at b3 a6 ⊢;rw[<-b1]at cp ⊢;have dp:w.1.size<rb:=t7;have dq:rb<f:=t7;clear b2 b1;go_wp2_with (refine BD rfl 35 _ rfl w.1.size rfl 35 #[.slice d.sa K.n d.sc,.slice d.pa K.m d.pc] (0,0) _ cn underlying35 rfl cz ?_);refine an.mono ?_;rintro e bE ⟨rfl,ad⟩;have br:=bn.trans (ad.mono bn.size);have a2:=cn.below ad;have I:=cp.below ad;have X:=a6.below ad;have dP:f<bE.1.size:=by have:=ad.size;omega
 have U:=I.setRow tr1;have r:=du bE rb tr1.toArray;have A:=br.trans (r.below t7 br.size);have ak:=t6 br A;clear an cn cp a6 bn ad br A r b3;cases o:aR K with
 |false=>
  have R:Hid (ldT K a=none):=by show ldT K a=none;unfold ldT;rw[o]
  clear o;go_wp2_with (first|(refine BD rfl 116 _ rfl f rfl 116 tr1.toArray (0,0) _ X underlying116 rfl ag ?_)|(refine BO rfl 116 _ _ rfl rb tr1.toArray rfl rfl 116 _ I ag rfl (df ov) ?_));refine BB (v:= .tuple #[.agg tr1.toArray,.bool false]) ?_ rfl ⟨ak.out.2,tr1,rfl,ov,u5 ⟨R.out,rfl⟩⟩;exact cI results69 _ _ rb 116 tr1.toArray _ rfl U underlying116 rfl ag rfl
 |true=>
 have H:=gK o;by_cases W:a=0
 ·have R:Hid (ldT K a=some none):=by show ldT K a=some none;unfold ldT;rw[o,BC W]
  subst W;clear o;go_wp2_with (first|(refine BD rfl 116 _ rfl f rfl 116 tr1.toArray (0,0) _ X underlying116 rfl ag ?_)|(refine BO rfl 116 _ _ rfl rb tr1.toArray rfl rfl 116 _ I ag rfl (df ov) ?_));refine BB (v:= .tuple #[.agg tr1.toArray,.bool true]) ?_ rfl ⟨ak.out.2,tr1,rfl,ov,u4 (u5 ⟨R.out,rfl,rfl⟩)⟩;exact cI results69 _ _ rb 116 tr1.toArray _ rfl U underlying116 rfl ag rfl
 ·have dr:(a==0)=false:=by simp[W]
  have R:Hid (ldT K a=(rdT (pgD K) (nPg K+1) 0 ⟨[], -1⟩ a).bind fun x=>if okT x.1 true (strOfNums []) (strOfNums [])=true then some (some x.1)else none):=by show ldT K a= _;unfold ldT;rw[o,BX W]
  have ce:=kO cL.out H;have cV:=H.1.2.1;clear U o;have am:=qn d K bE (cM.out bE ak.out.1) H;unfold av at am;go_wp2_with (refine BD rfl 35 _ rfl w.1.size rfl 35 #[.slice d.sa K.n d.sc,.slice d.pa K.m d.pc] (0,0) _ a2 underlying35 rfl cz ?_);refine am.mono ?_;rintro e bF ⟨B,D,rfl,ch,cq⟩;have c4:=qN cL.out H cq;have dF:=(BS cq B rfl).1;have cv:=bAl bF (.cells #[.slice (some ⟨B,0,none⟩) K.n D] 136);have c0:=aq bF 136 #[.slice (some ⟨B,0,none⟩) K.n D];have bC:=ch.trans (cv.mono ch.size);have c5:=c4.below cv;clear am ch cq c4 cv;go_upto_region 7 with fail
  generalize bF.alloc (.cells #[.slice (some ⟨B,0,none⟩) K.n D] 136)=c9 at*;have b4:=c0;generalize cX:bF.1.size=ds at*;clear c0 cX;have ap:=kQ d K c9 cV;unfold av at ap;have b5:=a2.below bC;go_wp2_with (refine BD rfl 35 _ rfl w.1.size rfl 35 #[.slice d.sa K.n d.sc,.slice d.pa K.m d.pc] (0,0) _ b5 underlying35 rfl cz ?_);refine ap.mono ?_;rintro e h ⟨rfl,bl⟩;have dE:=ce.le;have c8:=jG (nPg K) t7 h;have af:=bAl h (.cells (madeCells #[.bool false] (nPg K)) 4);have c2:=jH h.1.size (nPg K) t7 h t1;have bd:=bC.trans (bl.mono bC.size);have bs:=ak.out.1.trans (bd.mono ak.out.1.size);have J:=(X.below bd).below af;have c6:=c5.below bl;have b8:=(b4.below bl).below af;have dS:=bd.size;have dc:(h.alloc (.cells (madeCells #[.bool false] (nPg K)) 4)).cell? ⟨f,2,none⟩=some (.slice none 0 0):=J.cell 2;have dd:=J.free 2;have a9:=ax (h.alloc (.cells (madeCells #[.bool false] (nPg K)) 4)) f 2 (.slice (some ⟨h.1.size,0,none⟩) (nPg K) (nPg K));have a7:∀t,116≠t->KeepT t (h.alloc (.cells (madeCells #[.bool false] (nPg K)) 4)) _:=fun t cm=>aw a9 J cm;have bc:TSt h.1.size f h.1.size (nPg K) (-1) ((h.alloc (.cells (madeCells #[.bool false] (nPg K)) 4)).setCell ⟨f,2,none⟩ (.slice (some ⟨h.1.size,0,none⟩) (nPg K) (nPg K))) [] (fun _=>aF) none 0 [] (-1) false:=
   ⟨J.set 2 _,c2.keep (a7 _ uv),lJ _ _ _ _ _,fun i cl=>absurd cl (w8 _),u9 af.size a9.size,⟨ya,fun x hx=>by simp at hx⟩⟩
  have b9:=b8.keepT (a7 _ uv);have bf:=(Below.onlyB af f).trans a9;have cT:ma (pgD K) (.slice (some ⟨B,0,none⟩) K.n D) f h:=fun u q t=>by
   have da:=bs.trans (q.below t7 bs.size);exact qM d K t B D u (cM.out u da) H (c6.only q t7)
  have cS:=vM (pgD K) (nPg K) h.1.size f h.1.size (-1) (.slice (some ⟨B,0,none⟩) K.n D) h ce cT t1 (nPg K+1) 0 a [] (fun _=>aF) none 0 [] (-1) _ bf bc uB uB;have b6:=((I.below bd).below af).only a9 t7;have M:=t6 bc (u2 bf (u2 b6 bs));have c3:(prog.info? 136).map (·.size)=some (#[Value.slice (some ⟨B,0,none⟩) K.n D]:Array Value).size:=uA;clear ap bl af c2 bC bd bs J c5 c6 b8 a9 a7 bc bf cT b6 b5 a2 I X b4;generalize bW:nPg K=N at*;have bS:Hid _:=bW;clear bW;go_upto_region 8 with fail
  clear c8 dc dd;generalize (h.alloc (.cells (madeCells #[.bool false] N) 4)).setCell ⟨f,2,none⟩ (.slice (some ⟨h.1.size,0,none⟩) N N)=dU at*;go_wp2_with (refine BD rfl 136 _ rfl ds rfl 136 #[.slice (some ⟨B,0,none⟩) K.n D] (0,0) _ b9 underlying136 rfl c3 ?_);refine cS.mono ?_;rintro e bP dl;obtain⟨p,ms,a8,Y,Z,n,m,Q,rfl,cD⟩:=dl;have s:=cD.st;have bY:=cD.le;have S:=cD.res;rw[w4]at s bY S;have bX:=cD.fr.onlyG M.out.1 t1 M.out.2.1;have b7:Blk bP 116 rb trz:=(cD.fr.block rb M.out.2.2.1.lt t7 t7 (by intro e;cases e)).trans M.out.2.2.1;have db:bP.cell? ⟨f,1,none⟩=some (.int .i64 (-1)):=s.blk.cell 1;have f1:=s.blk.free 1;have cr:=ax bP f 1 (.int .i64 p);have bb:=s.setRt p;have a3:=b7.only cr t7;have ck:=M.out.2.2.2.trans ((bX.trans cr).below t7 M.out.2.2.2.size);have cW:ms.length<=1048576:=by have:=s.ok.le;omega
  have cP:Hid (ms.length<=N):=by show ms.length<=N;have:=s.ok.le;omega
  have c7:Hid _:=S;clear cD cS s bY S bX b7 cr M b9 c3;go_upto_region 9 with fail
  clear db f1;generalize bP.setCell ⟨f,1,none⟩ (.int .i64 p)=aA at*;have bu:=bDr aA;have ab:=bb.belowT bu;have a4:=a3.below bu;have aS:=ck.trans (bu.mono ck.size);obtain⟨cs,l⟩:=aa (trc Y ms.length Z p h.1.size N m Q);have ba:(prog.info? 116).map (·.size)=some cs.toArray.size:=by rw[l];exact ou
  have cb:trz.toArray.size=cs.toArray.size:=by rw[l];rfl
  have C:∀u∈cs,u.oneCell'=true:=by rw[l];intro u q;simp[trc]at q;rcases q with rfl|rfl|rfl|rfl|rfl<;>rfl
  have bR:Hid _:=l;have aX:Hid (cs.length=5):=by show cs.length=5;rw[l];rfl
  have V:Hid (∀u:World,Blk u 116 f cs->(Instr.loadAt 116 (.pointer (some ⟨f,0,none⟩))).run prog u= .ok (.agg cs.toArray) u/\u.cell? ⟨f,4,none⟩=some (.bool Q)/\u.cell? ⟨f,1,none⟩=some (.int .i64 p)):=fun u q=>by
   refine⟨?_,(q.cell 4).trans (by rw[l];rfl),(q.cell 1).trans (by rw[l];rfl)⟩;simp only[Instr.loadAt,Instr.sureAddr,B3,Ct,Result.andThen];exact C3 u f 116 116 cs.toArray (0,0) _ q underlying116 rfl ba
  have bv:Blk aA.drew 116 f cs:=by rw[l];exact ab.blk
  clear l;refine az (fun u=>(Instr.loadAt 116 (.pointer (some ⟨f,0,none⟩))).run prog u= .ok (.agg cs.toArray) u/\u.cell? ⟨f,4,none⟩=some (.bool Q)/\u.cell? ⟨f,1,none⟩=some (.int .i64 p)) (fun k=>false) uA ?_;generalize aA.drew=cg at*;have c:=V.out cg bv;clear bb a3 ck bu;rcases c7.out with⟨ae,T,y,dI,bZ⟩|⟨ae,y⟩
  ·subst ae;replace y:rdT (pgD K) (N+1) 0 ⟨[], -1⟩ a=some (T,⟨n,m⟩):=y;have cf:=iW ce _ _ _ _ _ _ y;have cR:=(n8 (B0:=h.1.size) (g:=f) (sb:=h.1.size) (N:=N) (rt:=p) (ns:=ms) (nv:=a8) (na:=Y) (nc:=Z) (seen:=n) (tall:=m) (bad:=false) cW T).1 cf.isT cf.full cf.sm p (strOfNums []) (strOfNums []) cg ab bZ;generalize a0:okT T true (strOfNums []) (strOfNums [])=ca at*;refine aM 0 (.agg cs.toArray) c ?hya0 ?_
   case hya0=>exact fun u aT=>bo (p:= .pointer (some ⟨f,0,none⟩)) rfl rfl aT.1
   refine au 1 c ?_;refine au 2 c ?_;refine au 3 c ?_;refine au 4 c ?_;refine au 5 c ?_;refine au 6 c ?_;refine ah 7 fun z j=> ?_;go_wp2_with fail;refine cR.mono ?_;rintro e bg ⟨rfl,bm⟩;have L:=ab.belowT bm;have a5:=a4.below bm;have a1:=bv.below bm;have cj:=aS.trans (bm.mono aS.size);have bT:=V.out bg a1;have U:=a5.setRow cs;have r:=du bg rb cs.toArray;have aB:=V.out _ (a1.only r t7);have A:=cj.trans (r.below t7 cj.size);have cc:∀g u,Blk u 116 g cs->Below (bg.setRow rb cs.toArray).1.size (bg.setRow rb cs.toArray) u->TSt w.1.size g h.1.size N p u ms a8 Y Z n m false:=fun g u q ae=>by
    have bx:∀t,116≠t->KeepT t bg u:=fun t cm=>(aw r a5 cm).trans (aV ae);have b0:w.1.size<=h.1.size:=t7;exact⟨by rw[<-bR.out];exact q,(L.mks.keep (bx _ uv)).mono b0,ORow.mono (cw L.nodes (bx _ uv)) b0,fun i cl=>(L.each i cl).keep (bx _ uv) (bx _ uv),u9 A.size ae.size,L.ok⟩
   have bk:=t6 A cc;clear A cc L a1 cj cR r;refine ao j ?_;clear j z;refine au 8 bT ?_;refine ah 9 fun z j=> ?_;refine wp_store_row 116 _ _ rfl rb cs.toArray rfl rfl 116 _ a5 ba cb (df C) ?_;refine ao j ?_;clear j z;refine ah 10 fun z j=> ?_;go_wp2_with fail;refine ao j ?_;clear j z;refine bi ?_;clear c aB bT;go_wp2_with fail;refine BB (v:= .tuple #[.agg cs.toArray,.bool ca]) ?_ rfl ?_
   ·exact cI results69 _ _ rb 116 cs.toArray _ rfl U underlying116 rfl ba rfl
   ·refine⟨bk.out.1,cs,aX.out,C,?_⟩;cases ca with
    |false=>exact u5 ⟨by rw[R.out,y];simp[a0],rfl⟩
    |true=>
     refine u4 (u4 ⟨T,by rw[R.out,y];simp[a0],⟨?_⟩,rfl⟩);have e:=bS.out;subst e;exact⟨ms,a8,Y,Z,n,m,h.1.size,p,bR.out,by rw[bS.out];exact cP.out,bZ,y,bk.out.2⟩
  ·subst ae;replace y:rdT (pgD K) (N+1) 0 ⟨[], -1⟩ a=none:=y;have U:=a4.setRow cs;have r:=du cg rb cs.toArray;have aB:=V.out _ (bv.only r t7);have A:=aS.trans (r.below t7 aS.size);have bk:Hid _:=A;clear A r ab bv aS;refine aM 0 (.agg cs.toArray) c ?hyc0 ?_
   case hyc0=>exact fun u aT=>bo (p:= .pointer (some ⟨f,0,none⟩)) rfl rfl aT.1
   refine au 1 c ?_;refine au 2 c ?_;refine au 3 c ?_;refine au 4 c ?_;refine aE 5 c ?_;refine aE 6 c ?_;refine aE 7 c ?_;refine au 8 c ?_;refine ah 9 fun z j=> ?_;refine wp_store_row 116 _ _ rfl rb cs.toArray rfl rfl 116 _ a4 ba cb (df C) ?_;refine ao j ?_;clear j z;refine ah 10 fun z j=> ?_;go_wp2_with fail;refine ao j ?_;clear j z;refine bi ?_;clear c aB;go_wp2_with fail;refine BB (v:= .tuple #[.agg cs.toArray,.bool false]) ?_ rfl ?_
   ·exact cI results69 _ _ rb 116 cs.toArray _ rfl U underlying116 rfl ba rfl
   ·exact⟨bk.out,cs,aX.out,C,u5 ⟨by rw[R.out,y];rfl,rfl⟩⟩
def wkc(src:Value)(m:Nat)(tall:Int)(x:LSg):List Value:=[src,.map (some m),.int .i64 tall,.string x.1,.string x.2]
theorem Ep:(prog.info? 62).map (·.size)=some 2:=uA
theorem Eq(es n):IsRow 2 (enF es) n:=⟨fun _ _=>rfl,fun i _ u a=>by simp[enF]at a;rcases a with rfl|rfl<;>rfl⟩
theorem OnlyS.drewN{Z a b}(c:OnlyS Z a b)(n):OnlyS Z a (b.drewN n):=⟨c.os,c.tape,c.output,c.size,c.block⟩
theorem OnlyS.drew{Z a b}(c:OnlyS Z a b):OnlyS Z a b.drew:=⟨c.os,c.tape,c.output,c.size,c.block⟩
def WeP(l:List Int)(x:LSg)(g gc:Nat)(src:Value)(m:Nat)(tall:Int)(w:World)(e:Ending)(w':World):Prop:=
 OnlyS (fun k=>k=g\/k=gc) w w'/\((∃es a c z,leR l x=some (es,z)/\e= .returned (.slice a es.length c)/\ORow 62 2 w.1.size w' a es.length c (enF es)/\Blk w' 234 g (wkc src m tall z))\/(leR l x=none/\e= .panicked bI))
theorem oy{e s B w a n c f}(k:ORow e s B w a n c f)(m:0<n):∃g,a=some ⟨g,0,none⟩/\B<=g/\g<w.1.size:=by
 rcases k.2 with⟨b,l⟩|⟨g,i,j,b,d,h,_⟩
 ·omega
 ·cases b;exact⟨g,rfl,d,(vR.1 h).1⟩
theorem mA(a b):(!Op.bytesLess a.toList b.toList&& !a.toList==b.toList)=sl b a:=by
 cases g:sl b a with
 |true=>
  have d:Op.bytesLess a.toList b.toList=false:=by
   cases f:Op.bytesLess a.toList b.toList with
   |false=>rfl
   |true=>have:=iq (a:=a) (b:=b) (c:=a) f g;rw[lO]at this;cases this
  have f:(a.toList==b.toList)=false:=by
   rw[C8];intro e;rw[pY e,lO]at g;cases g
  rw[d,f];rfl
 |false=>
  cases d:Op.bytesLess a.toList b.toList with
  |true=>rfl
  |false=>
   have:=tQ d g;subst this;simp
theorem Er(e es)(x:LSg):orE (e::es) x=if sl x.1 e.1=true/\sle x.2 e.1=true then orE es (e.1,x.2)else none:=by rw[orE]
theorem Es(g p B l t m tall x w)(q:Blk w 234 g (wkc t m tall x))(a4:Cur w p B l)(a6:B<=w.1.size)(a9:l.length<=1048576)(aS:g≠p):
 Calls prog 166 #[.pointer (some ⟨g,0,none⟩),.pointer (some ⟨p,0,none⟩)] w fun e w'=>WeP l x g p t m tall w e w':=by
 have a8:=q.lt;have bd:=Cv p B l w a4 a6 a9;have ae:Hid _:=q;clear q a4;go_enter func166,ntmps166;go_wp2_with fail;refine bd.mono ?_;rintro e w1 ⟨ab,a1⟩;clear bd;have Y:=Blk.only ae.out ab aS;have ad:=(OnlyS.ofB ab).mono (Z2:=fun k=>k=g\/k=p) (fun k _ e=>u4 e);clear ab ae;rcases a1 with⟨es,a,c,H,P,rfl,o⟩|⟨Q,rfl⟩
 rotate_left
 ·have X:leR l x=none:=by
   unfold leR;rcases Q with e|e<;>rw[e] <;>rfl
  clear Q Y;go_wp2;exact⟨rfl,ad,u4 ⟨X,rfl⟩⟩
 have O:leR l x=(orE es x).map fun bm=>(es,bm):=by
  unfold leR;rw[H,w7,BX (by simpa using P)]
 have ba:=(qX _ _ es t1 H).1;have E:=t6 Y (u2 ad (u2 o O));clear H P Y ad o O;go_wp2_with fail;go_loopw [12] (fun s wr=> ∃(i:Nat)(f:ByteArray),s= .int .i64 i/\i<=es.length/\OnlyS (fun k=>k=g\/k=p) w wr/\Blk wr 234 g (wkc t m tall (f,x.2))/\ORow 62 2 w.1.size wr a es.length c (enF es)/\orE es x=orE (es.drop i) (f,x.2)) (fun s _=>es.length-(intOf s).toNat)
 case atStart=>exact⟨0,x.1,by rfl,t7,E.out.2.1,E.out.1,E.out.2.2.1,by rfl⟩
 case round=>
  obtain⟨i,f,rfl,bl,K,q,o,A⟩:=hrel;obtain⟨y,a3⟩:=aa wr;subst a3;have L:Hid _:=E.out.2.2.2;clear E;by_cases I:i<es.length
  ·have bb:(i:Int)< (es.length:Int):=t7;obtain⟨b,rfl,bf,bg⟩:=oy o t7;have z:=fun j v bc=>(o.reads (Eq es _)).cells i I j v bc;rw[show enF es i=[.string (es.getD i e0).1,.string (es.getD i e0).2]from rfl]at z;have N:es.drop i=es.getD i e0::es.drop (i+1):=by
    rw[x4 I];simp[List.getD,I]
   generalize es.getD i e0=d at*;have an:y.cell? ⟨b,i*2,none⟩=some (.string d.1):=by have:=z 0 _ rfl;simpa using this
   have ap:y.cell? ⟨b,i*2+1,none⟩=some (.string d.2):=by have:=z 1 _ rfl;simpa using this
   clear z;have J:=Er d (es.drop (i+1)) (f,x.2);rw[<-N]at J;have Z:=aq y 62 #[.string d.1,.string d.2];have ac:=bAl y (.cells #[.string d.1,.string d.2] 62);have r:=q.below ac;have n:=t6 K (u2 o (u2 A (u2 J ac)));clear K o A J N q ac;go_upto_region 5 with(first|(refine bt rfl 62 _ _ rfl y #[.string (strOfNums []),.string (strOfNums [])] #[.string d.1,.string d.2] 62 rfl rfl Ep rfl rfl ?_))
   change Code.wp _ _ _ _ (y.alloc (.cells #[.string d.1,.string d.2] 62));generalize y.alloc (.cells #[.string d.1,.string d.2] 62)=h at*;generalize G:y.1.size=F at*;have ag:h.cell? ⟨F,0,none⟩=some (.string d.1):=Z.cell 0;have ak:h.cell? ⟨g,3,none⟩=some (.string f):=r.cell 3;have am:h.cell? ⟨g,4,none⟩=some (.string x.2):=r.cell 4;have bk:=r.free 3;have af:=t6 r Z;clear r Z an ap;by_cases V:sl f d.1=true/\sle x.2 d.1=true
   ·obtain⟨C,U⟩:=V;have M:=(mA d.1 f).trans C;have aA:Op.bytesLess d.1.toList x.2.toList=false:=by unfold sle sl at U;simpa using U
    go_quiet (first|(go_at_call 145;exact Calls.quiet_of_same (ez _)))
    go_wp2;have aB:=(n.out.1.trans (OnlyS.ofBelow (by rw[G];exact n.out.2.2.2.2))).drewN nq;have aX:Blk (h.drewN nq) 234 g (wkc t m tall (f,x.2)):=af.out.1;have a0:=aX.set 3 (.string d.1);have R:=ax (h.drewN nq) g 3 (.string d.1);go_roundw
    case rel=>
     refine⟨i+1,d.1,by go_num,t7,aB.trans ((OnlyS.ofB R).mono (fun k _ e=>u5 e)),a0,?_,?_⟩
     ·have a2:=n.out.2.1.below (by rw[G];exact gx n.out.2.2.2.2 nq);exact a2.onlyN R a8
     ·rw[n.out.2.2.1,n.out.2.2.2.1,BC ⟨C,U⟩]
    case measure=>simp[intOf];omega
   ·have S:Hid (leR l x=none):=by
     show leR l x=none;rw[L.out,n.out.2.2.1,n.out.2.2.2.1,BX V]
     rfl
    have D:Hid (WeP l x g p t m tall w (.panicked bI) h.drew):=⟨(n.out.1.trans (OnlyS.ofBelow (by rw[G];exact n.out.2.2.2.2))).drew,u4 ⟨S.out,rfl⟩⟩;cases C:sl f d.1 with
    |false=>
     have M:=(mA d.1 f).trans C;refine az (fun u=>u.cell? ⟨F,0,none⟩=some (.string d.1)/\u.cell? ⟨g,3,none⟩=some (.string f)/\u.cell? ⟨g,4,none⟩=some (.string x.2)) (fun k=>decide (16<=k)) uA ?_;have cs:h.drew.cell? ⟨F,0,none⟩=some (.string d.1)/\h.drew.cell? ⟨g,3,none⟩=some (.string f)/\h.drew.cell? ⟨g,4,none⟩=some (.string x.2):=⟨ag,ak,am⟩;refine ai 0 cs ?_;refine ai 1 cs ?_;refine ai 2 cs ?_;refine ai 3 cs ?_;refine ai 4 cs ?_;refine ai 5 cs ?_;refine ai 6 cs ?_;refine ai 7 cs ?_;refine aE 8 cs ?_;refine aE 9 cs ?_;refine aE 10 cs ?_;refine aE 11 cs ?_;refine aE 12 cs ?_;refine aE 13 cs ?_;refine aE 14 cs ?_;refine ai 15 cs ?_;refine ah 16 fun a5 a7=> ?_;go_wp2_with fail;refine(fi _).mono ?_;rintro e w' ⟨rfl,rfl⟩;go_wp2;exact⟨rfl,D.out⟩
    |true=>
     have aA:Op.bytesLess d.1.toList x.2.toList=true:=by
      cases a4:Op.bytesLess d.1.toList x.2.toList with
      |true=>rfl
      |false=>exact absurd ⟨C,by unfold sle sl;rw[a4];rfl⟩ V
     have M:=(mA d.1 f).trans C;refine az (fun u=>u.cell? ⟨F,0,none⟩=some (.string d.1)/\u.cell? ⟨g,3,none⟩=some (.string f)/\u.cell? ⟨g,4,none⟩=some (.string x.2)) (fun k=>decide (16<=k)) uA ?_;have cs:h.drew.cell? ⟨F,0,none⟩=some (.string d.1)/\h.drew.cell? ⟨g,3,none⟩=some (.string f)/\h.drew.cell? ⟨g,4,none⟩=some (.string x.2):=⟨ag,ak,am⟩;refine ai 0 cs ?_;refine ai 1 cs ?_;refine ai 2 cs ?_;refine ai 3 cs ?_;refine ai 4 cs ?_;refine ai 5 cs ?_;refine ai 6 cs ?_;refine ai 7 cs ?_;refine ai 8 cs ?_;refine ai 9 cs ?_;refine ai 10 cs ?_;refine ai 11 cs ?_;refine ai 12 cs ?_;refine ai 13 cs ?_;refine ai 14 cs ?_;refine ai 15 cs ?_;refine ah 16 fun a5 a7=> ?_;go_wp2_with fail;refine(fi _).mono ?_;rintro e w' ⟨rfl,rfl⟩;go_wp2;exact⟨rfl,D.out⟩
  ·have aT:i=es.length:=t7;subst aT;have W:Hid (leR l x=some (es,(f,x.2))):=by
    show leR l x=some (es,(f,x.2));rw[L.out,A,List.drop_length,orE]
    rfl
   have T:=t6 K (u2 o q);clear K o q A;go_wp2_with fail;go_ret;exact⟨T.out.1,u5 ⟨es,a,c,(f,x.2),W.out,rfl,T.out.2.1,T.out.2.2⟩⟩
theorem oz{M}:∀{ls sn:List Int},mOk M ls sn=true↔(∀x∈ls,2<=x/\x< (M:Int)/\x∉sn)/\ls.Nodup
 |[],sn=>by simp[mOk]
 |x::ls,sn=>by
  rw[mOk];by_cases d:x<2\/(M:Int)<=x\/sn.contains x=true
  ·rw[BC d];constructor
   ·intro d;cases d
   ·rintro⟨b,_⟩;have:=b x (List.mem_cons_self);rw[w5]at d;rcases d with d|d|d
    ·omega
    ·omega
    ·exact absurd d this.2.2
  ·rw[BX d,oz (ls:=ls) (sn:=x::sn),y1];rw[w5]at d;constructor
   ·rintro⟨b,e⟩;refine⟨fun y c=> ?_,fun hx=>(b x hx).2.2 (List.mem_cons_self),e⟩;rcases wA.1 c with rfl|c
    ·exact⟨t7,t7,fun a=>d (u4 (u4 a))⟩
    ·have:=b y c;exact⟨this.1,this.2.1,fun a=>this.2.2 (zs _ a)⟩
   ·rintro⟨b,e,f⟩;refine⟨fun y c=> ?_,f⟩;have:=b y (zs _ c);refine⟨this.1,this.2.1,fun a=> ?_⟩;rcases wA.1 a with rfl|a
    ·exact e c
    ·exact this.2.2 a
def upF(a:Nat)(n:Nat):List Int:=(List.range n).map fun i=>((a+i:Nat):Int)
theorem wL(a n):upF a (n+1)=(a:Int)::upF (a+1) n:=by
 unfold upF;rw[List.range_succ_eq_map,vo,List.map_map];congr 1;apply List.map_congr_left;intro i _;simp only[Function.comp];congr 1;omega
theorem wM:∀(a:Nat)(l:List Int),l.Pairwise (· < ·)->(∀x∈l,(a:Int)<=x/\x< ((a+l.length:Nat):Int))->l=upF a l.length
 |a,[],_,_=>rfl
 |a,x::xs,c,e=>by
  rw[y0]at c;have hx:=e x List.mem_cons_self;have b:=wM (a+1) xs c.2 (fun y d=>by
   have g:=c.1 y d;have h:=e y (zs _ d);rw[wQ]at h;have i:=hx.1;constructor<;>omega)
  have f:x=(a:Int):=by
   cases xs with
   |nil=>simp at hx;omega
   |cons y j=>
    rw[wQ,wL]at b;have d:=(List.cons.inj b).1;have g:=c.1 y List.mem_cons_self;omega
  rw[wQ,wL,<-b,f]
theorem Et{a n x}:x∈upF a n↔(a:Int)<=x/\x< ((a+n:Nat):Int):=by
 unfold upF;rw[xC];constructor
 ·rintro⟨i,b,rfl⟩;have:=wS.1 b;constructor<;>omega
 ·rintro⟨c,d⟩;exact⟨x.toNat-a,wS.2 t7,t7⟩
theorem Eu(a n):(upF a n).Nodup:=by
 unfold upF List.Nodup;rw[List.pairwise_map];exact List.nodup_range.imp (fun b e=>b t7)
theorem Ev(a n):(upF a n).length=n:=by simp[upF]
def srt(l:List Int):List Int:=l.mergeSort fun x y=>decide (x<=y)
theorem oE(l):(srt l).Perm l:=List.mergeSort_perm _ _
theorem iX(l):(srt l).length=l.length:=(oE l).length_eq
theorem Ew(l):(srt l).Pairwise (· <= ·):=by
 have:=List.pairwise_mergeSort (le:=fun x y:Int=>decide (x<=y)) (fun a b c e f=>by simp at*;omega) (fun a b=>by simp;omega) l;exact this.imp (fun d=>by simpa using d)
def eS(l:List Int)(M:Nat):Bool:=(srt l==upF 2 l.length)&&(2+l.length==M)
theorem Ex{l M}:eS l M=true↔((∀x∈l,2<=x/\x< (M:Int))/\l.Nodup)/\2+l.length=M:=by
 unfold eS;rw[wz,beq_iff_eq,beq_iff_eq];constructor
 ·rintro⟨j,d⟩;have c:=oE l;rw[j]at c;refine⟨⟨fun x hx=> ?_,c.nodup_iff.1 (Eu _ _)⟩,d⟩;have:=Et.1 (c.mem_iff.2 hx);constructor<;>omega
 ·rintro⟨⟨e,f⟩,d⟩;refine⟨?_,d⟩;have c:=oE l;have i:(srt l).Pairwise (· < ·):=by
   have g:=Ew l;have h:=c.nodup_iff.2 f;exact List.Pairwise.imp₂ (fun a b(j:a<=b)(k:a≠b)=>by omega) g h
  have:=wM 2 (srt l) i (fun x hx=>by
   have:=e x (c.mem_iff.1 hx);rw[iX];constructor<;>omega)
  rw[iX]at this;exact this
theorem wN{sn N x}:x∈mkd sn N↔x∈sn/\0<=x/\x< (N:Int):=by
 unfold mkd;rw[xC];constructor
 ·rintro⟨i,a,rfl⟩;rw[List.mem_filter]at a;exact⟨w5.1 a.2,t7,by have:=wS.1 a.1;omega⟩
 ·rintro⟨b,c,d⟩;have e:((x.toNat:Nat):Int)=x:=t7;exact⟨x.toNat,List.mem_filter.2 ⟨wS.2 t7,by rw[e];exact w5.2 b⟩,e⟩
theorem Ey(sn N):(mkd sn N).Nodup:=by
 unfold mkd List.Nodup;rw[List.pairwise_map];exact(List.nodup_range.filter _).imp (fun a e=>a t7)
theorem ru{sn}{N:Nat}(b:∀x∈sn,0<=x/\x< (N:Int))(c:sn.Nodup):(mkd sn N).Perm sn:=by
 rw[List.perm_ext_iff_of_nodup (Ey _ _) c];intro x;rw[wN];exact⟨fun a=>a.1,fun a=>⟨a,b x a⟩⟩
def mrk(M:Nat)(t f o:List Int):Bool:=mOk M t []&&mOk M f (t.reverse++[])&&mOk M o (f.reverse++(t.reverse++[]))&&((mkd (o.reverse++(f.reverse++(t.reverse++[]))) M).length+2==M)
theorem Ez{M t e f o}(v:e.Perm t):mrk M t f o=eS (e++(f++o)) M:=by
 have h:(e++(f++o)).Perm (t++(f++o)):=v.append_right _;have w:mrk M t f o=true↔eS (e++(f++o)) M=true:=by
  rw[Ex];unfold mrk;rw[wz,wz,wz,oz,oz,oz,beq_iff_eq,h.nodup_iff,h.length_eq];have u:(∀x∈e++(f++o),2<=x/\x< (M:Int))↔(∀x∈t++(f++o),2<=x/\x< (M:Int)):=⟨fun a x hx=>a x (h.mem_iff.2 hx),fun a x hx=>a x (h.mem_iff.1 hx)⟩;rw[u];have s:(o.reverse++(f.reverse++(t.reverse++[])))=(t++(f++o)).reverse:=by simp
  rw[s];have p:((((∀x∈t,2<=x/\x< (M:Int)/\x∉[])/\t.Nodup)/\(∀x∈f,2<=x/\x< (M:Int)/\x∉t.reverse++[])/\f.Nodup)/\(∀x∈o,2<=x/\x< (M:Int)/\x∉f.reverse++(t.reverse++[]))/\o.Nodup)↔((∀x∈t++(f++o),2<=x/\x< (M:Int))/\(t++(f++o)).Nodup):=by
   simp only[zd,wE,wi,List.mem_reverse,not_or];constructor
   ·rintro⟨⟨⟨n,j⟩,k,l⟩,g,m⟩;refine⟨fun x hx=> ?_,j,⟨l,m,?_⟩,?_⟩
    ·rcases hx with a|a|a
     ·exact⟨(n x a).1,(n x a).2.1⟩
     ·exact⟨(k x a).1,(k x a).2.1⟩
     ·exact⟨(g x a).1,(g x a).2.1⟩
    ·rintro x hx y b rfl;exact(g x b).2.2.1 hx
    ·rintro x hx y b rfl;rcases b with a|a
     ·exact(k x a).2.2 hx
     ·exact(g x a).2.2.2 hx
   ·rintro⟨a,j,⟨l,m,q⟩,i⟩;exact⟨⟨⟨fun x hx=>⟨(a x (u5 hx)).1,(a x (u5 hx)).2,List.not_mem_nil⟩,j⟩,fun x hx=>⟨(a x (u4 (u5 hx))).1,(a x (u4 (u5 hx))).2,fun b=>i x b x (u5 hx) rfl⟩,l⟩,fun x hx=>⟨(a x (u4 (u4 hx))).1,(a x (u4 (u4 hx))).2,fun b=>q x b x hx rfl,fun b=>i x b x (u4 hx) rfl⟩,m⟩
  rw[p];constructor
  ·rintro⟨⟨c,d⟩,r⟩;refine⟨⟨c,d⟩,?_⟩;have:=(ru (sn:=(t++(f++o)).reverse) (N:=M) (fun x hx=>by have:=c x (List.mem_reverse.1 hx);constructor<;>omega) ((List.reverse_perm _).nodup_iff.2 d)).length_eq;rw[List.length_reverse]at this;omega
  ·rintro⟨⟨c,d⟩,r⟩;refine⟨⟨c,d⟩,?_⟩;have:=(ru (sn:=(t++(f++o)).reverse) (N:=M) (fun x hx=>by have:=c x (List.mem_reverse.1 hx);constructor<;>omega) ((List.reverse_perm _).nodup_iff.2 d)).length_eq;rw[List.length_reverse]at this;omega
 cases c:mrk M t f o<;>cases d:eS (e++(f++o)) M<;>simp_all
