import Derived.Test.YtglbanolhhjjiaaGreatDoorFo20
import Derived.Test.YtglbanolhhjjiaaGreatDoorFo14
import Derived.Test.YtglbanolhhjjiaaGreatDoorFo11
namespace Go.Proofs.YtglbanolhhjjiaaGreatDoor
open Go.Proofs.Tryz
open Go.RowKit
set_option linter.unusedVariables false
set_option maxRecDepth 100000
set_option maxHeartbeats 32000000
theorem Em:(prog.info? 4).map (fun i=>(i.zero,i.size,i.bytes))=some (some (.bool false),1,1):=vk
theorem jG(k:Nat)(f:k<=1048576)(w):
 (Instr.makeSlice 111 (.int .i64 (k:Int)) (.int .i64 (k:Int))).run prog w= .ok (.slice (some ⟨w.1.size,0,none⟩) k k) (w.alloc (.cells (madeCells #[.bool false] k) 4)):=by
 obtain⟨i,d,a,b,c⟩:=DB Em;have e:=run_make (P:=prog) w 111 4 i _ underlying111 d a .i64 .i64 k k uA (A4 _) (by rw[c];omega) uA;rw[e,b];simp[Value.cells]
theorem Eo(N):mkB [] N=List.replicate N (Value.bool false):=by
 apply zb;intro i;by_cases h:i<N
 ·simp[mkB,h]
 ·simp[mkB,h]
theorem jH(B k)(b:k<=1048576)(w:World)(a:B<=w.1.size):Own1 4 B (w.alloc (.cells (madeCells #[.bool false] k) 4)) (some ⟨w.1.size,0,none⟩) k k (mkB [] k):=by
 refine⟨by rw[uV];omega,v6 ⟨w.1.size,k,madeCells #[.bool false] k,rfl,a,D6 w _,t6,by unfold maxLen;omega,?_,?_⟩⟩
 ·have:=C1 List.length (toList_madeCells_one (Value.bool false) k);simpa using this
 ·rw[toList_madeCells_one,Eo,Nat.mul_one];simp
theorem ou:(prog.info? 116).map (·.size)=some 5:=vk
theorem gD:(prog.info? 35).map (·.size)=some 2:=vk
noncomputable def pgD(K:DK):Pg:=⟨vK K,vL K,vB K⟩
def nPg(K:DK):Nat:=K.n/4
theorem kO{w d K}(h:RDisk w d K)(a:dOk K):PgW (pgD K) (nPg K):=by
 refine⟨fun t e=> ?_,fun t=>ml h t,fun t=>wg (mn a t) uA,by unfold nPg;have:=a.1.2.1;omega⟩;by_cases b:eD K t
 ·unfold eD at b;unfold nPg;omega
 ·have c:vB K t=false:=by unfold vB;rw[ij b]
  have:vB K t=true:=e;rw[c]at this;cases this
theorem kQ(d K w)(c:K.n<=4096):
 Calls prog 64 #[av d K] w fun e w'=>e= .returned (.int .i64 (nPg K:Nat))/\Below w.1.size w w':=by
 have a:Hid _:=(B2 w.1.size w).alloc t6 (.cells #[.slice d.sa K.n d.sc,.slice d.pa K.m d.pc] 35);have f:(K.n:Int).tdiv 4=((nPg K:Nat):Int):=by rw[z2 uA];unfold nPg;omega
 have b:nPg K<=1024:=by unfold nPg;omega
 generalize nPg K=N at*;unfold av;go_enter func64,ntmps64;go_wp2;go_ret;exact⟨rfl,a.out⟩
noncomputable def ldT(K:DK)(root:Int):Option (Option Tr):=
 match aR K with
 |false=>none
 |true=>if root=0 then some none else(rdT (pgD K) (nPg K+1) 0 ⟨[], -1⟩ root).bind fun x=>if okT x.1 true (strOfNums []) (strOfNums [])=true then some (some x.1)else none
structure LdT(K:DK)(root:Int)(B:Nat)(w:World)(cs:List Value)(T:Tr):Prop where
 ex:∃ns nv na nc seen tall sb p,cs=trc na ns.length nc p sb (nPg K) tall false/\ns.length<=nPg K/\Rep ns T true [p] []/\rdT (pgD K) (nPg K+1) 0 ⟨[], -1⟩ root=some (T,⟨seen,tall⟩)/\
  ∀g u,Blk u 116 g cs->Below w.1.size w u->TSt B g sb (nPg K) p u ns nv na nc seen tall false
theorem TSt.setRt{B0 g sb N rt w ns nv na nc seen tall bad}(h:TSt B0 g sb N rt w ns nv na nc seen tall bad)(p):TSt B0 g sb N p (w.setCell ⟨g,1,none⟩ (.int .i64 p)) ns nv na nc seen tall bad:=by
 have b:=ax w g 1 (.int .i64 p);have a:∀t,116≠t->KeepT t w (w.setCell ⟨g,1,none⟩ (.int .i64 p)):=fun t d=>aw b h.blk d;exact⟨h.blk.set 1 (.int .i64 p),h.mks.keep (a _ uB),cw h.nodes (a _ uB),fun i c=>(h.each i c).keep (a _ uB) (a _ uB),wg h.gB b.size,h.ok⟩
theorem VRow.only{w w' d K b g}(h:VRow w d K b)(e:OnlyB g w w')(c:b≠g):VRow w' d K b:=
 ⟨wQ h.1 e.size,fun t f=>by rw[C5 (a:=⟨b,t,none⟩) (e.block b h.1 c)];exact h.2 t f⟩
def trz:List Value:=[.slice none 0 0,.int .i64 0,.slice none 0 0,.int .i64 0,.bool false]
def tr1:List Value:=[.slice none 0 0,.int .i64 (-1),.slice none 0 0,.int .i64 (-1),.bool false]
theorem ov:∀u∈tr1,u.oneCell'=true:=by intro u a;simp[tr1]at a;rcases a with rfl|rfl|rfl|rfl|rfl<;>rfl
theorem df{cs:List Value}(h:∀u∈cs,u.oneCell'=true):cs.toArray.all (·.oneCell')=true:=by
 rw[Array.all_eq_true_iff_forall_mem];intro v a;exact h v (by simpa using a)
def LdP(K:DK)(root:Int)(w:World)(e:Ending)(w':World):Prop:=Below w.1.size w w'/\∃cs:List Value,cs.length=5/\(∀u∈cs,u.oneCell'=true)/\((ldT K root=none/\e= .returned (.tuple #[.agg cs.toArray,.bool false]))\/(ldT K root=some none/\cs=tr1/\e= .returned (.tuple #[.agg cs.toArray,.bool true]))\/∃T,ldT K root=some (some T)/\LdT K root w.1.size w' cs T/\e= .returned (.tuple #[.agg cs.toArray,.bool true]))
theorem wK(d K a w)(h:RDisk w d K):
 Calls prog 69 #[av d K,.int .i64 a] w fun e w'=>LdP K a w e w':=by
 have cL:Hid (∀u,Below w.1.size w u->RDisk u d K):=fun u b=>h.below b;have cD:Hid _:=h;obtain⟨P,F⟩:=aa (w.alloc (.cells #[.slice d.sa K.n d.sc,.slice d.pa K.m d.pc] 35));obtain⟨Q,G⟩:=aa (P.alloc (.cells trz.toArray 116));obtain⟨ad,H⟩:=aa (Q.alloc (.cells tr1.toArray 116));have bz:Below w.1.size w P:=by rw[F];exact bAl _ _
 have bA:Below P.1.size P Q:=by rw[G];exact bAl _ _
 have bB:Below Q.1.size Q ad:=by rw[H];exact bAl _ _
 have cz:P.1.size=w.1.size+1:=by rw[F];simp
 have cA:Q.1.size=w.1.size+2:=by rw[G];simp[cz]
 have cm:=((by rw[F];exact aq w _ _:Blk P 35 w.1.size [.slice d.sa K.n d.sc,.slice d.pa K.m d.pc]).below bA).below bB;have cn:=((by rw[G,<-cz];exact aq P _ _:Blk Q 116 (w.1.size+1) trz).below bB);have c0:Blk ad 116 (w.1.size+2) tr1:=by rw[H,<-cA];exact aq Q _ _
 have bn:=(bz.trans (bA.mono bz.size)).trans (bB.mono (wg bz.size bA.size));have dr:ad.1.size=w.1.size+3:=by rw[H];simp[cA]
 have cv:(prog.info? 35).map (·.size)=some (#[Value.slice d.sa K.n d.sc,Value.slice d.pa K.m d.pc]:Array Value).size:=gD;have ak:(prog.info? 116).map (·.size)=some tr1.toArray.size:=ou;have ap:=jt d K ad (h.below bn);unfold av at ap ⊢;go_enter func69,ntmps69;go_upto_region 2 with fail
 change Code.wp _ _ _ _ (((w.alloc (.cells #[.slice d.sa K.n d.sc,.slice d.pa K.m d.pc] 35)).alloc (.cells trz.toArray 116)).alloc (.cells tr1.toArray 116));rw[<-F,<-G,<-H];have b2:w.1.size+1+1<ad.1.size:=uA;have a7:Blk ad 116 (w.1.size+1+1) tr1:=c0;clear F G H bz bA bB cz cA dr c0;obtain⟨f,b1⟩:=aa (w.1.size+1+1);obtain⟨rb,b0⟩:=aa (w.1.size+1);rw[<-b1]at b2 a7 ⊢;rw[<-b0]at cn ⊢;have dk:w.1.size<rb:=uA;have dl:rb<f:=uA;clear b1 b0;go_wp2_with (refine B5 rfl 35 _ rfl w.1.size rfl 35 #[.slice d.sa K.n d.sc,.slice d.pa K.m d.pc] (0,0) _ cm underlying35 rfl cv ?_);refine ap.mono ?_;rintro e bC ⟨rfl,ae⟩;have br:=bn.trans (ae.mono bn.size);have a3:=cm.below ae;have J:=cn.below ae;have Y:=a7.below ae;have dF:f<bC.1.size:=by have:=ae.size;omega
 have V:=J.setRow tr1;have s:=du bC rb tr1.toArray;have B:=br.trans (s.below uA br.size);have am:=uv br B;clear ap cm cn a7 bn ae br B s b2;cases q:aR K with
 |false=>
  have S:Hid (ldT K a=none):=by show ldT K a=none;unfold ldT;rw[q]
  clear q;go_wp2_with (first|(refine B5 rfl 116 _ rfl f rfl 116 tr1.toArray (0,0) _ Y underlying116 rfl ak ?_)|(refine B8 rfl 116 _ _ rfl rb tr1.toArray rfl rfl 116 _ J ak rfl (df ov) ?_));refine B3 (v:= .tuple #[.agg tr1.toArray,.bool false]) ?_ rfl ⟨am.out.2,tr1,rfl,ov,v7 ⟨S.out,rfl⟩⟩;exact cI results69 _ _ rb 116 tr1.toArray _ rfl V underlying116 rfl ak rfl
 |true=>
 have I:=gK q;by_cases X:a=0
 ·have S:Hid (ldT K a=some none):=by show ldT K a=some none;unfold ldT;rw[q,B4 X]
  subst X;clear q;go_wp2_with (first|(refine B5 rfl 116 _ rfl f rfl 116 tr1.toArray (0,0) _ Y underlying116 rfl ak ?_)|(refine B8 rfl 116 _ _ rfl rb tr1.toArray rfl rfl 116 _ J ak rfl (df ov) ?_));refine B3 (v:= .tuple #[.agg tr1.toArray,.bool true]) ?_ rfl ⟨am.out.2,tr1,rfl,ov,v6 (v7 ⟨S.out,rfl,rfl⟩)⟩;exact cI results69 _ _ rb 116 tr1.toArray _ rfl V underlying116 rfl ak rfl
 ·have dp:(a==0)=false:=by simp[X]
  have S:Hid (ldT K a=(rdT (pgD K) (nPg K+1) 0 ⟨[], -1⟩ a).bind fun x=>if okT x.1 true (strOfNums []) (strOfNums [])=true then some (some x.1)else none):=by show ldT K a= _;unfold ldT;rw[q,CH X]
  have cc:=kO cD.out I;have cT:=I.1.2.1;clear V q;have an:=qn d K bC (cL.out bC am.out.1) I;unfold av at an;go_wp2_with (refine B5 rfl 35 _ rfl w.1.size rfl 35 #[.slice d.sa K.n d.sc,.slice d.pa K.m d.pc] (0,0) _ a3 underlying35 rfl cv ?_);refine an.mono ?_;rintro e bE ⟨C,E,rfl,cg,cp⟩;have c3:=qN cD.out I cp;have dD:=(Ct cp C rfl).1;have cr:=bAl bE (.cells #[.slice (some ⟨C,0,none⟩) K.n E] 136);have cX:=aq bE 136 #[.slice (some ⟨C,0,none⟩) K.n E];have u5:=cg.trans (cr.mono cg.size);have c4:=c3.below cr;clear an cg cp c3 cr;go_upto_region 7 with fail
  generalize bE.alloc (.cells #[.slice (some ⟨C,0,none⟩) K.n E] 136)=c8 at*;have b3:=cX;generalize cW:bE.1.size=dq at*;clear cX cW;have aA:=kQ d K c8 cT;unfold av at aA;have b4:=a3.below u5;go_wp2_with (refine B5 rfl 35 _ rfl w.1.size rfl 35 #[.slice d.sa K.n d.sc,.slice d.pa K.m d.pc] (0,0) _ b4 underlying35 rfl cv ?_);refine aA.mono ?_;rintro e j ⟨rfl,bl⟩;have ds:=cc.le;have c7:=jG (nPg K) uA j;have ag:=bAl j (.cells (madeCells #[.bool false] (nPg K)) 4);have c1:=jH j.1.size (nPg K) uA j t6;have u6:=u5.trans (bl.mono u5.size);have bs:=am.out.1.trans (u6.mono am.out.1.size);have L:=(Y.below u6).below ag;have c5:=c4.below bl;have b7:=(b3.below bl).below ag;have dI:=u6.size;have db:(j.alloc (.cells (madeCells #[.bool false] (nPg K)) 4)).cell? ⟨f,2,none⟩=some (.slice none 0 0):=L.cell 2;have dc:=L.free 2;have ba:=ax (j.alloc (.cells (madeCells #[.bool false] (nPg K)) 4)) f 2 (.slice (some ⟨j.1.size,0,none⟩) (nPg K) (nPg K));have a8:∀t,116≠t->KeepT t (j.alloc (.cells (madeCells #[.bool false] (nPg K)) 4)) _:=fun t cl=>aw ba L cl;have bd:TSt j.1.size f j.1.size (nPg K) (-1) ((j.alloc (.cells (madeCells #[.bool false] (nPg K)) 4)).setCell ⟨f,2,none⟩ (.slice (some ⟨j.1.size,0,none⟩) (nPg K) (nPg K))) [] (fun _=>aF) none 0 [] (-1) false:=
   ⟨L.set 2 _,c1.keep (a8 _ uB),lJ _ _ _ _ _,fun i ck=>absurd ck (xN _),wg ag.size ba.size,⟨y6,fun x hx=>by simp at hx⟩⟩
  have b8:=b7.keepT (a8 _ uB);have bf:=(Below.onlyB ag f).trans ba;have cS:ma (pgD K) (.slice (some ⟨C,0,none⟩) K.n E) f j:=fun u r t=>by
   have c9:=bs.trans (r.below uA bs.size);exact qM d K t C E u (cL.out u c9) I (c5.only r uA)
  have cR:=vM (pgD K) (nPg K) j.1.size f j.1.size (-1) (.slice (some ⟨C,0,none⟩) K.n E) j cc cS t6 (nPg K+1) 0 a [] (fun _=>aF) none 0 [] (-1) _ bf bd vo vo;have b5:=((J.below u6).below ag).only ba uA;have O:=uv bd (vJ bf (vJ b5 bs));have c2:(prog.info? 136).map (·.size)=some (#[Value.slice (some ⟨C,0,none⟩) K.n E]:Array Value).size:=vk;clear aA bl ag c1 u5 u6 bs L c4 c5 b7 ba a8 bd bf cS b5 b4 a3 J Y b3;generalize bT:nPg K=N at*;have bR:Hid _:=bT;clear bT;go_upto_region 8 with fail
  clear c7 db dc;generalize (j.alloc (.cells (madeCells #[.bool false] N) 4)).setCell ⟨f,2,none⟩ (.slice (some ⟨j.1.size,0,none⟩) N N)=dP at*;go_wp2_with (refine B5 rfl 136 _ rfl dq rfl 136 #[.slice (some ⟨C,0,none⟩) K.n E] (0,0) _ b8 underlying136 rfl c2 ?_);refine cR.mono ?_;rintro e bF dd;obtain⟨p,ms,a9,Z,ab,o,n,R,rfl,cB⟩:=dd;have y:=cB.st;have bX:=cB.le;have U:=cB.res;rw[xd]at y bX U;have bW:=cB.fr.onlyG O.out.1 t6 O.out.2.1;have b6:Blk bF 116 rb trz:=(cB.fr.block rb O.out.2.2.1.lt uA uA (by intro e;cases e)).trans O.out.2.2.1;have da:bF.cell? ⟨f,1,none⟩=some (.int .i64 (-1)):=y.blk.cell 1;have f1:=y.blk.free 1;have cq:=ax bF f 1 (.int .i64 p);have bc:=y.setRt p;have a4:=b6.only cq uA;have cj:=O.out.2.2.2.trans ((bW.trans cq).below uA O.out.2.2.2.size);have cV:ms.length<=1048576:=by have:=y.ok.le;omega
  have cM:Hid (ms.length<=N):=by show ms.length<=N;have:=y.ok.le;omega
  have c6:Hid _:=U;clear cB cR y bX U bW b6 cq O b8 c2;go_upto_region 9 with fail
  clear da f1;generalize bF.setCell ⟨f,1,none⟩ (.int .i64 p)=aB at*;have bu:=bDr aB;have ac:=bc.belowT bu;have a5:=a4.below bu;have aT:=cj.trans (bu.mono cj.size);obtain⟨cs,m⟩:=aa (trc Z ms.length ab p j.1.size N n R);have bb:(prog.info? 116).map (·.size)=some cs.toArray.size:=by rw[m];exact ou
  have ca:trz.toArray.size=cs.toArray.size:=by rw[m];rfl
  have D:∀u∈cs,u.oneCell'=true:=by rw[m];intro u r;simp[trc]at r;rcases r with rfl|rfl|rfl|rfl|rfl<;>rfl
  have bP:Hid _:=m;have a0:Hid (cs.length=5):=by show cs.length=5;rw[m];rfl
  have W:Hid (∀u:World,Blk u 116 f cs->(Instr.loadAt 116 (.pointer (some ⟨f,0,none⟩))).run prog u= .ok (.agg cs.toArray) u/\u.cell? ⟨f,4,none⟩=some (.bool R)/\u.cell? ⟨f,1,none⟩=some (.int .i64 p)):=fun u r=>by
   refine⟨?_,(r.cell 4).trans (by rw[m];rfl),(r.cell 1).trans (by rw[m];rfl)⟩;simp only[Instr.loadAt,Instr.sureAddr,CT,C2,Result.andThen];exact DX u f 116 116 cs.toArray (0,0) _ r underlying116 rfl bb
  have bv:Blk aB.drew 116 f cs:=by rw[m];exact ac.blk
  clear m;refine az (fun u=>(Instr.loadAt 116 (.pointer (some ⟨f,0,none⟩))).run prog u= .ok (.agg cs.toArray) u/\u.cell? ⟨f,4,none⟩=some (.bool R)/\u.cell? ⟨f,1,none⟩=some (.int .i64 p)) (fun k=>false) vk ?_;generalize aB.drew=cf at*;have c:=W.out cf bv;clear bc a4 cj bu;rcases c6.out with⟨af,T,z,dE,bY⟩|⟨af,z⟩
  ·subst af;replace z:rdT (pgD K) (N+1) 0 ⟨[], -1⟩ a=some (T,⟨o,n⟩):=z;have ce:=iW cc _ _ _ _ _ _ z;have cP:=(n8 (B0:=j.1.size) (g:=f) (sb:=j.1.size) (N:=N) (rt:=p) (ns:=ms) (nv:=a9) (na:=Z) (nc:=ab) (seen:=o) (tall:=n) (bad:=false) cV T).1 ce.isT ce.full ce.sm p (strOfNums []) (strOfNums []) cf ac bY;generalize a1:okT T true (strOfNums []) (strOfNums [])=b9 at*;refine aM 0 (.agg cs.toArray) c ?hya0 ?_
   case hya0=>exact fun u aX=>bo (p:= .pointer (some ⟨f,0,none⟩)) rfl rfl aX.1
   refine au 1 c ?_;refine au 2 c ?_;refine au 3 c ?_;refine au 4 c ?_;refine au 5 c ?_;refine au 6 c ?_;refine ah 7 fun A l=> ?_;go_wp2_with fail;refine cP.mono ?_;rintro e bg ⟨rfl,bm⟩;have M:=ac.belowT bm;have a6:=a5.below bm;have a2:=bv.below bm;have ch:=aT.trans (bm.mono aT.size);have bS:=W.out bg a2;have V:=a6.setRow cs;have s:=du bg rb cs.toArray;have aS:=W.out _ (a2.only s uA);have B:=ch.trans (s.below uA ch.size);have cb:∀g u,Blk u 116 g cs->Below (bg.setRow rb cs.toArray).1.size (bg.setRow rb cs.toArray) u->TSt w.1.size g j.1.size N p u ms a9 Z ab o n false:=fun g u r af=>by
    have bx:∀t,116≠t->KeepT t bg u:=fun t cl=>(aw s a6 cl).trans (aV af);have bZ:w.1.size<=j.1.size:=uA;exact⟨by rw[<-bP.out];exact r,(M.mks.keep (bx _ uB)).mono bZ,ORow.mono (cw M.nodes (bx _ uB)) bZ,fun i ck=>(M.each i ck).keep (bx _ uB) (bx _ uB),wg B.size af.size,M.ok⟩
   have bk:=uv B cb;clear B cb M a2 ch cP s;refine ao l ?_;clear l A;refine au 8 bS ?_;refine ah 9 fun A l=> ?_;refine wp_store_row 116 _ _ rfl rb cs.toArray rfl rfl 116 _ a6 bb ca (df D) ?_;refine ao l ?_;clear l A;refine ah 10 fun A l=> ?_;go_wp2_with fail;refine ao l ?_;clear l A;refine bi ?_;clear c aS bS;go_wp2_with fail;refine B3 (v:= .tuple #[.agg cs.toArray,.bool b9]) ?_ rfl ?_
   ·exact cI results69 _ _ rb 116 cs.toArray _ rfl V underlying116 rfl bb rfl
   ·refine⟨bk.out.1,cs,a0.out,D,?_⟩;cases b9 with
    |false=>exact v7 ⟨by rw[S.out,z];simp[a1],rfl⟩
    |true=>
     refine v6 (v6 ⟨T,by rw[S.out,z];simp[a1],⟨?_⟩,rfl⟩);have e:=bR.out;subst e;exact⟨ms,a9,Z,ab,o,n,j.1.size,p,bP.out,by rw[bR.out];exact cM.out,bY,z,bk.out.2⟩
  ·subst af;replace z:rdT (pgD K) (N+1) 0 ⟨[], -1⟩ a=none:=z;have V:=a5.setRow cs;have s:=du cf rb cs.toArray;have aS:=W.out _ (bv.only s uA);have B:=aT.trans (s.below uA aT.size);have bk:Hid _:=B;clear B s ac bv aT;refine aM 0 (.agg cs.toArray) c ?hyc0 ?_
   case hyc0=>exact fun u aX=>bo (p:= .pointer (some ⟨f,0,none⟩)) rfl rfl aX.1
   refine au 1 c ?_;refine au 2 c ?_;refine au 3 c ?_;refine au 4 c ?_;refine aE 5 c ?_;refine aE 6 c ?_;refine aE 7 c ?_;refine au 8 c ?_;refine ah 9 fun A l=> ?_;refine wp_store_row 116 _ _ rfl rb cs.toArray rfl rfl 116 _ a5 bb ca (df D) ?_;refine ao l ?_;clear l A;refine ah 10 fun A l=> ?_;go_wp2_with fail;refine ao l ?_;clear l A;refine bi ?_;clear c aS;go_wp2_with fail;refine B3 (v:= .tuple #[.agg cs.toArray,.bool false]) ?_ rfl ?_
   ·exact cI results69 _ _ rb 116 cs.toArray _ rfl V underlying116 rfl bb rfl
   ·exact⟨bk.out,cs,a0.out,D,v7 ⟨by rw[S.out,z];rfl,rfl⟩⟩
def wkc(src:Value)(m:Nat)(tall:Int)(x:LSg):List Value:=[src,.map (some m),.int .i64 tall,.string x.1,.string x.2]
theorem Ep:(prog.info? 62).map (·.size)=some 2:=vk
theorem Eq(es n):IsRow 2 (enF es) n:=⟨fun _ _=>rfl,fun i _ u a=>by simp[enF]at a;rcases a with rfl|rfl<;>rfl⟩
theorem OnlyS.drewN{Z a b}(h:OnlyS Z a b)(n):OnlyS Z a (b.drewN n):=⟨h.os,h.tape,h.output,h.size,h.block⟩
theorem OnlyS.drew{Z a b}(h:OnlyS Z a b):OnlyS Z a b.drew:=⟨h.os,h.tape,h.output,h.size,h.block⟩
def WeP(l:List Int)(x:LSg)(g gc:Nat)(src:Value)(m:Nat)(tall:Int)(w:World)(e:Ending)(w':World):Prop:=
 OnlyS (fun k=>k=g\/k=gc) w w'/\((∃es a c z,leR l x=some (es,z)/\e= .returned (.slice a es.length c)/\ORow 62 2 w.1.size w' a es.length c (enF es)/\Blk w' 234 g (wkc src m tall z))\/(leR l x=none/\e= .panicked bI))
theorem oy{e s B w a n c f}(h:ORow e s B w a n c f)(m:0<n):∃g,a=some ⟨g,0,none⟩/\B<=g/\g<w.1.size:=by
 rcases h.2 with⟨b,l⟩|⟨g,j,k,b,d,i,_⟩
 ·omega
 ·cases b;exact⟨g,rfl,d,(wy.1 i).1⟩
theorem mA(a b):(!Op.bytesLess a.toList b.toList&& !a.toList==b.toList)=sl b a:=by
 cases h:sl b a with
 |true=>
  have d:Op.bytesLess a.toList b.toList=false:=by
   cases f:Op.bytesLess a.toList b.toList with
   |false=>rfl
   |true=>have:=iq (a:=a) (b:=b) (c:=a) f h;rw[lO]at this;cases this
  have f:(a.toList==b.toList)=false:=by
   rw[D2];intro e;rw[pY e,lO]at h;cases h
  rw[d,f];rfl
 |false=>
  cases d:Op.bytesLess a.toList b.toList with
  |true=>rfl
  |false=>
   have:=tQ d h;subst this;simp
theorem Er(e es)(x:LSg):orE (e::es) x=if sl x.1 e.1=true/\sle x.2 e.1=true then orE es (e.1,x.2)else none:=by rw[orE]
theorem Es(g q B l y m tall x w)(r:Blk w 234 g (wkc y m tall x))(h:Cur w q B l)(a6:B<=w.1.size)(a9:l.length<=1048576)(aT:g≠q):
 Calls prog 166 #[.pointer (some ⟨g,0,none⟩),.pointer (some ⟨q,0,none⟩)] w fun e w'=>WeP l x g q y m tall w e w':=by
 have a8:=r.lt;have bd:=Cv q B l w h a6 a9;have af:Hid _:=r;clear r h;go_enter func166,ntmps166;go_wp2_with fail;refine bd.mono ?_;rintro e w1 ⟨ac,a2⟩;clear bd;have Z:=Blk.only af.out ac aT;have ae:=(OnlyS.ofB ac).mono (Z2:=fun k=>k=g\/k=q) (fun k _ e=>v6 e);clear ac af;rcases a2 with⟨es,a,c,I,Q,rfl,p⟩|⟨R,rfl⟩
 rotate_left
 ·have Y:leR l x=none:=by
   unfold leR;rcases R with e|e<;>rw[e] <;>rfl
  clear R Z;go_wp2;exact⟨rfl,ae,v6 ⟨Y,rfl⟩⟩
 have P:leR l x=(orE es x).map fun bm=>(es,bm):=by
  unfold leR;rw[I,xC,CH (by simpa using Q)]
 have ba:=(qX _ _ es t6 I).1;have F:=uv Z (vJ ae (vJ p P));clear I Q Z ae p P;go_wp2_with fail;go_loopw [12] (fun s wr=> ∃(i:Nat)(f:ByteArray),s= .int .i64 i/\i<=es.length/\OnlyS (fun k=>k=g\/k=q) w wr/\Blk wr 234 g (wkc y m tall (f,x.2))/\ORow 62 2 w.1.size wr a es.length c (enF es)/\orE es x=orE (es.drop i) (f,x.2)) (fun s _=>es.length-(intOf s).toNat)
 case atStart=>exact⟨0,x.1,by rfl,uA,F.out.2.1,F.out.1,F.out.2.2.1,by rfl⟩
 case round=>
  obtain⟨i,f,rfl,bl,L,r,p,C⟩:=hrel;obtain⟨z,a4⟩:=aa wr;subst a4;have M:Hid _:=F.out.2.2.2;clear F;by_cases J:i<es.length
  ·have bb:(i:Int)< (es.length:Int):=uA;obtain⟨b,rfl,bf,bg⟩:=oy p uA;have A:=fun j v bc=>(p.reads (Eq es _)).cells i J j v bc;rw[show enF es i=[.string (es.getD i e0).1,.string (es.getD i e0).2]from rfl]at A;have O:es.drop i=es.getD i e0::es.drop (i+1):=by
    rw[yv J];simp[List.getD,J]
   generalize es.getD i e0=d at*;have ap:z.cell? ⟨b,i*2,none⟩=some (.string d.1):=by have:=A 0 _ rfl;simpa using this
   have aA:z.cell? ⟨b,i*2+1,none⟩=some (.string d.2):=by have:=A 1 _ rfl;simpa using this
   clear A;have K:=Er d (es.drop (i+1)) (f,x.2);rw[<-O]at K;have ab:=aq z 62 #[.string d.1,.string d.2];have ad:=bAl z (.cells #[.string d.1,.string d.2] 62);have t:=r.below ad;have o:=uv L (vJ p (vJ C (vJ K ad)));clear L p C K O r ad;go_upto_region 5 with(first|(refine bt rfl 62 _ _ rfl z #[.string (strOfNums []),.string (strOfNums [])] #[.string d.1,.string d.2] 62 rfl rfl Ep rfl rfl ?_))
   change Code.wp _ _ _ _ (z.alloc (.cells #[.string d.1,.string d.2] 62));generalize z.alloc (.cells #[.string d.1,.string d.2] 62)=n at*;generalize H:z.1.size=G at*;have ak:n.cell? ⟨G,0,none⟩=some (.string d.1):=ab.cell 0;have am:n.cell? ⟨g,3,none⟩=some (.string f):=t.cell 3;have an:n.cell? ⟨g,4,none⟩=some (.string x.2):=t.cell 4;have bk:=t.free 3;have ag:=uv t ab;clear t ab ap aA;by_cases W:sl f d.1=true/\sle x.2 d.1=true
   ·obtain⟨D,V⟩:=W;have N:=(mA d.1 f).trans D;have aB:Op.bytesLess d.1.toList x.2.toList=false:=by unfold sle sl at V;simpa using V
    go_quiet (first|(go_at_call 145;exact Calls.quiet_of_same (ez _)))
    go_wp2;have aS:=(o.out.1.trans (OnlyS.ofBelow (by rw[H];exact o.out.2.2.2.2))).drewN nq;have a0:Blk (n.drewN nq) 234 g (wkc y m tall (f,x.2)):=ag.out.1;have a1:=a0.set 3 (.string d.1);have S:=ax (n.drewN nq) g 3 (.string d.1);go_roundw
    case rel=>
     refine⟨i+1,d.1,by go_num,uA,aS.trans ((OnlyS.ofB S).mono (fun k _ e=>v7 e)),a1,?_,?_⟩
     ·have a3:=o.out.2.1.below (by rw[H];exact gx o.out.2.2.2.2 nq);exact a3.onlyN S a8
     ·rw[o.out.2.2.1,o.out.2.2.2.1,B4 ⟨D,V⟩]
    case measure=>simp[intOf];omega
   ·have T:Hid (leR l x=none):=by
     show leR l x=none;rw[M.out,o.out.2.2.1,o.out.2.2.2.1,CH W]
     rfl
    have E:Hid (WeP l x g q y m tall w (.panicked bI) n.drew):=⟨(o.out.1.trans (OnlyS.ofBelow (by rw[H];exact o.out.2.2.2.2))).drew,v6 ⟨T.out,rfl⟩⟩;cases D:sl f d.1 with
    |false=>
     have N:=(mA d.1 f).trans D;refine az (fun u=>u.cell? ⟨G,0,none⟩=some (.string d.1)/\u.cell? ⟨g,3,none⟩=some (.string f)/\u.cell? ⟨g,4,none⟩=some (.string x.2)) (fun k=>decide (16<=k)) vk ?_;have cs:n.drew.cell? ⟨G,0,none⟩=some (.string d.1)/\n.drew.cell? ⟨g,3,none⟩=some (.string f)/\n.drew.cell? ⟨g,4,none⟩=some (.string x.2):=⟨ak,am,an⟩;refine ai 0 cs ?_;refine ai 1 cs ?_;refine ai 2 cs ?_;refine ai 3 cs ?_;refine ai 4 cs ?_;refine ai 5 cs ?_;refine ai 6 cs ?_;refine ai 7 cs ?_;refine aE 8 cs ?_;refine aE 9 cs ?_;refine aE 10 cs ?_;refine aE 11 cs ?_;refine aE 12 cs ?_;refine aE 13 cs ?_;refine aE 14 cs ?_;refine ai 15 cs ?_;refine ah 16 fun a5 a7=> ?_;go_wp2_with fail;refine(fi _).mono ?_;rintro e w' ⟨rfl,rfl⟩;go_wp2;exact⟨rfl,E.out⟩
    |true=>
     have aB:Op.bytesLess d.1.toList x.2.toList=true:=by
      cases h:Op.bytesLess d.1.toList x.2.toList with
      |true=>rfl
      |false=>exact absurd ⟨D,by unfold sle sl;rw[h];rfl⟩ W
     have N:=(mA d.1 f).trans D;refine az (fun u=>u.cell? ⟨G,0,none⟩=some (.string d.1)/\u.cell? ⟨g,3,none⟩=some (.string f)/\u.cell? ⟨g,4,none⟩=some (.string x.2)) (fun k=>decide (16<=k)) vk ?_;have cs:n.drew.cell? ⟨G,0,none⟩=some (.string d.1)/\n.drew.cell? ⟨g,3,none⟩=some (.string f)/\n.drew.cell? ⟨g,4,none⟩=some (.string x.2):=⟨ak,am,an⟩;refine ai 0 cs ?_;refine ai 1 cs ?_;refine ai 2 cs ?_;refine ai 3 cs ?_;refine ai 4 cs ?_;refine ai 5 cs ?_;refine ai 6 cs ?_;refine ai 7 cs ?_;refine ai 8 cs ?_;refine ai 9 cs ?_;refine ai 10 cs ?_;refine ai 11 cs ?_;refine ai 12 cs ?_;refine ai 13 cs ?_;refine ai 14 cs ?_;refine ai 15 cs ?_;refine ah 16 fun a5 a7=> ?_;go_wp2_with fail;refine(fi _).mono ?_;rintro e w' ⟨rfl,rfl⟩;go_wp2;exact⟨rfl,E.out⟩
  ·have aX:i=es.length:=uA;subst aX;have X:Hid (leR l x=some (es,(f,x.2))):=by
    show leR l x=some (es,(f,x.2));rw[M.out,C,List.drop_length,orE]
    rfl
   have U:=uv L (vJ p r);clear L p r C;go_wp2_with fail;go_ret;exact⟨U.out.1,v7 ⟨es,a,c,(f,x.2),X.out,rfl,U.out.2.1,U.out.2.2⟩⟩
theorem oz{M}:∀{ls sn:List Int},mOk M ls sn=true↔(∀x∈ls,2<=x/\x< (M:Int)/\x∉sn)/\ls.Nodup
 |[],sn=>by simp[mOk]
 |x::ls,sn=>by
  rw[mOk];by_cases h:x<2\/(M:Int)<=x\/sn.contains x=true
  ·rw[B4 h];constructor
   ·intro h;cases h
   ·rintro⟨b,_⟩;have:=b x (List.mem_cons_self);rw[xr]at h;rcases h with h|h|h
    ·omega
    ·omega
    ·exact absurd h this.2.2
  ·rw[CH h,oz (ls:=ls) (sn:=x::sn),zz];rw[xr]at h;constructor
   ·rintro⟨b,d⟩;refine⟨fun y c=> ?_,fun hx=>(b x hx).2.2 (List.mem_cons_self),d⟩;rcases w3.1 c with rfl|c
    ·exact⟨uA,uA,fun a=>h (v6 (v6 a))⟩
    ·have:=b y c;exact⟨this.1,this.2.1,fun a=>this.2.2 (AC _ a)⟩
   ·rintro⟨b,d,e⟩;refine⟨fun y c=> ?_,e⟩;have:=b y (AC _ c);refine⟨this.1,this.2.1,fun a=> ?_⟩;rcases w3.1 a with rfl|a
    ·exact d c
    ·exact this.2.2 a
def upF(a:Nat)(n:Nat):List Int:=(List.range n).map fun i=>((a+i:Nat):Int)
theorem wL(a n):upF a (n+1)=(a:Int)::upF (a+1) n:=by
 unfold upF;rw[List.range_succ_eq_map,ws,List.map_map];congr 1;apply List.map_congr_left;intro i _;simp only[Function.comp];congr 1;omega
theorem wM:∀(a:Nat)(l:List Int),l.Pairwise (· < ·)->(∀x∈l,(a:Int)<=x/\x< ((a+l.length:Nat):Int))->l=upF a l.length
 |a,[],_,_=>rfl
 |a,x::xs,c,e=>by
  rw[zs]at c;have hx:=e x List.mem_cons_self;have b:=wM (a+1) xs c.2 (fun y d=>by
   have g:=c.1 y d;have i:=e y (AC _ d);rw[w8]at i;have j:=hx.1;constructor<;>omega)
  have f:x=(a:Int):=by
   cases xs with
   |nil=>simp at hx;omega
   |cons y k=>
    rw[w8,wL]at b;have d:=(List.cons.inj b).1;have g:=c.1 y List.mem_cons_self;omega
  rw[w8,wL,<-b,f]
theorem Et{a n x}:x∈upF a n↔(a:Int)<=x/\x< ((a+n:Nat):Int):=by
 unfold upF;rw[x7];constructor
 ·rintro⟨i,b,rfl⟩;have:=xa.1 b;constructor<;>omega
 ·rintro⟨c,d⟩;exact⟨x.toNat-a,xa.2 uA,uA⟩
theorem Eu(a n):(upF a n).Nodup:=by
 unfold upF List.Nodup;rw[List.pairwise_map];exact List.nodup_range.imp (fun h e=>h uA)
theorem Ev(a n):(upF a n).length=n:=by simp[upF]
def srt(l:List Int):List Int:=l.mergeSort fun x y=>decide (x<=y)
theorem oE(l):(srt l).Perm l:=List.mergeSort_perm _ _
theorem iX(l):(srt l).length=l.length:=(oE l).length_eq
theorem Ew(l):(srt l).Pairwise (· <= ·):=by
 have:=List.pairwise_mergeSort (le:=fun x y:Int=>decide (x<=y)) (fun a b c d e=>by simp at*;omega) (fun a b=>by simp;omega) l;exact this.imp (fun h=>by simpa using h)
def eS(l:List Int)(M:Nat):Bool:=(srt l==upF 2 l.length)&&(2+l.length==M)
theorem Ex{l M}:eS l M=true↔((∀x∈l,2<=x/\x< (M:Int))/\l.Nodup)/\2+l.length=M:=by
 unfold eS;rw[wX,beq_iff_eq,beq_iff_eq];constructor
 ·rintro⟨h,d⟩;have c:=oE l;rw[h]at c;refine⟨⟨fun x hx=> ?_,c.nodup_iff.1 (Eu _ _)⟩,d⟩;have:=Et.1 (c.mem_iff.2 hx);constructor<;>omega
 ·rintro⟨⟨e,f⟩,d⟩;refine⟨?_,d⟩;have c:=oE l;have j:(srt l).Pairwise (· < ·):=by
   have g:=Ew l;have i:=c.nodup_iff.2 f;exact List.Pairwise.imp₂ (fun a b(h:a<=b)(k:a≠b)=>by omega) g i
  have:=wM 2 (srt l) j (fun x hx=>by
   have:=e x (c.mem_iff.1 hx);rw[iX];constructor<;>omega)
  rw[iX]at this;exact this
theorem wN{sn N x}:x∈mkd sn N↔x∈sn/\0<=x/\x< (N:Int):=by
 unfold mkd;rw[x7];constructor
 ·rintro⟨i,a,rfl⟩;rw[List.mem_filter]at a;exact⟨xr.1 a.2,uA,by have:=xa.1 a.1;omega⟩
 ·rintro⟨b,c,d⟩;have e:((x.toNat:Nat):Int)=x:=uA;exact⟨x.toNat,List.mem_filter.2 ⟨xa.2 uA,by rw[e];exact xr.2 b⟩,e⟩
theorem Ey(sn N):(mkd sn N).Nodup:=by
 unfold mkd List.Nodup;rw[List.pairwise_map];exact(List.nodup_range.filter _).imp (fun h e=>h uA)
theorem ru{sn}{N:Nat}(a:∀x∈sn,0<=x/\x< (N:Int))(b:sn.Nodup):(mkd sn N).Perm sn:=by
 rw[List.perm_ext_iff_of_nodup (Ey _ _) b];intro x;rw[wN];exact⟨fun h=>h.1,fun h=>⟨h,a x h⟩⟩
def mrk(M:Nat)(t f o:List Int):Bool:=mOk M t []&&mOk M f (t.reverse++[])&&mOk M o (f.reverse++(t.reverse++[]))&&((mkd (o.reverse++(f.reverse++(t.reverse++[]))) M).length+2==M)
theorem Ez{M t d f o}(v:d.Perm t):mrk M t f o=eS (d++(f++o)) M:=by
 have g:(d++(f++o)).Perm (t++(f++o)):=v.append_right _;have w:mrk M t f o=true↔eS (d++(f++o)) M=true:=by
  rw[Ex];unfold mrk;rw[wX,wX,wX,oz,oz,oz,beq_iff_eq,g.nodup_iff,g.length_eq];have u:(∀x∈d++(f++o),2<=x/\x< (M:Int))↔(∀x∈t++(f++o),2<=x/\x< (M:Int)):=⟨fun h x hx=>h x (g.mem_iff.2 hx),fun h x hx=>h x (g.mem_iff.1 hx)⟩;rw[u];have s:(o.reverse++(f.reverse++(t.reverse++[])))=(t++(f++o)).reverse:=by simp
  rw[s];have p:((((∀x∈t,2<=x/\x< (M:Int)/\x∉[])/\t.Nodup)/\(∀x∈f,2<=x/\x< (M:Int)/\x∉t.reverse++[])/\f.Nodup)/\(∀x∈o,2<=x/\x< (M:Int)/\x∉f.reverse++(t.reverse++[]))/\o.Nodup)↔((∀x∈t++(f++o),2<=x/\x< (M:Int))/\(t++(f++o)).Nodup):=by
   simp only[z8,w6,wP,List.mem_reverse,not_or];constructor
   ·rintro⟨⟨⟨n,j⟩,k,l⟩,e,m⟩;refine⟨fun x hx=> ?_,j,⟨l,m,?_⟩,?_⟩
    ·rcases hx with h|h|h
     ·exact⟨(n x h).1,(n x h).2.1⟩
     ·exact⟨(k x h).1,(k x h).2.1⟩
     ·exact⟨(e x h).1,(e x h).2.1⟩
    ·rintro x hx y a rfl;exact(e x a).2.2.1 hx
    ·rintro x hx y a rfl;rcases a with h|h
     ·exact(k x h).2.2 hx
     ·exact(e x h).2.2.2 hx
   ·rintro⟨h,j,⟨l,m,q⟩,i⟩;exact⟨⟨⟨fun x hx=>⟨(h x (v7 hx)).1,(h x (v7 hx)).2,List.not_mem_nil⟩,j⟩,fun x hx=>⟨(h x (v6 (v7 hx))).1,(h x (v6 (v7 hx))).2,fun a=>i x a x (v7 hx) rfl⟩,l⟩,fun x hx=>⟨(h x (v6 (v6 hx))).1,(h x (v6 (v6 hx))).2,fun a=>q x a x hx rfl,fun a=>i x a x (v6 hx) rfl⟩,m⟩
  rw[p];constructor
  ·rintro⟨⟨b,c⟩,r⟩;refine⟨⟨b,c⟩,?_⟩;have:=(ru (sn:=(t++(f++o)).reverse) (N:=M) (fun x hx=>by have:=b x (List.mem_reverse.1 hx);constructor<;>omega) ((List.reverse_perm _).nodup_iff.2 c)).length_eq;rw[List.length_reverse]at this;omega
  ·rintro⟨⟨b,c⟩,r⟩;refine⟨⟨b,c⟩,?_⟩;have:=(ru (sn:=(t++(f++o)).reverse) (N:=M) (fun x hx=>by have:=b x (List.mem_reverse.1 hx);constructor<;>omega) ((List.reverse_perm _).nodup_iff.2 c)).length_eq;rw[List.length_reverse]at this;omega
 cases b:mrk M t f o<;>cases c:eS (d++(f++o)) M<;>simp_all
