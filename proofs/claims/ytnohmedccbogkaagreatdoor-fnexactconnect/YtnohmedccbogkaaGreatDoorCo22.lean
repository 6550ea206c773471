import Derived.Test.YtnohmedccbogkaaGreatDoorCo20
namespace Go.Proofs.YtnohmedccbogkaaGreatDoor
open Go.Proofs.Tryz
open Go.RowKit
set_option linter.unusedVariables false
set_option maxRecDepth 100000
set_option maxHeartbeats 32000000
theorem JT:(prog.info? 4).map (fun i=>(i.zero,i.size,i.bytes))=some (some (.bool false),1,1):=kO
theorem nj(k:Nat)(e:k<=1048576)(w):
 (Instr.makeSlice 202 (.int .i64 (k:Int)) (.int .i64 (k:Int))).run prog w= .ok (.slice (some ⟨w.1.size,0,none⟩) k k) (w.alloc (.cells (madeCells #[.bool false] k) 4)):=by
 obtain⟨i,d,a,b,c⟩:=sk JT;have hr:=run_make (P:=prog) w 202 4 i _ underlying202 d a .i64 .i64 k k kH (Int.le_refl _) (by rw[c];omega) kH;rw[hr,b];simp[Value.cells]
theorem JU(N):mkB [] N=List.replicate N (Value.bool false):=by
 apply o3;intro i;by_cases h:i<N
 ·simp[mkB,h]
 ·simp[mkB,h]
theorem nk(B k)(b:k<=1048576)(w:World)(a:B<=w.1.size):Own1 4 B (w.alloc (.cells (madeCells #[.bool false] k) 4)) (some ⟨w.1.size,0,none⟩) k k (mkB [] k):=by
 refine⟨by rw[yI];omega,kT ⟨w.1.size,k,madeCells #[.bool false] k,rfl,a,s2 w _,kE,by unfold maxLen;omega,?_,?_⟩⟩
 ·have:=rx List.length (toList_madeCells_one (Value.bool false) k);simpa using this
 ·rw[toList_madeCells_one,JU,oG];simp
theorem pY:(prog.info? 207).map (·.size)=some 5:=kO
theorem nu:(prog.info? 37).map (·.size)=some 2:=kO
noncomputable def pgD(K:DK):Pg:=⟨vK K,vL K,vB K⟩
def nPg(K:DK):Nat:=K.n/4
theorem jS{w d K}(h:RDisk w d K)(a:dOk K):PgW (pgD K) (nPg K):=by
 refine⟨fun b f=> ?_,fun b=>rY h b,fun b=>k2 (mN a b) kH,by unfold nPg;have:=a.1.2.1;omega⟩;by_cases c:fC K b
 ·unfold fC at c;unfold nPg;omega
 ·have e:vB K b=false:=by unfold vB;rw[jk c]
  have:vB K b=true:=f;rw[e]at this;cases this
theorem nw(d K w)(c:K.n<=4096):
 Calls prog 140 #[bC d K] w fun e w'=>e= .returned (.int .i64 (nPg K:Nat))/\Below w.1.size w w':=by
 have a:Hid _:=(p4 w.1.size w).alloc kE (.cells #[.slice d.sa K.n d.sc,.slice d.pa K.m d.pc] 37);have f:(K.n:Int).tdiv 4=((nPg K:Nat):Int):=by rw[p3 kH];unfold nPg;omega
 have b:nPg K<=1024:=by unfold nPg;omega
 generalize nPg K=N at*;unfold bC;go_enter func140,ntmps140;go_wp2;go_ret;exact⟨rfl,a.out⟩
noncomputable def ldT(K:DK)(root:Int):Option (Option Tr):=
 match bK K with
 |false=>none
 |true=>if root=0 then some none else(rdT (pgD K) (nPg K+1) 0 ⟨[], -1⟩ root).bind fun x=>if okT x.1 true (strOfNums []) (strOfNums [])=true then some (some x.1)else none
structure LdT(K:DK)(root:Int)(B:Nat)(w:World)(cs:List Value)(T:Tr):Prop where
 ex:∃ns nv na nc seen tall sb p,cs=trc na ns.length nc p sb (nPg K) tall false/\ns.length<=1048576/\Rep ns T true [p] []/\rdT (pgD K) (nPg K+1) 0 ⟨[], -1⟩ root=some (T,⟨seen,tall⟩)/\
  ∀g u,Blk u 207 g cs->Below w.1.size w u->TSt B g sb (nPg K) p u ns nv na nc seen tall false
theorem TSt.setRt{B0 g sb N rt w ns nv na nc seen tall bad}(h:TSt B0 g sb N rt w ns nv na nc seen tall bad)(p):TSt B0 g sb N p (w.setCell ⟨g,1,none⟩ (.int .i64 p)) ns nv na nc seen tall bad:=by
 have b:=aB w g 1 (.int .i64 p);have a:∀e,207≠e->KeepT e w (w.setCell ⟨g,1,none⟩ (.int .i64 p)):=fun e d=>aV b h.blk d;exact⟨h.blk.set 1 (.int .i64 p),h.mks.keep (a _ kN),dL h.nodes (a _ kN),fun i c=>(h.each i c).keep (a _ kN) (a _ kN),k2 h.gB b.size,h.ok⟩
theorem VRow.only{w w' d K b g}(h:VRow w d K b)(e:OnlyB g w w')(c:b≠g):VRow w' d K b:=
 ⟨lk h.1 e.size,fun i f=>by rw[r8 (a:=⟨b,i,none⟩) (e.block b h.1 c)];exact h.2 i f⟩
def trz:List Value:=[.slice none 0 0,.int .i64 0,.slice none 0 0,.int .i64 0,.bool false]
def tr1:List Value:=[.slice none 0 0,.int .i64 (-1),.slice none 0 0,.int .i64 (-1),.bool false]
theorem pZ:∀b∈tr1,b.oneCell'=true:=by intro b a;simp[tr1]at a;rcases a with rfl|rfl|rfl|rfl|rfl<;>rfl
theorem dP{cs:List Value}(h:∀b∈cs,b.oneCell'=true):cs.toArray.all (·.oneCell')=true:=by
 rw[pn];intro v a;exact h v (by simpa using a)
def LdP(K:DK)(root:Int)(w:World)(e:Ending)(w':World):Prop:=Below w.1.size w w'/\∃cs:List Value,cs.length=5/\(∀u∈cs,u.oneCell'=true)/\((ldT K root=none/\e= .returned (.tuple #[.agg cs.toArray,.bool false]))\/(ldT K root=some none/\cs=tr1/\e= .returned (.tuple #[.agg cs.toArray,.bool true]))\/∃T,ldT K root=some (some T)/\LdT K root w.1.size w' cs T/\e= .returned (.tuple #[.agg cs.toArray,.bool true]))
theorem zy(d K root w)(h:RDisk w d K):
 Calls prog 145 #[bC d K,.int .i64 root] w fun e w'=>LdP K root w e w':=by
 have cv:Hid (∀j,Below w.1.size w j->RDisk j d K):=fun j b=>h.below b;have cu:Hid _:=h;obtain⟨M,D⟩:∃cA,cA=w.alloc (.cells #[.slice d.sa K.n d.sc,.slice d.pa K.m d.pc] 37):=⟨_,rfl⟩;obtain⟨O,E⟩:∃cA,cA=M.alloc (.cells trz.toArray 207):=⟨_,rfl⟩;obtain⟨ab,F⟩:∃cA,cA=O.alloc (.cells tr1.toArray 207):=⟨_,rfl⟩;have bp:Below w.1.size w M:=by rw[D];exact bAl _ _
 have bq:Below M.1.size M O:=by rw[E];exact bAl _ _
 have bs:Below O.1.size O ab:=by rw[F];exact bAl _ _
 have cq:M.1.size=w.1.size+1:=by rw[D];simp
 have cr:O.1.size=w.1.size+2:=by rw[E];simp[cq]
 have ck:=((by rw[D];exact ao w _ _:Blk M 37 w.1.size [.slice d.sa K.n d.sc,.slice d.pa K.m d.pc]).below bq).below bs;have cl:=((by rw[E,<-cq];exact ao M _ _:Blk O 207 (w.1.size+1) trz).below bs);have cE:Blk ab 207 (w.1.size+2) tr1:=by rw[F,<-cr];exact ao O _ _
 have bh:=(bp.trans (bq.mono bp.size)).trans (bs.mono (k2 bp.size bq.size));have c6:ab.1.size=w.1.size+3:=by rw[F];simp[cr]
 have cp:(prog.info? 37).map (·.size)=some (#[Value.slice d.sa K.n d.sc,Value.slice d.pa K.m d.pc]:Array Value).size:=nu;have af:(prog.info? 207).map (·.size)=some tr1.toArray.size:=pY;have ai:=rT d K ab (h.below bh);unfold bC at ai ⊢;go_enter func145,ntmps145;go_upto_region 2 with fail
 change Code.wp _ _ _ _ (((w.alloc (.cells #[.slice d.sa K.n d.sc,.slice d.pa K.m d.pc] 37)).alloc (.cells trz.toArray 207)).alloc (.cells tr1.toArray 207));rw[<-D,<-E,<-F];have b1:w.1.size+1+1<ab.1.size:=kH;have a3:Blk ab 207 (w.1.size+1+1) tr1:=cE;clear D E F bp bq bs cq cr c6 cE;obtain⟨c,b0⟩:∃x,x=w.1.size+1+1:=⟨_,rfl⟩;obtain⟨rb,bY⟩:∃x,x=w.1.size+1:=⟨_,rfl⟩;rw[<-b0]at b1 a3 ⊢;rw[<-bY]at cl ⊢;have c2:w.1.size<rb:=kH;have c3:rb<c:=kH;clear b0 bY;go_wp2_with (refine qi rfl 37 _ rfl w.1.size rfl 37 #[.slice d.sa K.n d.sc,.slice d.pa K.m d.pc] (0,0) _ ck sB rfl cp ?_);refine ai.mono ?_;rintro e bv ⟨rfl,ac⟩;have bi:=bh.trans (ac.mono bh.size);have aX:=ck.below ac;have H:=cl.below ac;have W:=a3.below ac;have da:c<bv.1.size:=by have:=ac.size;omega
 have S:=H.setRow tr1;have s:=aN bv rb tr1.toArray;have z:=bi.trans (s.below kH bi.size);have ag:=kG bi z;clear ai ck cl a3 bh ac bi z s b1;cases q:bK K with
 |false=>
  have Q:Hid (ldT K root=none):=by show ldT K root=none;unfold ldT;rw[q]
  clear q;go_wp2_with (first|(refine qi rfl 207 _ rfl c rfl 207 tr1.toArray (0,0) _ W underlying207 rfl af ?_)|(refine qB rfl 207 _ _ rfl rb tr1.toArray rfl rfl 207 _ H af rfl (dP pZ) ?_));refine p6 (v:= .tuple #[.agg tr1.toArray,.bool false]) ?_ rfl ⟨ag.out.2,tr1,rfl,pZ,kV ⟨Q.out,rfl⟩⟩;exact bA results145 _ _ rb 207 tr1.toArray _ rfl S underlying207 rfl af rfl
 |true=>
 have G:=jj q;by_cases V:root=0
 ·have Q:Hid (ldT K root=some none):=by show ldT K root=some none;unfold ldT;rw[q,qb V]
  subst V;clear q;go_wp2_with (first|(refine qi rfl 207 _ rfl c rfl 207 tr1.toArray (0,0) _ W underlying207 rfl af ?_)|(refine qB rfl 207 _ _ rfl rb tr1.toArray rfl rfl 207 _ H af rfl (dP pZ) ?_));refine p6 (v:= .tuple #[.agg tr1.toArray,.bool true]) ?_ rfl ⟨ag.out.2,tr1,rfl,pZ,kT (kV ⟨Q.out,rfl,rfl⟩)⟩;exact bA results145 _ _ rb 207 tr1.toArray _ rfl S underlying207 rfl af rfl
 ·have c4:(root==0)=false:=by simp[V]
  have Q:Hid (ldT K root=(rdT (pgD K) (nPg K+1) 0 ⟨[], -1⟩ root).bind fun x=>if okT x.1 true (strOfNums []) (strOfNums [])=true then some (some x.1)else none):=by show ldT K root= _;unfold ldT;rw[q,q4 V]
  have cb:=jS cu.out G;have cB:=G.1.2.1;clear S q;have ah:=wW d K bv (cv.out bv ag.out.1) G;unfold bC at ah;go_wp2_with (refine qi rfl 37 _ rfl w.1.size rfl 37 #[.slice d.sa K.n d.sc,.slice d.pa K.m d.pc] (0,0) _ aX sB rfl cp ?_);refine ah.mono ?_;rintro e bw ⟨A,C,rfl,ce,cm⟩;have cH:=xh cu.out G cm;have c8:=(qX cm A rfl).1;have co:=bAl bw (.cells #[.slice (some ⟨A,0,none⟩) K.n C] 249);have cD:=ao bw 249 #[.slice (some ⟨A,0,none⟩) K.n C];have bu:=ce.trans (co.mono ce.size);have cL:=cH.below co;clear ah ce cm cH co;go_upto_region 7 with fail
  generalize bw.alloc (.cells #[.slice (some ⟨A,0,none⟩) K.n C] 249)=cR at*;have b2:=cD;generalize cC:bw.1.size=c5 at*;clear cD cC;have ak:=nw d K cR cB;unfold bC at ak;have b3:=aX.below bu;go_wp2_with (refine qi rfl 37 _ rfl w.1.size rfl 37 #[.slice d.sa K.n d.sc,.slice d.pa K.m d.pc] (0,0) _ b3 sB rfl cp ?_);refine ak.mono ?_;rintro e f ⟨rfl,bf⟩;have c7:=cb.le;have cP:=nj (nPg K) kH f;have ae:=bAl f (.cells (madeCells #[.bool false] (nPg K)) 4);have cF:=nk f.1.size (nPg K) kH f kE;have bb:=bu.trans (bf.mono bu.size);have bj:=ag.out.1.trans (bb.mono ag.out.1.size);have I:=(W.below bb).below ae;have cM:=cL.below bf;have b6:=(b2.below bf).below ae;have dc:=bb.size;have cV:(f.alloc (.cells (madeCells #[.bool false] (nPg K)) 4)).cell? ⟨c,2,none⟩=some (.slice none 0 0):=I.cell 2;have c0:=I.free 2;have a7:=aB (f.alloc (.cells (madeCells #[.bool false] (nPg K)) 4)) c 2 (.slice (some ⟨f.1.size,0,none⟩) (nPg K) (nPg K));have a4:∀bt,207≠bt->KeepT bt (f.alloc (.cells (madeCells #[.bool false] (nPg K)) 4)) _:=fun bt ci=>aV a7 I ci;have ba:TSt f.1.size c f.1.size (nPg K) (-1) ((f.alloc (.cells (madeCells #[.bool false] (nPg K)) 4)).setCell ⟨c,2,none⟩ (.slice (some ⟨f.1.size,0,none⟩) (nPg K) (nPg K))) [] (fun _=>bX) none 0 [] (-1) false:=
   ⟨I.set 2 _,cF.keep (a4 _ kN),eU _ _ _ _ _,fun i ch=>absurd ch (np _),k2 ae.size a7.size,⟨o0,fun x hx=>by simp at hx⟩⟩
  have b7:=b6.keepT (a4 _ kN);have bc:=(Below.onlyB ae c).trans a7;have cz:mZ (pgD K) (.slice (some ⟨A,0,none⟩) K.n C) c f:=fun j r bt=>by
   have cS:=bj.trans (r.below kH bj.size);exact xg d K bt A C j (cv.out j cS) G (cM.only r kH)
  have cy:=ze (pgD K) (nPg K) f.1.size c f.1.size (-1) (.slice (some ⟨A,0,none⟩) K.n C) f cb cz kE (nPg K+1) 0 root [] (fun _=>bX) none 0 [] (-1) _ bc ba kP kP;have b4:=((H.below bb).below ae).only a7 kH;have L:=kG ba (kR bc (kR b4 bj));have cG:(prog.info? 249).map (·.size)=some (#[Value.slice (some ⟨A,0,none⟩) K.n C]:Array Value).size:=kO;clear ak bf ae cF bu bb bj I cL cM b6 a7 a4 ba bc cz b4 b3 aX H W b2;generalize bF:nPg K=N at*;have cw:Hid _:=bF;clear bF;go_upto_region 8 with fail
  clear cP cV c0;generalize (f.alloc (.cells (madeCells #[.bool false] N) 4)).setCell ⟨c,2,none⟩ (.slice (some ⟨f.1.size,0,none⟩) N N)=dd at*;go_wp2_with (refine qi rfl 249 _ rfl c5 rfl 249 #[.slice (some ⟨A,0,none⟩) K.n C] (0,0) _ b7 underlying249 rfl cG ?_);refine cy.mono ?_;rintro e bx c1;obtain⟨p,a5,a6,X,Y,o,n,P,rfl,ct⟩:=c1;have u:=ct.st;have bN:=ct.le;have R:=ct.res;rw[m7]at u bN R;have bH:=ct.fr.onlyG L.out.1 kE L.out.2.1;have b5:Blk bx 207 rb trz:=(ct.fr.block rb L.out.2.2.1.lt kH kH (by intro e;cases e)).trans L.out.2.2.1;have cT:bx.cell? ⟨c,1,none⟩=some (.int .i64 (-1)):=u.blk.cell 1;have f1:=u.blk.free 1;have cn:=aB bx c 1 (.int .i64 p);have a9:=u.setRt p;have a0:=b5.only cn kH;have cg:=L.out.2.2.2.trans ((bH.trans cn).below kH L.out.2.2.2.size);have bS:a5.length<=1048576:=by have:=u.ok.le;omega
  have cO:Hid _:=R;clear ct cy u bN R bH b5 cn L b7 cG;go_upto_region 9 with fail
  clear cT f1;generalize bx.setCell ⟨c,1,none⟩ (.int .i64 p)=am at*;have bk:=bDr am;have Z:=a9.belowT bk;have a1:=a0.below bk;have ap:=cg.trans (bk.mono cg.size);obtain⟨cs,m⟩:∃cs,cs=trc X a5.length Y p f.1.size N n P:=⟨_,rfl⟩;have a8:(prog.info? 207).map (·.size)=some cs.toArray.size:=by rw[m];exact pY
  have b9:trz.toArray.size=cs.toArray.size:=by rw[m];rfl
  have B:∀j∈cs,j.oneCell'=true:=by rw[m];intro j r;simp[trc]at r;rcases r with rfl|rfl|rfl|rfl|rfl<;>rfl
  have bz:Hid _:=m;have aw:Hid (cs.length=5):=by show cs.length=5;rw[m];rfl
  have U:Hid (∀j:World,Blk j 207 c cs->(Instr.loadAt 207 (.pointer (some ⟨c,0,none⟩))).run prog j= .ok (.agg cs.toArray) j/\j.cell? ⟨c,4,none⟩=some (.bool P)/\j.cell? ⟨c,1,none⟩=some (.int .i64 p)):=fun j r=>by
   refine⟨?_,(r.cell 4).trans (by rw[m];rfl),(r.cell 1).trans (by rw[m];rfl)⟩;simp only[Instr.loadAt,Instr.sureAddr,q9,r2,Result.andThen];exact sL j c 207 207 cs.toArray (0,0) _ r underlying207 rfl a8
  have bl:Blk am.drew 207 c cs:=by rw[m];exact Z.blk
  clear m;refine ay (fun j=>(Instr.loadAt 207 (.pointer (some ⟨c,0,none⟩))).run prog j= .ok (.agg cs.toArray) j/\j.cell? ⟨c,4,none⟩=some (.bool P)/\j.cell? ⟨c,1,none⟩=some (.int .i64 p)) (fun k=>false) kO ?_;generalize am.drew=cd at*;have a:=U.out cd bl;clear a9 a0 cg bk;rcases cO.out with⟨ad,T,t,c9,bP⟩|⟨ad,t⟩
  ·subst ad;replace t:rdT (pgD K) (N+1) 0 ⟨[], -1⟩ root=some (T,⟨o,n⟩):=t;have cc:=jQ cb _ _ _ _ _ _ t;have cx:=(pU (B0:=f.1.size) (g:=c) (sb:=f.1.size) (N:=N) (rt:=p) (ns:=a5) (nv:=a6) (na:=X) (nc:=Y) (seen:=o) (tall:=n) (bad:=false) bS T).1 cc.isT cc.full cc.sm p (strOfNums []) (strOfNums []) cd Z bP;generalize aH:okT T true (strOfNums []) (strOfNums [])=b8 at*;refine aC 0 (.agg cs.toArray) a ?hya0 ?_
   case hya0=>exact fun j ar=>bO (p:= .pointer (some ⟨c,0,none⟩)) rfl rfl ar.1
   refine ed 1 a ?_;refine ed 2 a ?_;refine ed 3 a ?_;refine ed 4 a ?_;refine ed 5 a ?_;refine ed 6 a ?_;refine aj 7 fun y l=> ?_;go_wp2_with fail;refine cx.mono ?_;rintro e bd ⟨rfl,bg⟩;have J:=Z.belowT bg;have a2:=a1.below bg;have aO:=bl.below bg;have cf:=ap.trans (bg.mono ap.size);have bE:=U.out bd aO;have S:=a2.setRow cs;have s:=aN bd rb cs.toArray;have an:=U.out _ (aO.only s kH);have z:=cf.trans (s.below kH cf.size);have ca:∀g j,Blk j 207 g cs->Below (bd.setRow rb cs.toArray).1.size (bd.setRow rb cs.toArray) j->TSt w.1.size g f.1.size N p j a5 a6 X Y o n false:=fun g j r ad=>by
    have bn:∀bt,207≠bt->KeepT bt bd j:=fun bt ci=>(aV s a2 ci).trans (aW ad);have bR:w.1.size<=f.1.size:=kH;exact⟨by rw[<-bz.out];exact r,(J.mks.keep (bn _ kN)).mono bR,ORow.mono (dL J.nodes (bn _ kN)) bR,fun i ch=>(J.each i ch).keep (bn _ kN) (bn _ kN),k2 z.size ad.size,J.ok⟩
   have be:=kG z ca;clear z ca J aO cf cx s;refine al l ?_;clear l y;refine ed 8 bE ?_;refine aj 9 fun y l=> ?_;refine s5 207 _ _ rfl rb cs.toArray rfl rfl 207 _ a2 a8 b9 (dP B) ?_;refine al l ?_;clear l y;refine aj 10 fun y l=> ?_;go_wp2_with fail;refine al l ?_;clear l y;refine ax ?_;clear a an bE;go_wp2_with fail;refine p6 (v:= .tuple #[.agg cs.toArray,.bool b8]) ?_ rfl ?_
   ·exact bA results145 _ _ rb 207 cs.toArray _ rfl S underlying207 rfl a8 rfl
   ·refine⟨be.out.1,cs,aw.out,B,?_⟩;cases b8 with
    |false=>exact kV ⟨by rw[Q.out,t];simp[aH],rfl⟩
    |true=>
     refine kT (kT ⟨T,by rw[Q.out,t];simp[aH],⟨?_⟩,rfl⟩);have e:=cw.out;subst e;exact⟨a5,a6,X,Y,o,n,f.1.size,p,bz.out,bS,bP,t,be.out.2⟩
  ·subst ad;replace t:rdT (pgD K) (N+1) 0 ⟨[], -1⟩ root=none:=t;have S:=a1.setRow cs;have s:=aN cd rb cs.toArray;have an:=U.out _ (bl.only s kH);have z:=ap.trans (s.below kH ap.size);have be:Hid _:=z;clear z s Z bl ap;refine aC 0 (.agg cs.toArray) a ?hyc0 ?_
   case hyc0=>exact fun j ar=>bO (p:= .pointer (some ⟨c,0,none⟩)) rfl rfl ar.1
   refine ed 1 a ?_;refine ed 2 a ?_;refine ed 3 a ?_;refine ed 4 a ?_;refine aq 5 a ?_;refine aq 6 a ?_;refine aq 7 a ?_;refine ed 8 a ?_;refine aj 9 fun y l=> ?_;refine s5 207 _ _ rfl rb cs.toArray rfl rfl 207 _ a1 a8 b9 (dP B) ?_;refine al l ?_;clear l y;refine aj 10 fun y l=> ?_;go_wp2_with fail;refine al l ?_;clear l y;refine ax ?_;clear a an;go_wp2_with fail;refine p6 (v:= .tuple #[.agg cs.toArray,.bool false]) ?_ rfl ?_
   ·exact bA results145 _ _ rb 207 cs.toArray _ rfl S underlying207 rfl a8 rfl
   ·exact⟨be.out,cs,aw.out,B,kV ⟨by rw[Q.out,t];rfl,rfl⟩⟩
def pgO:Option Tr->List Int
 |none=>[]
 |some T=>bB T
noncomputable def tpB(K:DK)(root:Int):Bool:=(ldT K root).isSome
noncomputable def tpL(K:DK)(root:Int):List Int:=match ldT K root with|none=>[]|some x=>mkd (pgO x) (nPg K)
theorem JV(g mb N w):Calls prog 177 #[.pointer (some ⟨g,0,none⟩),.int .i64 (-1),.slice (some ⟨mb,0,none⟩) N N] w fun e w'=>e= .returned (.tuple #[])/\w'=w:=by
 go_enter func177,ntmps177;go_wp2_with fail;exact p6 (v:= .tuple #[]) (by simp[results,results177]) rfl ⟨rfl,rfl⟩
theorem JW(d K root w)(h:RDisk w d K):
 Calls prog 141 #[bC d K,.int .i64 root] w fun e w'=> ∃a c,e= .returned (.tuple #[.slice a (tpL K root).length c,.bool (tpB K root)])/\Below w.1.size w w'/\Own1 3 w.1.size w' a (tpL K root).length c (on (tpL K root)):=by
 have U:=bAl w (.cells #[.slice d.sa K.n d.sc,.slice d.pa K.m d.pc] 37);have ba:=ao w 37 #[.slice d.sa K.n d.sc,.slice d.pa K.m d.pc];have bi:(w.alloc (.cells #[.slice d.sa K.n d.sc,.slice d.pa K.m d.pc] 37)).1.size=w.1.size+1:=by simp
 have aO:(prog.info? 37).map (·.size)=some (#[Value.slice d.sa K.n d.sc,Value.slice d.pa K.m d.pc]:Array Value).size:=nu;have bb:Hid _:=h;unfold bC;go_enter func141,ntmps141;go_upto_region 1 with fail
 change Code.wp _ _ _ _ (w.alloc (.cells #[.slice d.sa K.n d.sc,.slice d.pa K.m d.pc] 37));have ag:=zy d K root _ (h.below U);generalize w.alloc (.cells #[.slice d.sa K.n d.sc,.slice d.pa K.m d.pc] 37)=bd at*;have L:Blk bd 37 w.1.size [.slice d.sa K.n d.sc,.slice d.pa K.m d.pc]:=ba;unfold bC at ag;clear ba bi;go_wp2_with (refine qi rfl 37 _ rfl w.1.size rfl 37 #[.slice d.sa K.n d.sc,.slice d.pa K.m d.pc] (0,0) _ L sB rfl aO ?_);refine ag.mono ?_;rintro e w1 be;obtain⟨ak,cs,Z,I,S⟩:=be;have ae:=L.below ak;have ap:=U.trans (ak.mono U.size);have V:=bAl w1 (.cells cs.toArray 207);have a9:=ao w1 207 cs.toArray;have aH:(prog.info? 207).map (·.size)=some cs.toArray.size:=by rw[k8,Z];exact pY
 have R:trz.toArray.size=cs.toArray.size:=by rw[k8,k8,Z];rfl
 have a2:=ap.trans (V.mono ap.size);have i:=ae.below V;have ad:Blk (w1.alloc (.cells cs.toArray 207)) 207 w1.1.size cs:=by
  have:Blk (w1.alloc (.cells cs.toArray 207)) 207 w1.1.size cs.toArray.toList:=a9;simpa using this
 have b:=kG a2 (kR i (kR ad V));clear ag L ae ak ap a2 i a9 ad V U;rcases S with⟨f,rfl⟩|⟨f,t,rfl⟩|⟨T,f,a3,rfl⟩
 ·have s:Hid (tpL K root=[]):=by show tpL K root=[];unfold tpL;rw[f]
  have r:Hid (tpB K root=false):=by show tpB K root=false;unfold tpB;rw[f];rfl
  go_upto_region 2 with(refine aL rfl 207 _ _ rfl w1 trz.toArray cs.toArray 207 rfl rfl aH R (dP I) ?_)
  change Code.wp _ _ _ _ (w1.alloc (.cells cs.toArray 207));generalize w1.alloc (.cells cs.toArray 207)=B at*;generalize l:w1.1.size=m at*;clear l;have q3:=bAl B (.cells #[] 3);have o:=kG (b.out.1.trans (q3.mono b.out.1.size)) (lY 3 w.1.size B b.out.1.size);clear q3 b;go_wp2_with fail
  go_ret2
  rw[s.out,r.out];exact⟨_,0,rfl,o.out.1,o.out.2⟩
 ·have a0:Hid _:=t;clear t;have s:Hid (tpL K root=mkd [] (nPg K)):=by show tpL K root= _;unfold tpL;rw[f];rfl
  have r:Hid (tpB K root=true):=by show tpB K root=true;unfold tpB;rw[f];rfl
  have H:K.n<=4096:=by
   cases J:bK K with
   |true=>exact(jj J).1.2.1
   |false=>unfold ldT at f;rw[J]at f;cases f
  go_upto_region 2 with(refine aL rfl 207 _ _ rfl w1 trz.toArray cs.toArray 207 rfl rfl aH R (dP I) ?_)
  change Code.wp _ _ _ _ (w1.alloc (.cells cs.toArray 207));generalize w1.alloc (.cells cs.toArray 207)=B at*;generalize l:w1.1.size=m at*;clear l;have j:=nw d K B H;unfold bC at j;have i:=b.out.2.1;go_wp2_with (refine qi rfl 37 _ rfl w.1.size rfl 37 #[.slice d.sa K.n d.sc,.slice d.pa K.m d.pc] (0,0) _ i sB rfl aO ?_);refine j.mono ?_;rintro e g ⟨rfl,k⟩;have X:nPg K<=1024:=by unfold nPg;omega
  have ah:=nj (nPg K) kH g;have Q:=bAl g (.cells (madeCells #[.bool false] (nPg K)) 4);have M:=nk 0 (nPg K) kH g (kX _);have u:=k.trans (Q.mono k.size);have C:=b.out.2.2.1.below u;have y:=b.out.1.trans (u.mono b.out.1.size);have a7:=b.out.1.size;have a8:=k.size;clear j k Q i;go_upto_region 5 with fail
  generalize g.alloc (.cells (madeCells #[.bool false] (nPg K)) 4)=q at*;generalize a5:g.1.size=mb at*;clear ah;have am:q.cell? ⟨m,1,none⟩=some (.int .i64 (-1)):=(C.cell 1).trans (by rw[a0.out];rfl);have A:Calls prog 177 #[.pointer (some ⟨m,0,none⟩),.int .i64 (-1),.slice (some ⟨mb,0,none⟩) (nPg K) (nPg K)] q fun e w'=>e= .returned (.tuple #[])/\OnlyB mb q w'/\Own1 4 0 w' (some ⟨mb,0,none⟩) (nPg K) (nPg K) (mkB [] (nPg K)):=(JV m mb (nPg K) q).mono (fun e w' bf=>by obtain⟨rfl,rfl⟩:=bf;exact⟨rfl,OnlyB.refl _ _,M⟩);clear M;go_wp2_with fail;refine A.mono ?_;rintro e aX ⟨rfl,O,N⟩;clear A am;have G:=y.trans (O.below kH y.size);have D:=tD 0 mb (nPg K) _ aX kH N;have v:Hid _:=G;clear y G O N u C;go_wp2_with fail;refine D.mono ?_;rintro e bh ⟨ai,an,rfl,F,P⟩;have o:=kG (v.out.trans (F.mono v.out.size)) (P.mono v.out.size);clear D F P;go_wp2_with fail
  go_ret2
  rw[s.out,r.out];exact⟨ai,an,rfl,o.out.1,o.out.2⟩
 ·have s:Hid (tpL K root=mkd (bB T) (nPg K)):=by show tpL K root= _;unfold tpL;rw[f];rfl
  have r:Hid (tpB K root=true):=by show tpB K root=true;unfold tpB;rw[f];rfl
  have bc:Hid _:=a3;have W:Hid (dOk K):=by
   cases J:bK K with
   |true=>exact jj J
   |false=>unfold ldT at f;rw[J]at f;cases f
  have H:=W.out.1.2.1;clear a3;go_upto_region 2 with(refine aL rfl 207 _ _ rfl w1 trz.toArray cs.toArray 207 rfl rfl aH R (dP I) ?_)
  change Code.wp _ _ _ _ (w1.alloc (.cells cs.toArray 207));generalize w1.alloc (.cells cs.toArray 207)=B at*;generalize l:w1.1.size=m at*;have z:Hid (w1.1.size=m):=l;clear l;obtain⟨ns,nv,na,nc,seen,tall,sb,p,t,a6,Y,ab,ac⟩:=bc.out.ex;have n:=kG t (kR Y (kR ab ac));clear t Y ab ac;have j:=nw d K B H;unfold bC at j;have i:=b.out.2.1;go_wp2_with (refine qi rfl 37 _ rfl w.1.size rfl 37 #[.slice d.sa K.n d.sc,.slice d.pa K.m d.pc] (0,0) _ i sB rfl aO ?_);refine j.mono ?_;rintro e g ⟨rfl,k⟩;have bg:sb<g.1.size:=by
   have a4:Below w1.1.size w1 g:=by rw[z.out];exact b.out.2.2.2.trans (k.mono (by have:=b.out.2.2.2.size;have:=z.out;omega))
   exact(n.out.2.2.2 m g (b.out.2.2.1.below k) a4).mks.lt rfl
  have X:nPg K<=1024:=by unfold nPg;omega
  have ah:=nj (nPg K) kH g;have Q:=bAl g (.cells (madeCells #[.bool false] (nPg K)) 4);have M:=nk 0 (nPg K) kH g (kX _);have u:=k.trans (Q.mono k.size);have C:=b.out.2.2.1.below u;have y:=b.out.1.trans (u.mono b.out.1.size);have a7:=b.out.1.size;have a8:=k.size;clear j k Q i;go_upto_region 5 with fail
  generalize g.alloc (.cells (madeCells #[.bool false] (nPg K)) 4)=q at*;generalize a5:g.1.size=mb at*;clear ah;have af:=n.out.2.2.2 m q C (by rw[z.out];exact b.out.2.2.2.trans (u.mono (by have:=b.out.2.2.2.size;have:=z.out;omega)));have ar:=W.out;have a1:=jS bb.out ar;have E:=jQ a1 _ _ _ _ _ _ n.out.2.2.1;have aw:mb≠sb:=kH;have am:q.cell? ⟨m,1,none⟩=some (.int .i64 p):=(C.cell 1).trans (by rw[n.out.1];rfl);have A:=(pV (mb:=mb) aw a6 X T).1 E.isT E.full E.sm p [] q af M n.out.2.1 (fun x hx=>by have:=E.pgs x hx;exact⟨kH,this.2⟩);rw[lj]at A;clear af a1 E;clear M;go_wp2_with fail;refine A.mono ?_;rintro e aX ⟨rfl,O,N⟩;clear A am;have G:=y.trans (O.below kH y.size);have D:=tD 0 mb (nPg K) _ aX kH N;have v:Hid _:=G;clear y G O N u C;go_wp2_with fail;refine D.mono ?_;rintro e bh ⟨ai,an,rfl,F,P⟩;have o:=kG (v.out.trans (F.mono v.out.size)) (P.mono v.out.size);clear D F P;go_wp2_with fail
  go_ret2
  rw[s.out,r.out];exact⟨ai,an,rfl,o.out.1,o.out.2⟩
theorem p5{M}:∀{ls sn:List Int},mOk M ls sn=true↔(∀x∈ls,2<=x/\x< (M:Int)/\x∉sn)/\ls.Nodup
 |[],sn=>by simp[mOk]
 |x::ls,sn=>by
  rw[mOk];by_cases h:x<2\/(M:Int)<=x\/sn.contains x=true
  ·rw[qb h];constructor
   ·intro h;cases h
   ·rintro⟨b,_⟩;have:=b x (List.mem_cons_self);rw[m9]at h;rcases h with h|h|h
    ·omega
    ·omega
    ·exact absurd h this.2.2
  ·rw[q4 h,p5 (ls:=ls) (sn:=x::sn),o9];rw[m9]at h;constructor
   ·rintro⟨b,d⟩;refine⟨fun y c=> ?_,fun hx=>(b x hx).2.2 (List.mem_cons_self),d⟩;rcases l3.1 c with rfl|c
    ·exact⟨kH,kH,fun a=>h (kT (kT a))⟩
    ·have:=b y c;exact⟨this.1,this.2.1,fun a=>this.2.2 (List.mem_cons_of_mem _ a)⟩
   ·rintro⟨b,d,e⟩;refine⟨fun y c=> ?_,e⟩;have:=b y (List.mem_cons_of_mem _ c);refine⟨this.1,this.2.1,fun a=> ?_⟩;rcases l3.1 a with rfl|a
    ·exact d c
    ·exact this.2.2 a
def upF(a:Nat)(n:Nat):List Int:=(List.range n).map fun i=>((a+i:Nat):Int)
theorem zA(a n):upF a (n+1)=(a:Int)::upF (a+1) n:=by
 unfold upF;rw[List.range_succ_eq_map,k4,List.map_map];congr 1;apply List.map_congr_left;intro i _;simp only[Function.comp];congr 1;omega
theorem zB:∀(a:Nat)(l:List Int),l.Pairwise (· < ·)->(∀x∈l,(a:Int)<=x/\x< ((a+l.length:Nat):Int))->l=upF a l.length
 |a,[],_,_=>rfl
 |a,x::xs,c,e=>by
  rw[o8]at c;have hx:=e x List.mem_cons_self;have b:=zB (a+1) xs c.2 (fun y d=>by
   have g:=c.1 y d;have h:=e y (List.mem_cons_of_mem _ d);rw[m1]at h;have i:=hx.1;constructor<;>omega)
  have f:x=(a:Int):=by
   cases xs with
   |nil=>simp at hx;omega
   |cons y j=>
    rw[m1,zA]at b;have d:=(List.cons.inj b).1;have g:=c.1 y List.mem_cons_self;omega
  rw[m1,zA,<-b,f]
theorem JX{a n x}:x∈upF a n↔(a:Int)<=x/\x< ((a+n:Nat):Int):=by
 unfold upF;rw[oj];constructor
 ·rintro⟨i,b,rfl⟩;have:=m3.1 b;constructor<;>omega
 ·rintro⟨c,d⟩;exact⟨x.toNat-a,m3.2 kH,kH⟩
theorem JY(a n):(upF a n).Nodup:=by
 unfold upF List.Nodup;rw[List.pairwise_map];exact List.nodup_range.imp (fun h e=>h kH)
theorem JZ(a n):(upF a n).length=n:=by simp[upF]
def srt(l:List Int):List Int:=l.mergeSort fun x y=>decide (x<=y)
theorem p7(l):(srt l).Perm l:=List.mergeSort_perm _ _
theorem jT(l):(srt l).length=l.length:=(p7 l).length_eq
theorem J4(l):(srt l).Pairwise (· <= ·):=by
 have:=List.pairwise_mergeSort (le:=fun x y:Int=>decide (x<=y)) (fun a b c d e=>by simp at*;omega) (fun a b=>by simp;omega) l;exact this.imp (fun h=>by simpa using h)
def fI(l:List Int)(M:Nat):Bool:=(srt l==upF 2 l.length)&&(2+l.length==M)
theorem J8{l M}:fI l M=true↔((∀x∈l,2<=x/\x< (M:Int))/\l.Nodup)/\2+l.length=M:=by
 unfold fI;rw[ly,beq_iff_eq,beq_iff_eq];constructor
 ·rintro⟨h,d⟩;have c:=p7 l;rw[h]at c;refine⟨⟨fun x hx=> ?_,c.nodup_iff.1 (JY _ _)⟩,d⟩;have:=JX.1 (c.mem_iff.2 hx);constructor<;>omega
 ·rintro⟨⟨e,f⟩,d⟩;refine⟨?_,d⟩;have c:=p7 l;have j:(srt l).Pairwise (· < ·):=by
   have g:=J4 l;have i:=c.nodup_iff.2 f;exact List.Pairwise.imp₂ (fun a b(h:a<=b)(k:a≠b)=>by omega) g i
  have:=zB 2 (srt l) j (fun x hx=>by
   have:=e x (c.mem_iff.1 hx);rw[jT];constructor<;>omega)
  rw[jT]at this;exact this
theorem Kc{sn N x}:x∈mkd sn N↔x∈sn/\0<=x/\x< (N:Int):=by
 unfold mkd;rw[oj];constructor
 ·rintro⟨i,a,rfl⟩;rw[List.mem_filter]at a;exact⟨m9.1 a.2,kH,by have:=m3.1 a.1;omega⟩
 ·rintro⟨b,c,d⟩;have e:((x.toNat:Nat):Int)=x:=kH;exact⟨x.toNat,List.mem_filter.2 ⟨m3.2 kH,by rw[e];exact m9.2 b⟩,e⟩
theorem Kd(sn N):(mkd sn N).Nodup:=by
 unfold mkd List.Nodup;rw[List.pairwise_map];exact(List.nodup_range.filter _).imp (fun h e=>h kH)
theorem tH{sn}{N:Nat}(a:∀x∈sn,0<=x/\x< (N:Int))(b:sn.Nodup):(mkd sn N).Perm sn:=by
 rw[List.perm_ext_iff_of_nodup (Kd _ _) b];intro x;rw[Kc];exact⟨fun h=>h.1,fun h=>⟨h,a x h⟩⟩
def mrk(M:Nat)(t f o:List Int):Bool:=mOk M t []&&mOk M f (t.reverse++[])&&mOk M o (f.reverse++(t.reverse++[]))&&((mkd (o.reverse++(f.reverse++(t.reverse++[]))) M).length+2==M)
theorem Ke{M b e f o}(u:e.Perm b):mrk M b f o=fI (e++(f++o)) M:=by
 have i:(e++(f++o)).Perm (b++(f++o)):=u.append_right _;have v:mrk M b f o=true↔fI (e++(f++o)) M=true:=by
  rw[J8];unfold mrk;rw[ly,ly,ly,p5,p5,p5,beq_iff_eq,i.nodup_iff,i.length_eq];have t:(∀x∈e++(f++o),2<=x/\x< (M:Int))↔(∀x∈b++(f++o),2<=x/\x< (M:Int)):=⟨fun h x hx=>h x (i.mem_iff.2 hx),fun h x hx=>h x (i.mem_iff.1 hx)⟩;rw[t];have s:(o.reverse++(f.reverse++(b.reverse++[])))=(b++(f++o)).reverse:=by simp
  rw[s];have key:((((∀x∈b,2<=x/\x< (M:Int)/\x∉[])/\b.Nodup)/\(∀x∈f,2<=x/\x< (M:Int)/\x∉b.reverse++[])/\f.Nodup)/\(∀x∈o,2<=x/\x< (M:Int)/\x∉f.reverse++(b.reverse++[]))/\o.Nodup)↔((∀x∈b++(f++o),2<=x/\x< (M:Int))/\(b++(f++o)).Nodup):=by
   simp only[List.nodup_append,mx,lj,List.mem_reverse,not_or];constructor
   ·rintro⟨⟨⟨p,k⟩,l,m⟩,g,n⟩;refine⟨fun x hx=> ?_,k,⟨m,n,?_⟩,?_⟩
    ·rcases hx with h|h|h
     ·exact⟨(p x h).1,(p x h).2.1⟩
     ·exact⟨(l x h).1,(l x h).2.1⟩
     ·exact⟨(g x h).1,(g x h).2.1⟩
    ·rintro x hx y a rfl;exact(g x a).2.2.1 hx
    ·rintro x hx y a rfl;rcases a with h|h
     ·exact(l x h).2.2 hx
     ·exact(g x h).2.2.2 hx
   ·rintro⟨h,k,⟨m,n,q⟩,j⟩;exact⟨⟨⟨fun x hx=>⟨(h x (kV hx)).1,(h x (kV hx)).2,List.not_mem_nil⟩,k⟩,fun x hx=>⟨(h x (kT (kV hx))).1,(h x (kT (kV hx))).2,fun a=>j x a x (kV hx) rfl⟩,m⟩,fun x hx=>⟨(h x (kT (kT hx))).1,(h x (kT (kT hx))).2,fun a=>q x a x hx rfl,fun a=>j x a x (kT hx) rfl⟩,n⟩
  rw[key];constructor
  ·rintro⟨⟨c,d⟩,r⟩;refine⟨⟨c,d⟩,?_⟩;have:=(tH (sn:=(b++(f++o)).reverse) (N:=M) (fun x hx=>by have:=c x (List.mem_reverse.1 hx);constructor<;>omega) ((List.reverse_perm _).nodup_iff.2 d)).length_eq;rw[List.length_reverse]at this;omega
  ·rintro⟨⟨c,d⟩,r⟩;refine⟨⟨c,d⟩,?_⟩;have:=(tH (sn:=(b++(f++o)).reverse) (N:=M) (fun x hx=>by have:=c x (List.mem_reverse.1 hx);constructor<;>omega) ((List.reverse_perm _).nodup_iff.2 d)).length_eq;rw[List.length_reverse]at this;omega
 cases c:mrk M b f o<;>cases d:fI (e++(f++o)) M<;>simp_all
def spN(K:Nat->TxK):Nat->Nat
 |0=>0
 |k+1=>spN K k+(K k).ni
def spR(K:Nat->TxK):Nat->Nat->List Value
 |0=>fun _=>[]
 |k+1=>fR (spR K k) (spN K k) (dH (K k).P)
theorem p8(K){k n}(h:k<=n):spN K k<=spN K n:=by
 induction n with
 |zero=>have:k=0:=kH;subst this;exact kE
 |succ n ih=>
  rcases og h with h1|rfl
  ·exact k2 (ih kH) (Nat.le_add_right _ _)
  ·exact kE
theorem Kf(a n c l K w)(h:RTxs w a n c l K)(V:n<=1048576)(W:spN K n<=1048576):
 Calls prog 165 #[.slice a n c] w fun e w'=> ∃v y,e= .returned (.slice v (spN K n) y)/\ORow 52 33 w.1.size w' v (spN K n) y (spR K n)/\Below w.1.size w w':=by
 have E:=bAl w (.cells #[] 52);have r:=kG E (mo 52 33 w.1.size w kE (spR K 0));clear E;go_enter func165,ntmps165;go_upto_region 2 with fail
 generalize w.alloc (.cells #[] 52)=T at*;go_wp2_with fail;go_loopw [3,4] (fun s i wr=> ∃(j:Nat)(f:Option Addr)(g:Nat),s= .slice f (spN K j) g/\i= .int .i64 (j:Nat)/\j<=n/\ORow 52 33 w.1.size wr f (spN K j) g (spR K j)/\Below w.1.size w wr) (fun _ i _=>n-(intOf i).toNat)
 case atStart=>exact⟨0,_,0,rfl,rfl,kX _,r.out.2,r.out.1⟩
 case round=>
  obtain⟨j,f,g,rfl,rfl,U,p,d⟩:=hrel;obtain⟨P,rfl⟩:∃x,x=wr:=⟨_,rfl⟩;clear r;by_cases q:j<n
  ·have N:(j:Int)< (n:Int):=kH;have t:=h.below d;obtain⟨b,off,rfl,R,z⟩:=t.row.at_ kH;have Q:P.cell? ⟨b,off+j*3,none⟩=some (.slice (l j).ia (K j).ni (l j).ic):=by have:=z j 0 q kH;simpa [bU,txc]using this
   have A:=(t.each j q).ins;have C:=p8 K (show j+1<=n by omega);have o:Hid (spN K (j+1)=spN K j+(K j).ni/\spR K (j+1)=fR (spR K j) (spN K j) (dH (K j).P)):=⟨rfl,rfl⟩;rw[o.out.1]at C;have F:Hid _:=d;have D:=d.size;have G:Hid _:=p;clear z t d;generalize (K j).ni=m at*;generalize spN K j=sn at*;go_wp2_with (refine oI rfl _ _ kh rfl w.1.size f sn g (spR K j) rfl p (l j).ia m (l j).ic (dH (K j).P) rfl A kH kH D ?_;rintro H J X O L);have I:=F.out.trans (kF.grown L D (fun k M=>(qX G.out k M).1));go_roundw
   case rel=>exact⟨j+1,H,J,by rw[o.out.1],by go_num,kH,by rw[o.out.1,o.out.2];exact O,I⟩
   case measure=>simp[intOf];omega
  ·have B:j=n:=kH;subst B;have S:¬(j:Int)< (j:Int):=kH;have u:=kG p d;clear h p d;go_wp2_with fail;go_ret;exact⟨f,g,rfl,u.out⟩
theorem p9(d K g r i f w)(h:RDisk w d K)(D:Small d K):
 Calls prog 10 #[.agg (stV d K g r i f).toArray] w fun e w'=> ∃a,e= .returned (.agg (stV a K g r i f).toArray)/\Below w.1.size w w'/\ODisk w.1.size w' a K/\a.sN=d.sN/\a.pN=d.pN:=by
 obtain⟨q,m⟩:∃V,V=w.alloc (.cells (stV d K g r i f).toArray 29):=⟨_,rfl⟩;obtain⟨s,n⟩:∃V,V=q.alloc (.cells stZ.toArray 40):=⟨_,rfl⟩;obtain⟨l,o⟩:∃V,V=s.alloc (.cells stZ.toArray 40):=⟨_,rfl⟩;have P:Below w.1.size w q:=by rw[m];exact bAl _ _
 have Q:Below q.1.size q s:=by rw[n];exact bAl _ _
 have q3:Below s.1.size s l:=by rw[o];exact bAl _ _
 have S:q.1.size=w.1.size+1:=by rw[m];simp
 have T:s.1.size=w.1.size+1+1:=by rw[n];simp[S]
 have bg:l.1.size=w.1.size+1+1+1:=by rw[o];simp[T]
 have F:=Q.trans (q3.mono Q.size);have G:=(by rw[m];exact ao w _ _:Blk q 29 w.1.size (stV d K g r i f)).below F;have ap:=(by rw[n,<-S];exact ao q _ _:Blk s 40 (w.1.size+1) stZ).below q3;have am:Blk l 40 (w.1.size+1+1) stZ:=by rw[o,<-T];exact ao s _ _
 have E:=P.trans (F.mono P.size);have a2:l.cell? ⟨w.1.size,0,none⟩=some (.slice d.sa K.n d.sc):=G.cell 0;have a3:l.cell? ⟨w.1.size,1,none⟩=some (.slice d.pa K.m d.pc):=G.cell 1;have N:=GK d K l (h.below E) D.n D.m D.sN D.pN;unfold bC at N;have t:=kG G (kR ap (kR am E));have H:w.1.size+1+1<l.1.size:=kH;clear P Q q3 F S T bg G ap am E h D;go_enter func10,ntmps10;go_upto_region 2 with fail
 change Code.wp _ _ _ _ (((w.alloc (.cells (stV d K g r i f).toArray 29)).alloc (.cells stZ.toArray 40)).alloc (.cells stZ.toArray 40));rw[<-m,<-n,<-o];clear m n o;go_wp2_with fail;refine N.mono ?_;rintro e y ⟨a,rfl,u,ar,ac,ak⟩;have k:=t.out.2.2.1.below u;have X:=t.out.2.2.2.trans (u.mono t.out.2.2.2.size);have j:OnlyB (w.1.size+1+1) y ((y.setCell ⟨w.1.size+1+1,0,none⟩ (.slice a.sa K.n a.sc)).setCell ⟨w.1.size+1+1,1,none⟩ (.slice a.pa K.m a.pc)):=(aB _ _ _ _).trans (aB _ _ _ _);have bh:=u.size;have I:=(t.out.1.below u).only j kH;have L:=(t.out.2.1.below u).only j kH;have J:Blk ((y.setCell ⟨w.1.size+1+1,0,none⟩ (.slice a.sa K.n a.sc)).setCell ⟨w.1.size+1+1,1,none⟩ (.slice a.pa K.m a.pc)) 40 (w.1.size+1+1) (stV a K 0 0 0 0):=(k.set 0 (.slice a.sa K.n a.sc)).set 1 (.slice a.pa K.m a.pc);have a8:y.cell? ⟨w.1.size+1+1,0,none⟩=some (.slice none 0 0):=k.cell 0;have a9:y.cell? ⟨w.1.size+1+1,1,none⟩=some (.slice none 0 0):=k.cell 1;have ad:=k.free 0;have ae:=k.free 1;have aw:=xq ar j kE H;have Y:=X.trans (j.below kH kH);have c:=kG I (kR L (kR J (kR aw (kR Y (kR ac ak)))));clear N a2 a3 u ar ac ak X j I L J aw Y t;go_upto_region 3 with fail
 generalize (y.setCell ⟨w.1.size+1+1,0,none⟩ (.slice a.sa K.n a.sc)).setCell ⟨w.1.size+1+1,1,none⟩ (.slice a.pa K.m a.pc)=C at*;clear a8 a9 ad ae;have a4:C.cell? ⟨w.1.size,2,none⟩=some (.int .i64 g):=c.out.1.cell 2;have a5:C.cell? ⟨w.1.size,3,none⟩=some (.int .i64 r):=c.out.1.cell 3;have a6:C.cell? ⟨w.1.size,4,none⟩=some (.int .i64 i):=c.out.1.cell 4;have a7:C.cell? ⟨w.1.size,5,none⟩=some (.int .i64 f):=c.out.1.cell 5;have U:=GR g r i f C;have bi:=c.out.2.2.1.lt;clear k;go_wp2_with fail;refine U.mono ?_;rintro e p ⟨rfl,x⟩;have b:=c.out.2.2.1.below x;have j:OnlyB (w.1.size+1+1) p ((((p.setCell ⟨w.1.size+1+1,2,none⟩ (.int .i64 g)).setCell ⟨w.1.size+1+1,3,none⟩ (.int .i64 r)).setCell ⟨w.1.size+1+1,4,none⟩ (.int .i64 i)).setCell ⟨w.1.size+1+1,5,none⟩ (.int .i64 f)):=(((aB _ _ _ _).trans (aB _ _ _ _)).trans (aB _ _ _ _)).trans (aB _ _ _ _);have bj:=x.size;have M:=(c.out.2.1.below x).only j kH;have an:Blk ((((p.setCell ⟨w.1.size+1+1,2,none⟩ (.int .i64 g)).setCell ⟨w.1.size+1+1,3,none⟩ (.int .i64 r)).setCell ⟨w.1.size+1+1,4,none⟩ (.int .i64 i)).setCell ⟨w.1.size+1+1,5,none⟩ (.int .i64 f)) 40 (w.1.size+1+1) (stV a K g r i f):=(((b.set 2 (.int .i64 g)).set 3 (.int .i64 r)).set 4 (.int .i64 i)).set 5 (.int .i64 f);have ba:p.cell? ⟨w.1.size+1+1,2,none⟩=some (.int .i64 0):=b.cell 2;have bb:p.cell? ⟨w.1.size+1+1,3,none⟩=some (.int .i64 0):=b.cell 3;have bc:p.cell? ⟨w.1.size+1+1,4,none⟩=some (.int .i64 0):=b.cell 4;have bd:p.cell? ⟨w.1.size+1+1,5,none⟩=some (.int .i64 0):=b.cell 5;have af:=b.free 2;have ag:=b.free 3;have ah:=b.free 4;have ai:=b.free 5;have aH:=c.out.2.2.2.1.below x;have Z:=c.out.2.2.2.2.1.trans (x.mono c.out.2.2.2.2.1.size);have aO:=xq aH j kE H;have ab:=Z.trans (j.below kH kH);have A:=kG aO (kR ab c.out.2.2.2.2.2);clear U x j aH Z aO ab c a4 a5 a6 a7;go_upto_region 4 with fail
 generalize (((p.setCell ⟨w.1.size+1+1,2,none⟩ (.int .i64 g)).setCell ⟨w.1.size+1+1,3,none⟩ (.int .i64 r)).setCell ⟨w.1.size+1+1,4,none⟩ (.int .i64 i)).setCell ⟨w.1.size+1+1,5,none⟩ (.int .i64 f)=a1 at*;clear b ba bb bc bd af ag ah ai;have R:(prog.info? 40).map (·.size)=some (stV a K g r i f).toArray.size:=mP;have bf:stZ.toArray.size=(stV a K g r i f).toArray.size:=rfl;have be:=Blk.setRow M (stV a K g r i f);have aX:=aN a1 (w.1.size+1) (stV a K g r i f).toArray;have W:=A.out.2.1.trans (aX.below (B:=w.1.size) kH A.out.2.1.size);have a0:=Gy (cells:=(stV a K g r i f).toArray) (g:=w.1.size+1) A.out.1 (show w.1.size<=l.1.size by omega) kH;have z:=kG W (kR a0 A.out.2.2);have O:=dP (xn a K g r i f);clear W a0 aX A;go_wp2_with (first|(refine qi rfl 40 _ rfl (w.1.size+1+1) rfl 40 (stV a K g r i f).toArray (0,0) _ an underlying40 rfl R ?_)|(refine qB rfl 40 _ _ rfl (w.1.size+1) (stV a K g r i f).toArray rfl rfl 40 _ M R bf O ?_));refine p6 (v:= .agg (stV a K g r i f).toArray) ?_ rfl ⟨a,rfl,z.out.1,z.out.2.1,z.out.2.2⟩;exact r3 results10 _ _ (w.1.size+1) 40 (stV a K g r i f).toArray (0,0) _ rfl be underlying40 rfl R
theorem Kg(d K g r p f a w)(h:RDisk w d K)(u:0<=a)(v:a<=1048576):
 Calls prog 8 #[.agg (stV d K g r p f).toArray,.int .i64 a] w fun e w'=> ∃z:Int,e= .returned (.int .i64 z)/\Below w.1.size w w'/\(z= -1\/(z=a-K.n-cN d.sN K.n-K.m-cN d.pN K.m/\0<=z)):=by
 obtain⟨c,b⟩:∃A,A=w.alloc (.cells (stV d K g r p f).toArray 29):=⟨_,rfl⟩;have m:Below w.1.size w c:=by rw[b];exact bAl _ _
 have l:Blk c 29 w.1.size (stV d K g r p f):=by rw[b];exact ao w _ _
 have s:c.cell? ⟨w.1.size,0,none⟩=some (.slice d.sa K.n d.sc):=l.cell 0;have t:c.cell? ⟨w.1.size,1,none⟩=some (.slice d.pa K.m d.pc):=l.cell 1;have j:=GE d K a c (h.below m) u v;unfold bC at j;have n:Hid _:=m;clear l m h;go_enter func8,ntmps8;go_upto_region 1 with fail
 change Code.wp _ _ _ _ (w.alloc (.cells (stV d K g r p f).toArray 29));rw[<-b];clear b;go_wp2_with fail;refine j.mono ?_;rintro e x ⟨z,rfl,o,k⟩;have i:Hid (Below w.1.size w x):=n.out.trans (o.mono n.out.size);have q:Hid _:=k;clear j o s t;by_cases y:z<0
 ·clear k;go_wp2_with fail;go_ret;exact⟨-1,rfl,i.out,kV rfl⟩
 ·clear k;go_wp2_with fail;go_ret;exact⟨z,rfl,i.out,q.out⟩
