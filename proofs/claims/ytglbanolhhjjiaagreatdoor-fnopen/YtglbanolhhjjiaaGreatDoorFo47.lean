import Derived.Test.YtglbanolhhjjiaaGreatDoorFo45
import Derived.Test.YtglbanolhhjjiaaGreatDoorFo43
namespace Go.Proofs.YtglbanolhhjjiaaGreatDoor
open Go.Proofs.Tryz
open Go.RowKit
set_option linter.unusedVariables false
set_option maxRecDepth 100000
set_option maxHeartbeats 32000000
def dpT:Tr->Nat
 | .leaf _ _=>0
 | .node _ ks=>dpT ks+1
 | .nil=>0
 | .cons _ t _=>dpT t
theorem Ie:∀{n:Nat}{t:Tr},wf n t->dpT t=n:=by
 intro n;induction n with
 |zero=>
  intro t h;rcases aO h with⟨id,es,_,rfl⟩|⟨id,L,m,e,_⟩
  ·rfl
  ·omega
 |succ n ih=>
  intro t h;rcases aO h with⟨id,es,e,_⟩|⟨id,L,m,e,rfl⟩
  ·omega
  ·obtain⟨a,b,_⟩:=bq.1 h;cases L with
   |nil=>exact absurd rfl a
   |cons x L=>
    show dpT (.cons x.1 x.2 (kds L))+1=n+1;rw[dpT,ih (b x vo)]
noncomputable def upT(K:DK)(root:Int):OTr:=match ldT K root with|some (some T)=>some (dpT T,T)|_=>none
def dn(cs:List Ch)(s:OTr×Bool):OTr×Bool:=cs.foldl (fun s c=>((chg c.1 c.2.1 c.2.2 s.1).1,s.2||(chg c.1 c.2.1 c.2.2 s.1).2)) s
theorem If{cs:List Ch}{j}(a:j<cs.length)(s):dn (cs.take (j+1)) s=((chg (cs.getD j ch0).1 (cs.getD j ch0).2.1 (cs.getD j ch0).2.2 (dn (cs.take j) s).1).1,(dn (cs.take j) s).2||(chg (cs.getD j ch0).1 (cs.getD j ch0).2.1 (cs.getD j ch0).2.2 (dn (cs.take j) s).1).2):=by
 have e:cs.take (j+1)=cs.take j++[cs.getD j ch0]:=by rw[A6];simp[List.getD,List.getElem?_eq_getElem a]
 unfold dn;rw[e,List.foldl_append]
 rfl
noncomputable def upR(K:DK)(gen root used fr:Int)(cs:List Ch):List OpK×SupK×Int:=
 if whS K gen root used fr=true/\gen≠1000000000000 then
  if gu cs=true then
   if(dn cs (upT K root,false)).2=true then wrR (nPg K) gen used (dn cs (upT K root,false)).1 (tpL K root) ((flT K fr).getD ([],[])).1 ((flT K fr).getD ([],[])).2
   else([],(gen,root,used,fr),0)
  else([],(0,0,0,0),2)
 else([],(0,0,0,0),1)
structure ChI(B0 g:Nat)(rest:List Value)(w:World)(o:OTr)(rt:Int)(ns:List NdK)(nv:Nat->NdV)(na:Option Addr)(nc j:Nat)(u:World):Prop where
 st:USt B0 g rest rt u ns nv na nc
 uo:UO ns rt o
 fr:OnlyS (fun k=>B0<=k) w u
 dp:dpO o<=1024+j
 ln:ns.length<=1024+j*1430
theorem Ig{cs}(h:gu cs=true):cs.length<=400/\∀x∈cs,eOk (x.1,x.2.1):=by
 unfold gu at h;simp only[wX,D3,y4]at h;refine⟨h.1,fun x hx=> ?_⟩;have:=h.2 x hx;unfold gq at this;simp only[wX,D3]at this;have a:=this.1.1;unfold mf at a;rw[D3]at a;exact⟨a.1,a.2,this.1.2⟩
theorem yP{K c a b fr}(h:whS K c a b fr=true):∃d own,flT K fr=some (d,own)/\WhF K c a b fr d own:=by
 cases e:flT K fr with
 |none=>
  unfold whS iG at h;rw[e]at h;simp at h
 |some p=>exact⟨p.1,p.2,rfl,Hw h e⟩
theorem Ih{K}(t)(h:(pgD K).ok t=true):((pgD K).bd t).length<=240:=by
 have c:vB K t=true:=h;show(vL K t).length<=240;by_cases b:eD K t
 ·have a:vL K t=dj t (pgL K t.toNat):=by unfold vL;rw[ii b]
  have e:vB K t=gl t (pgL K t.toNat):=by unfold vB;rw[ii b]
  rw[e]at c;have d:cC t (pgL K t.toNat):= @of_decide_eq_true _ (Classical.propDecidable _) c;have f:=ja d.2.1;rw[a,lY d];unfold aY aJ;rw[wR];omega
 ·have a:vL K t=[]:=by unfold vL;rw[ij b]
  rw[a];simp
theorem yQ{ns rt}:∀{o:OTr},UO ns rt o->wfO o
 |none,_=>trivial
 |some x,h=>h.1
theorem Ii(cs):∀(s:OTr×Bool),(∀x∈cs,eOk (x.1,x.2.1))->wfO s.1->pgS (pgZ (dn cs s).1) (pgZ s.1)/\wfO (dn cs s).1:=by
 induction cs with
 |nil=>intro s _ h;exact⟨fun x hx=>v6 hx,h⟩
 |cons c cs ih=>
  intro s b e;have f:=wG (d:=c.2.2) (b c vo) e;have g:=GW (k:=c.1) (v:=c.2.1) (d:=c.2.2) e;have a:=ih ((chg c.1 c.2.1 c.2.2 s.1).1,s.2||(chg c.1 c.2.1 c.2.2 s.1).2) (fun x hx=>b x (by simp[hx])) f.1;refine⟨fun x hx=> ?_,a.2⟩;rcases a.1 x hx with h|h
  ·exact v7 h
  ·exact g x h
theorem Ij{K b}(f:dOk K)(i:PgW (pgD K) (nPg K)):∀x∈pgZ (upT K b),x∈tpL K b:=by
 intro x hx;unfold upT at hx;unfold tpL;cases a:ldT K b with
 |none=>rw[a]at hx;simp[pgZ]at hx
 |some y=>
  cases y with
  |none=>rw[a]at hx;simp[pgZ]at hx
  |some T=>
   rw[a]at hx;have d:x∈ar T:=hx;have c:∃g,rdT (pgD K) (nPg K+1) 0 ⟨[], -1⟩ b=some (T,g):=by
    unfold ldT at a;rw[fj f]at a;simp only at a;split at a
    ·cases a
    ·obtain⟨y,j,e⟩:=xc.1 a;split at e
     ·cases e;exact⟨y.2,j⟩
     ·cases e
   obtain⟨g,c⟩:=c;have:=(iW i _ _ _ _ _ _ c).pgs x d;show x∈mkd (ar T) (nPg K);exact wN.2 ⟨d,uA,this.2⟩
theorem USt.mono{B0 a g rest rt w ns nv na nc}(h:USt B0 g rest rt w ns nv na nc)(b:a<=B0):USt a g rest rt w ns nv na nc:=⟨h.blk,ORow.mono h.nodes b,h.each,wg b h.gB⟩
theorem Ik{K a w0 d f b cs g}(y:dOk K)(D:PgW (pgD K) (nPg K))(s:w0.1.size<=d.1.size)(q:Below w0.1.size w0 d)(j:Below d.1.size d f)(x:Below f.1.size f b)(B:Blk b 116 g cs)(h:(ldT K a=some none/\cs=tr1)\/∃T,ldT K a=some (some T)/\LdT K a d.1.size f cs T):∃rest rt ns nv na nc,ChI w0.1.size g rest w0 (upT K a) rt ns nv na nc 0 b:=by
 have m:Below w0.1.size w0 b:=q.trans ((j.trans (x.mono j.size)).mono s);have o:OnlyS (fun k=>w0.1.size<=k) w0 b:=OnlyS.ofBelow m;rcases h with⟨e,rfl⟩|⟨T,e,E⟩
 ·refine⟨[.slice none 0 0,.int .i64 (-1),.bool false], -1,[],fun _=>aF,none,0,⟨B,lJ _ _ _ _ _,fun i G=>absurd G (xN _),m.size⟩,?_,o,?_,vo⟩
  ·unfold upT;rw[e];rfl
  ·unfold upT;rw[e];simp[dpO]
 ·obtain⟨ns,nv,na,nc,seen,tall,sb,p,rfl,I,v,l,z⟩:=E.ex;have C:=(z g b B x);obtain⟨n,L,c,_⟩:=wJ (fun t H=>Ih t H) _ _ _ _ _ _ (A4 0) l;have F:=Ie c;obtain⟨P,w⟩:=FB c p v;have u:(ar T).Nodup:=by
   have r:=(iW D _ _ _ _ _ _ l).seen;rw[wP]at r;exact(r.nodup_iff).1 C.ok.nodup
  have J:nPg K<=1024:=by have:=y.1.2.1;unfold nPg;omega
  have A:upT K a=some (n,T):=by unfold upT;rw[e];show some (dpT T,T)= _;rw[F]
  refine⟨_,p,ns,nv,na,nc,C.ust.mono s,?_,o,?_,uA⟩
  ·rw[A];exact⟨c,P,w,w.nodup u⟩
  ·rw[A];show n<=_;omega
theorem lD(d K i f g fr bs bu cs w)(d4:RDisk w d K)(c9:RRow w 3 bs cs.length bu (chF cs))(dk:cs.length<=1048576)(dD:∀x∈cs,x.1.size<=1048575/\x.2.1.size<=1048575)(R)(db:R=upR K i f g fr cs):
 Calls prog 56 #[av d K,.agg (al i f g fr).toArray,.slice bs cs.length bu] w fun e w'=> ∃a c,e= .returned (.tuple #[.slice a R.1.length c,.agg (al R.2.1.1 R.2.1.2.1 R.2.1.2.2.1 R.2.1.2.2.2).toArray,.int .i64 R.2.2])/\Below w.1.size w w'/\ROp w' a c R.1:=by
 obtain⟨N,V⟩:=aa (w.alloc (.cells #[.slice d.sa K.n d.sc,.slice d.pa K.m d.pc] 35));obtain⟨O,W⟩:=aa (N.alloc (.cells (al i f g fr).toArray 36));obtain⟨ap,X⟩:=aa (O.alloc (.cells (al 0 0 0 0).toArray 36));obtain⟨l,Y⟩:=aa (ap.alloc (.cells #[] 157));have cA:Below w.1.size w N:=by rw[V];exact bAl _ _
 have cB:Below N.1.size N O:=by rw[W];exact bAl _ _
 have cD:Below O.1.size O ap:=by rw[X];exact bAl _ _
 have cL:Below ap.1.size ap l:=by rw[Y];exact bAl _ _
 have cS:N.1.size=w.1.size+1:=by rw[V];simp
 have cT:O.1.size=w.1.size+1+1:=by rw[W];simp[cS]
 have cV:ap.1.size=w.1.size+1+1+1:=by rw[X];simp[cT]
 have bg:Below O.1.size O l:=cD.trans (cL.mono cD.size);have bf:Below N.1.size N l:=cB.trans (bg.mono cB.size);have L:Below w.1.size w l:=cA.trans (bf.mono cA.size);have af:Blk l 35 w.1.size [.slice d.sa K.n d.sc,.slice d.pa K.m d.pc]:=(by rw[V];exact aq w _ _:Blk N 35 w.1.size [.slice d.sa K.n d.sc,.slice d.pa K.m d.pc]).below bf;have ac:Blk l 36 (w.1.size+1) (al i f g fr):=(by rw[W,<-cS];exact aq N _ _:Blk O 36 (w.1.size+1) (al i f g fr)).below bg;have ba:Blk l 36 (w.1.size+1+1) (al 0 0 0 0):=(by rw[X,<-cT];exact aq O _ _:Blk ap 36 (w.1.size+1+1) (al 0 0 0 0)).below cL;have dP:OOp w.1.size l (some ⟨w.1.size+1+1+1,0,none⟩) 0 []:=by rw[Y,<-cV];exact mS _ _ uA
 have eb:l.1.size=w.1.size+1+1+1+1:=by rw[Y];simp[cV]
 have cP:(prog.info? 35).map (·.size)=some (#[Value.slice d.sa K.n d.sc,Value.slice d.pa K.m d.pc]:Array Value).size:=gD;have bn:Hid (∀u,Below l.1.size l u->RDisk u d K):=fun u a9=>d4.below (L.trans (a9.mono L.size));have cc:Hid (∀u,Below w.1.size w u->RRow u 3 bs cs.length bu (chF cs)):=fun u a9=>c9.below a9;unfold av;go_enter func56,ntmps56;go_upto_region 2 with fail
 change Code.wp _ _ _ _ ((((w.alloc (.cells #[.slice d.sa K.n d.sc,.slice d.pa K.m d.pc] 35)).alloc (.cells (al i f g fr).toArray 36)).alloc (.cells (al 0 0 0 0).toArray 36)).alloc (.cells #[] 157));rw[<-V,<-W,<-X,<-Y];obtain⟨nb,bX⟩:=aa (w.1.size+1+1+1);obtain⟨rb,bZ⟩:=aa (w.1.size+1+1);obtain⟨sb,b1⟩:=aa (w.1.size+1);obtain⟨aA,bS⟩:=aa w.1.size;rw[<-bX]at dP ⊢;rw[<-bZ]at ba ⊢;rw[<-b1]at ac ⊢;rw[<-bS]at af ⊢;have bF:w.1.size<=aA/\aA<sb/\sb<rb/\rb<nb/\nb<l.1.size:=uA;have aB:=uv L bF;have o:Hid (∀u,Below l.1.size l u->Below w.1.size w u):=fun u a9=>L.trans (a9.mono L.size);have y:Hid (Blk l 35 aA [.slice d.sa K.n d.sc,.slice d.pa K.m d.pc]/\Blk l 36 sb (al i f g fr)/\Blk l 36 rb (al 0 0 0 0)):=⟨af,ac,ba⟩;have ch:=yk d K i f g fr l (bn.out _ t7);have a1:Hid _:=db;clear V W X Y cA cB cD cL cS cT cV eb bg bf L bX bZ b1 bS dP ba bF c9 db;unfold av at ch;go_wp2_with (first|(refine B5 rfl 35 _ rfl aA rfl 35 #[.slice d.sa K.n d.sc,.slice d.pa K.m d.pc] (0,0) _ af underlying35 rfl cP ?_)|(refine B5 rfl 36 _ rfl sb rfl 36 (al i f g fr).toArray (0,0) _ ac underlying36 rfl bj ?_));refine ch.mono ?_;rintro e bz ⟨rfl,E⟩;clear ch;have c6:bz.cell? ⟨sb,0,none⟩=some (.int .i64 i):=(ac.below E).cell 0;clear af ac;by_cases bv:whS K i f g fr=true/\i≠1000000000000
 ·obtain⟨J,a5⟩:=bv;have dp:(i==1000000000000)=false:=by rw[D2];exact a5
  have I:Hid (R=if gu cs=true then if(dn cs (upT K f,false)).2=true then wrR (nPg K) i g (dn cs (upT K f,false)).1 (tpL K f) ((flT K fr).getD ([],[])).1 ((flT K fr).getD ([],[])).2 else([],(i,f,g,fr),0)else([],(0,0,0,0),2)):=by show R= _;rw[a1.out,upR,B4 ⟨J,a5⟩]
  have c1:Hid _:=J;have c3:=CG bz bs bu cs (cc.out bz (o.out bz E)) dk dD;rw[J];have aS:Hid _:=E;clear a1 E a5 J;go_wp2_with fail;refine c3.mono ?_;rintro e bm ⟨rfl,cj⟩;clear c3 c6;have A:Below l.1.size l bm:=aS.out.trans (cj.mono aS.out.size);cases ab:gu cs with
  |false=>
   have U:Hid (R=([],(0,0,0,0),2)):=by show R= _;rw[I.out,ab];rfl
   clear cj ab;have B:=y.out.2.2.below A;have a4:=pr;go_wp2_with (refine DR rfl fun _ s=>bK (k:=rb) (cs:=al 0 0 0 0) B rfl (fe 0 0 0 0) bj rfl rfl rfl (fun x n m=>s _ _ ?_));have t:=uv n ((o.out _ A).trans (m.below (by have:=aB.out.2;omega) (o.out _ A).size));clear n m B;go_wp2_with fail;refine B3 (v:= .tuple #[.slice (some ⟨nb,0,none⟩) 0 0,.agg (al 0 0 0 0).toArray,.int .i64 2]) ?_ rfl ?_
   ·exact jL results56 _ _ rb 36 (al 0 0 0 0).toArray _ rfl t.out.1 underlying36 rfl bj rfl rfl
   ·rw[U.out];exact⟨some ⟨nb,0,none⟩,0,rfl,t.out.2,pt _ _⟩
  |true=>
   have U:Hid (R=if(dn cs (upT K f,false)).2=true then wrR (nPg K) i g (dn cs (upT K f,false)).1 (tpL K f) ((flT K fr).getD ([],[])).1 ((flT K fr).getD ([],[])).2 else([],(i,f,g,fr),0)):=by show R= _;rw[I.out,ab];rfl
   obtain⟨ef,bP⟩:=Ig ab;have b3:=y.out.1.below A;have b4:=y.out.2.1.below A;have c7:bm.cell? ⟨sb,1,none⟩=some (.int .i64 f):=b4.cell 1;have ce:=wK d K f bm (bn.out bm A);unfold av at ce;have aT:Hid _:=A;have bA:Hid _:=bP;clear cj ab I bP A;go_wp2_with ((refine B5 rfl 35 _ rfl aA rfl 35 #[.slice d.sa K.n d.sc,.slice d.pa K.m d.pc] (0,0) _ b3 underlying35 rfl cP ?_));refine ce.mono ?_;rintro e G ⟨ck,S,b2,dE,bW⟩;clear ce b3 c7 b4;obtain⟨c8,own,bT,ae⟩:=yP c1.out;have cp:∃d8,e= .returned (.tuple #[.agg S.toArray,.bool d8])/\((ldT K f=some none/\S=tr1)\/∃T,ldT K f=some (some T)/\LdT K f bm.1.size G S T):=by
    rcases bW with⟨a3,_⟩|⟨a3,cl,cm⟩|⟨T,a3,cl,cm⟩
    ·have:=ae.tp;unfold tpB at this;rw[a3]at this;cases this
    ·exact⟨true,cm,v7 ⟨a3,cl⟩⟩
    ·exact⟨true,cm,v6 ⟨T,a3,cl⟩⟩
   obtain⟨em,rfl,a6⟩:=cp;have Q:dOk K:=gK ae.ok;have cg:=kO (bn.out _ t7) Q;have dX:(prog.info? 116).map (·.size)=some S.toArray.size:=by rw[wA,b2];exact ou
   have b9:trz.toArray.size=S.toArray.size:=by rw[wA,wA,b2];rfl
   obtain⟨c4,am⟩:=aa (G.alloc (.cells S.toArray 116));have dS:Below G.1.size G c4:=by rw[am];exact bAl _ _
   have b7:Blk c4 116 G.1.size S:=by rw[am];exact aq G _ _
   obtain⟨rest,rt,ns,nv,na,nc,z⟩:=Ik (w0:=l) Q cg aT.out.size aT.out ck dS b7 a6;have d2:Hid _:=z;have ek:l.1.size<=G.1.size:=by have:=aT.out.size;have:=ck.size;omega
   have cX:Hid (∀x∈pgZ (upT K f),x∈tpL K f):=Ij Q cg;have c2:Hid (wfO (upT K f)):=yQ z.uo;have aX:=uv bT ae;generalize upT K f=F at*;clear bW a6 bT ae cg Q b7 ck dS z aS;go_upto_region 7 with(refine bt rfl 116 _ _ rfl G trz.toArray S.toArray 116 rfl rfl dX b9 (df dE) ?_)
   change Code.wp _ _ _ _ (G.alloc (.cells S.toArray 116));rw[<-am];generalize G.1.size=d1 at*;clear am dX b9;go_wp2_with fail;go_loopw [12,13] (fun dW bl wr=> ∃(j:Nat)(rt:Int)(ns:List NdK)(nv:Nat->NdV)(na:Option Addr)(nc:Nat),bl= .int .i64 (j:Nat)/\j<=cs.length/\dW= .bool (dn (cs.take j) (F,false)).2/\ChI l.1.size d1 rest l (dn (cs.take j) (F,false)).1 rt ns nv na nc j wr) (fun _ bl _=>cs.length-(intOf bl).toNat)
   case atStart=>exact⟨0,rt,ns,nv,na,nc,rfl,wa _,rfl,d2.out⟩
   case round=>
    obtain⟨j,rt,ns,nv,na,nc,rfl,eq,rfl,z⟩:=hrel;obtain⟨H,dF⟩:=aa wr;subst dF;have C:Below l.1.size l H:=z.fr.below t6 (fun k d6=>d6);have D:=uv z (vJ (y.out.1.below C) (vJ (y.out.2.1.below C) (y.out.2.2.below C)));by_cases a8:j<cs.length
    ·have cq:(j:Int)< (cs.length:Int):=uA;obtain⟨b,b8,d3,_,_⟩:=(cc.out H (o.out H C)).at_ uA;subst d3;have P:=(cc.out H (o.out H C)).cells j a8;have ae:chF cs j=chV (cs.getD j ch0):=rfl;rw[ae]at P;have bB:Hid _:=If a8 (F,false);have da:=bA.out _ (bO (d:=ch0) a8);generalize cs.getD j ch0=x at*;obtain⟨k,v,ad⟩:=x;have Z:∀q u,([.string k,.string v,.bool ad]:List Value)[q]?=some u->H.cell? ⟨b,b8+j*3+q,none⟩=some u:=P;have dl:=z.dp;have a7:=z.ln;have bR:=wG (k:=k) (v:=v) (d:=ad) da (yQ z.uo);have cb:=Hi z.st z.uo uA ad da;unfold fH at cb;have M:Hid (dn (cs.take (j+1)) (F,false)=((chg k v ad (dn (cs.take j) (F,false)).1).1,(dn (cs.take j) (F,false)).2||(chg k v ad (dn (cs.take j) (F,false)).1).2)):=bB.out;generalize dn (cs.take j) (F,false)=cM at*;generalize ej:chg k v ad cM.1=r at*;have cn:dpO r.1<=dpO cM.1+1:=bR.2;clear ae P z bB C bR;go_wp2_with (refine dG rfl 161 _ rfl b (b8+j*3) rfl [.string k,.string v,.bool ad] _ Z underlying161 rfl mg ?_);refine cb.mono ?_;rintro e cR ⟨rfl,bk,ms,d5,bE,dr,dq⟩;clear cb Z;obtain⟨bd,bb,bc,ca,f',ds⟩:=d5;have bC:ChI l.1.size d1 rest l r.1 bk ms bd bb bc (j+1) cR:=⟨ca,bE,D.out.1.fr.transN f' (fun q es bx=>by
      rcases bx with bx|bx
      ·omega
      ·exact(cE D.out.1.st.nodes q (by simp[Go.Proofs.YtglbanolhhjjiaaGreatDoor.rb,bx])).1),uA,uA⟩
     have cW:Hid _:=bC;clear bC ca f' ds bE dr dq dl a7 cn;obtain⟨et,d9⟩:=r;obtain⟨dV,ev⟩:=cM;cases d9 with
     |true=>
      go_wp2_with fail;go_roundw
      case rel=>exact⟨j+1,bk,ms,bd,bb,bc,by go_num,uA,by rw[M.out];simp,by rw[M.out];exact cW.out⟩
      case measure=>simp[intOf];omega
     |false=>
      go_wp2_with fail;go_roundw
      case rel=>exact⟨j+1,bk,ms,bd,bb,bc,by go_num,uA,by rw[M.out];simp,by rw[M.out];exact cW.out⟩
      case measure=>simp[intOf];omega
    ·have cq:¬(j:Int)< (cs.length:Int):=uA;have dd:cs.take j=cs:=w5 uA;rw[dd]at D ⊢;have bY:=Ii cs (F,false) bA.out c2.out;have a7:=z.ln;have cr:ns.length<=600000:=uA;obtain⟨dV,b0⟩:=aa (dn cs (F,false));rw[<-b0]at D U bY ⊢;obtain⟨d7,ea⟩:=dV;clear dd z b0 a7;have ba:=D.out.2.2.2;cases ea with
     |false=>
      have a0:Hid (R=([],(i,f,g,fr),0)):=by show R= _;rw[U.out];rfl
      have ak:=bDr H;have b5:=D.out.2.2.1.below ak;have b6:=ba.below ak;have c5:Below w.1.size w H.drew:=o.out _ (C.trans (ak.mono C.size));go_wp2_with fail;refine az (fun u=>(Instr.loadAt 36 (.pointer (some ⟨sb,0,none⟩))).run prog u= .ok (.agg (al i f g fr).toArray) u) (fun k=>decide (3<=k)) vk ?_;clear ak;generalize H.drew=en at*;have ag:=aN b5;refine ai 0 ag ?_;refine aM 1 (.agg (al i f g fr).toArray) ag ?hbz ?_
      case hbz=>exact fun u dc=>bo (p:= .pointer (some ⟨sb,0,none⟩)) rfl rfl dc
      refine ah 2 fun a2 s=> ?_;go_wp2_with fail;refine s.out _ _ (fun _=>ag) ?_;clear s a2;refine ah 3 fun a2 s=> ?_;refine bK (k:=rb) (cs:=al i f g fr) b6 rfl (fe _ _ _ _) bj rfl rfl rfl (fun x n m=> ?_);have t:=uv n (c5.trans (m.below (by have:=aB.out.2;omega) c5.size));refine ao s ?_ (fun h=>absurd h uB);clear s a2 n m b6 b5 ag;refine ah 4 fun a2 s=> ?_;go_wp2_with fail;refine aU s ?_ (fun h=>absurd h uB);clear s a2;go_wp2_with fail;refine B3 (v:= .tuple #[.slice (some ⟨nb,0,none⟩) 0 0,.agg (al i f g fr).toArray,.int .i64 0]) ?_ rfl ?_
      ·exact jL results56 _ _ rb 36 (al i f g fr).toArray _ rfl t.out.1 underlying36 rfl bj rfl rfl
      ·rw[a0.out];exact⟨some ⟨nb,0,none⟩,0,rfl,t.out.2,pt _ _⟩
     |true=>
      have a0:Hid (R=wrR (nPg K) i g d7 (tpL K f) c8 own):=by show R= _;rw[U.out,aX.out.1];rfl
      have cf:=Ia D.out.1.st D.out.1.uo cr d K (bn.out H C) i f g fr c8 own aX.out.2 aX.out.1 (fun x hx=>by rcases bY.1 x hx with h|h;exact v7 h;exact v6 (cX.out x h)) R a0.out;unfold av at cf;have af:=D.out.2.1;have ac:=D.out.2.2.1;go_wp2_with (first|(refine B5 rfl 35 _ rfl aA rfl 35 #[.slice d.sa K.n d.sc,.slice d.pa K.m d.pc] (0,0) _ af underlying35 rfl cP ?_)|(refine B5 rfl 36 _ rfl sb rfl 36 (al i f g fr).toArray (0,0) _ ac underlying36 rfl bj ?_));refine cf.mono ?_;rintro e cR ⟨cv,cz,rfl,br,dI⟩;clear cf af ac;have an:Blk cR 36 rb (al 0 0 0 0):=y.out.2.2.below (C.trans br);go_wp2_with (refine DR rfl fun _ s=>bK (k:=rb) (cs:=al R.2.1.1 R.2.1.2.1 R.2.1.2.2.1 R.2.1.2.2.2) an rfl (fe _ _ _ _) bj rfl rfl rfl (fun x n m=>s _ _ ?_));have t:Hid (Blk x 36 rb (al R.2.1.1 R.2.1.2.1 R.2.1.2.2.1 R.2.1.2.2.2)/\Below w.1.size w x/\OOp l.1.size x cv cz R.1):=⟨n,(o.out _ (C.trans br)).trans (m.below (by have:=aB.out.2;omega) (o.out _ (C.trans br)).size),dI.keep (aw m an uB) (aw m an uB)⟩;clear n m an dI br;go_wp2_with fail;refine B3 (v:= .tuple #[.slice cv R.1.length cz,.agg (al R.2.1.1 R.2.1.2.1 R.2.1.2.2.1 R.2.1.2.2.2).toArray,.int .i64 R.2.2]) ?_ rfl ?_
      ·exact jL results56 _ _ rb 36 (al R.2.1.1 R.2.1.2.1 R.2.1.2.2.1 R.2.1.2.2.2).toArray _ rfl t.out.1 underlying36 rfl bj rfl rfl
      ·exact⟨cv,cz,rfl,t.out.2.1,OOp.reads t.out.2.2⟩
 ·have I:Hid (R=([],(0,0,0,0),1)):=by show R= _;rw[a1.out,upR,CH bv]
  have c0:Hid _:=bv;clear bv;cases J:whS K i f g fr with
  |false=>
   have B:=y.out.2.2.below E;have a4:=pr;go_wp2_with (refine DR rfl fun _ s=>bK (k:=rb) (cs:=al 0 0 0 0) B rfl (fe 0 0 0 0) bj rfl rfl rfl (fun x n m=>s _ _ ?_));have t:=uv n ((o.out _ E).trans (m.below (by have:=aB.out.2;omega) (o.out _ E).size));clear n m B;go_wp2_with fail;refine B3 (v:= .tuple #[.slice (some ⟨nb,0,none⟩) 0 0,.agg (al 0 0 0 0).toArray,.int .i64 1]) ?_ rfl ?_
   ·exact jL results56 _ _ rb 36 (al 0 0 0 0).toArray _ rfl t.out.1 underlying36 rfl bj rfl rfl
   ·rw[I.out];exact⟨some ⟨nb,0,none⟩,0,rfl,t.out.2,pt _ _⟩
  |true=>
   have dp:(i==1000000000000)=true:=by
    rw[beq_iff_eq];rcases Classical.em (i=1000000000000)with h|h
    ·exact h
    ·exact absurd ⟨J,h⟩ c0.out
   have B:=y.out.2.2.below E;have a4:=pr;go_wp2_with (refine DR rfl fun _ s=>bK (k:=rb) (cs:=al 0 0 0 0) B rfl (fe 0 0 0 0) bj rfl rfl rfl (fun x n m=>s _ _ ?_));have t:=uv n ((o.out _ E).trans (m.below (by have:=aB.out.2;omega) (o.out _ E).size));clear n m B;go_wp2_with fail;refine B3 (v:= .tuple #[.slice (some ⟨nb,0,none⟩) 0 0,.agg (al 0 0 0 0).toArray,.int .i64 1]) ?_ rfl ?_
   ·exact jL results56 _ _ rb 36 (al 0 0 0 0).toArray _ rfl t.out.1 underlying36 rfl bj rfl rfl
   ·rw[I.out];exact⟨some ⟨nb,0,none⟩,0,rfl,t.out.2,pt _ _⟩
