import Derived.Test.YtglbanolhhjjiaaGreatDoorFo45
import Derived.Test.YtglbanolhhjjiaaGreatDoorFo43
namespace Go.Proofs.YtglbanolhhjjiaaGreatDoor
open Go.Proofs.Tryz
open Go.RowKit
set_option linter.unusedVariables false
set_option maxRecDepth 100000
set_option maxHeartbeats 32000000
def dpT:Tr->Nat
 | .leaf _ _=>0
 | .node _ ks=>dpT ks+1
 | .nil=>0
 | .cons _ t _=>dpT t
theorem Ie:∀{n:Nat}{t:Tr},wf n t->dpT t=n:=by
 intro n;induction n with
 |zero=>
  intro t a;rcases aO a with⟨id,es,_,rfl⟩|⟨id,L,m,e,_⟩
  ·rfl
  ·omega
 |succ n ih=>
  intro t a;rcases aO a with⟨id,es,e,_⟩|⟨id,L,m,e,rfl⟩
  ·omega
  ·obtain⟨b,c,_⟩:=bq.1 a;cases L with
   |nil=>exact absurd rfl b
   |cons x L=>
    show dpT (.cons x.1 x.2 (kds L))+1=n+1;rw[dpT,ih (c x uB)]
noncomputable def upT(K:DK)(root:Int):OTr:=match ldT K root with|some (some T)=>some (dpT T,T)|_=>none
def dn(cs:List Ch)(s:OTr×Bool):OTr×Bool:=cs.foldl (fun s c=>((chg c.1 c.2.1 c.2.2 s.1).1,s.2||(chg c.1 c.2.1 c.2.2 s.1).2)) s
theorem If{cs:List Ch}{j}(a:j<cs.length)(s):dn (cs.take (j+1)) s=((chg (cs.getD j ch0).1 (cs.getD j ch0).2.1 (cs.getD j ch0).2.2 (dn (cs.take j) s).1).1,(dn (cs.take j) s).2||(chg (cs.getD j ch0).1 (cs.getD j ch0).2.1 (cs.getD j ch0).2.2 (dn (cs.take j) s).1).2):=by
 have e:cs.take (j+1)=cs.take j++[cs.getD j ch0]:=by rw[AC];simp[List.getD,List.getElem?_eq_getElem a]
 unfold dn;rw[e,List.foldl_append]
 rfl
noncomputable def upR(K:DK)(gen root used fr:Int)(cs:List Ch):List OpK×SupK×Int:=
 if whS K gen root used fr=true/\gen≠1000000000000 then
  if gu cs=true then
   if(dn cs (upT K root,false)).2=true then wrR (nPg K) gen used (dn cs (upT K root,false)).1 (tpL K root) ((flT K fr).getD ([],[])).1 ((flT K fr).getD ([],[])).2
   else([],(gen,root,used,fr),0)
  else([],(0,0,0,0),2)
 else([],(0,0,0,0),1)
structure ChI(B0 g:Nat)(rest:List Value)(w:World)(o:OTr)(rt:Int)(ns:List NdK)(nv:Nat->NdV)(na:Option Addr)(nc j:Nat)(u:World):Prop where
 st:USt B0 g rest rt u ns nv na nc
 uo:UO ns rt o
 fr:OnlyS (fun k=>B0<=k) w u
 dp:dpO o<=1024+j
 ln:ns.length<=1024+j*1430
theorem Ig{cs}(b:gu cs=true):cs.length<=400/\∀x∈cs,eOk (x.1,x.2.1):=by
 unfold gu at b;simp only[wz,DB,x9]at b;refine⟨b.1,fun x hx=> ?_⟩;have:=b.2 x hx;unfold gq at this;simp only[wz,DB]at this;have a:=this.1.1;unfold mf at a;rw[DB]at a;exact⟨a.1,a.2,this.1.2⟩
theorem yP{K c a b fr}(g:whS K c a b fr=true):∃e d,flT K fr=some (e,d)/\WhF K c a b fr e d:=by
 cases f:flT K fr with
 |none=>
  unfold whS iG at g;rw[f]at g;simp at g
 |some p=>exact⟨p.1,p.2,rfl,Hw g f⟩
theorem Ih{K}(t)(f:(pgD K).ok t=true):((pgD K).bd t).length<=240:=by
 have c:vB K t=true:=f;show(vL K t).length<=240;by_cases b:eD K t
 ·have a:vL K t=dj t (pgL K t.toNat):=by unfold vL;rw[ii b]
  have e:vB K t=gl t (pgL K t.toNat):=by unfold vB;rw[ii b]
  rw[e]at c;have d:cC t (pgL K t.toNat):= @of_decide_eq_true _ (Classical.propDecidable _) c;have g:=ja d.2.1;rw[a,lY d];unfold aY aJ;rw[wv];omega
 ·have a:vL K t=[]:=by unfold vL;rw[ij b]
  rw[a];simp
theorem yQ{ns rt}:∀{o:OTr},UO ns rt o->wfO o
 |none,_=>trivial
 |some x,a=>a.1
theorem Ii(cs):∀(s:OTr×Bool),(∀x∈cs,eOk (x.1,x.2.1))->wfO s.1->pgS (pgZ (dn cs s).1) (pgZ s.1)/\wfO (dn cs s).1:=by
 induction cs with
 |nil=>intro s _ a;exact⟨fun x hx=>u4 hx,a⟩
 |cons c cs ih=>
  intro s e f;have g:=wG (d:=c.2.2) (e c uB) f;have h:=GW (k:=c.1) (v:=c.2.1) (d:=c.2.2) f;have b:=ih ((chg c.1 c.2.1 c.2.2 s.1).1,s.2||(chg c.1 c.2.1 c.2.2 s.1).2) (fun x hx=>e x (by simp[hx])) g.1;refine⟨fun x hx=> ?_,b.2⟩;rcases b.1 x hx with a|a
  ·exact u5 a
  ·exact h x a
theorem Ij{K b}(f:dOk K)(h:PgW (pgD K) (nPg K)):∀x∈pgZ (upT K b),x∈tpL K b:=by
 intro x hx;unfold upT at hx;unfold tpL;cases a:ldT K b with
 |none=>rw[a]at hx;simp[pgZ]at hx
 |some y=>
  cases y with
  |none=>rw[a]at hx;simp[pgZ]at hx
  |some T=>
   rw[a]at hx;have d:x∈ar T:=hx;have c:∃g,rdT (pgD K) (nPg K+1) 0 ⟨[], -1⟩ b=some (T,g):=by
    unfold ldT at a;rw[fj f]at a;simp only at a;split at a
    ·cases a
    ·obtain⟨y,i,e⟩:=w3.1 a;split at e
     ·cases e;exact⟨y.2,i⟩
     ·cases e
   obtain⟨g,c⟩:=c;have:=(iW h _ _ _ _ _ _ c).pgs x d;show x∈mkd (ar T) (nPg K);exact wN.2 ⟨d,t7,this.2⟩
theorem USt.mono{B0 a g rest rt w ns nv na nc}(c:USt B0 g rest rt w ns nv na nc)(b:a<=B0):USt a g rest rt w ns nv na nc:=⟨c.blk,ORow.mono c.nodes b,c.each,u9 b c.gB⟩
theorem Ik{K a w0 d f b cs g}(x:dOk K)(C:PgW (pgD K) (nPg K))(r:w0.1.size<=d.1.size)(o:Below w0.1.size w0 d)(h:Below d.1.size d f)(w:Below f.1.size f b)(A:Blk b 116 g cs)(J:(ldT K a=some none/\cs=tr1)\/∃T,ldT K a=some (some T)/\LdT K a d.1.size f cs T):∃rest rt ns nv na nc,ChI w0.1.size g rest w0 (upT K a) rt ns nv na nc 0 b:=by
 have l:Below w0.1.size w0 b:=o.trans ((h.trans (w.mono h.size)).mono r);have m:OnlyS (fun k=>w0.1.size<=k) w0 b:=OnlyS.ofBelow l;rcases J with⟨e,rfl⟩|⟨T,e,D⟩
 ·refine⟨[.slice none 0 0,.int .i64 (-1),.bool false], -1,[],fun _=>aF,none,0,⟨A,lJ _ _ _ _ _,fun i F=>absurd F (w8 _),l.size⟩,?_,m,?_,uB⟩
  ·unfold upT;rw[e];rfl
  ·unfold upT;rw[e];simp[dpO]
 ·obtain⟨ns,nv,na,nc,seen,tall,sb,p,rfl,H,u,j,y⟩:=D.ex;have B:=(y g b A w);obtain⟨n,L,c,_⟩:=wJ (fun t G=>Ih t G) _ _ _ _ _ _ (z7 0) j;have E:=Ie c;obtain⟨P,v⟩:=FB c p u;have s:(ar T).Nodup:=by
   have q:=(iW C _ _ _ _ _ _ j).seen;rw[wi]at q;exact(q.nodup_iff).1 B.ok.nodup
  have I:nPg K<=1024:=by have:=x.1.2.1;unfold nPg;omega
  have z:upT K a=some (n,T):=by unfold upT;rw[e];show some (dpT T,T)= _;rw[E]
  refine⟨_,p,ns,nv,na,nc,B.ust.mono r,?_,m,?_,t7⟩
  ·rw[z];exact⟨c,P,v,v.nodup s⟩
  ·rw[z];show n<=_;omega
theorem lD(d K h f g fr bs bu cs w)(d4:RDisk w d K)(da:RRow w 3 bs cs.length bu (chF cs))(dl:cs.length<=1048576)(dE:∀x∈cs,x.1.size<=1048575/\x.2.1.size<=1048575)(R)(dc:R=upR K h f g fr cs):
 Calls prog 56 #[av d K,.agg (al h f g fr).toArray,.slice bs cs.length bu] w fun e w'=> ∃a c,e= .returned (.tuple #[.slice a R.1.length c,.agg (al R.2.1.1 R.2.1.2.1 R.2.1.2.2.1 R.2.1.2.2.2).toArray,.int .i64 R.2.2])/\Below w.1.size w w'/\ROp w' a c R.1:=by
 obtain⟨M,U⟩:=aa (w.alloc (.cells #[.slice d.sa K.n d.sc,.slice d.pa K.m d.pc] 35));obtain⟨N,V⟩:=aa (M.alloc (.cells (al h f g fr).toArray 36));obtain⟨an,W⟩:=aa (N.alloc (.cells (al 0 0 0 0).toArray 36));obtain⟨i,X⟩:=aa (an.alloc (.cells #[] 157));have cB:Below w.1.size w M:=by rw[U];exact bAl _ _
 have cD:Below M.1.size M N:=by rw[V];exact bAl _ _
 have cL:Below N.1.size N an:=by rw[W];exact bAl _ _
 have cM:Below an.1.size an i:=by rw[X];exact bAl _ _
 have cT:M.1.size=w.1.size+1:=by rw[U];simp
 have cV:N.1.size=w.1.size+1+1:=by rw[V];simp[cT]
 have cW:an.1.size=w.1.size+1+1+1:=by rw[W];simp[cV]
 have bg:Below N.1.size N i:=cL.trans (cM.mono cL.size);have bf:Below M.1.size M i:=cD.trans (bg.mono cD.size);have J:Below w.1.size w i:=cB.trans (bf.mono cB.size);have ae:Blk i 35 w.1.size [.slice d.sa K.n d.sc,.slice d.pa K.m d.pc]:=(by rw[U];exact aq w _ _:Blk M 35 w.1.size [.slice d.sa K.n d.sc,.slice d.pa K.m d.pc]).below bf;have ab:Blk i 36 (w.1.size+1) (al h f g fr):=(by rw[V,<-cT];exact aq M _ _:Blk N 36 (w.1.size+1) (al h f g fr)).below bg;have ba:Blk i 36 (w.1.size+1+1) (al 0 0 0 0):=(by rw[W,<-cV];exact aq N _ _:Blk an 36 (w.1.size+1+1) (al 0 0 0 0)).below cM;have dS:OOp w.1.size i (some ⟨w.1.size+1+1+1,0,none⟩) 0 []:=by rw[X,<-cW];exact mS _ _ t7
 have eb:i.1.size=w.1.size+1+1+1+1:=by rw[X];simp[cW]
 have cR:(prog.info? 35).map (·.size)=some (#[Value.slice d.sa K.n d.sc,Value.slice d.pa K.m d.pc]:Array Value).size:=gD;have bn:Hid (∀u,Below i.1.size i u->RDisk u d K):=fun u a9=>d4.below (J.trans (a9.mono J.size));have ce:Hid (∀u,Below w.1.size w u->RRow u 3 bs cs.length bu (chF cs)):=fun u a9=>da.below a9;unfold av;go_enter func56,ntmps56;go_upto_region 2 with fail
 change Code.wp _ _ _ _ ((((w.alloc (.cells #[.slice d.sa K.n d.sc,.slice d.pa K.m d.pc] 35)).alloc (.cells (al h f g fr).toArray 36)).alloc (.cells (al 0 0 0 0).toArray 36)).alloc (.cells #[] 157));rw[<-U,<-V,<-W,<-X];obtain⟨nb,bX⟩:=aa (w.1.size+1+1+1);obtain⟨rb,bZ⟩:=aa (w.1.size+1+1);obtain⟨sb,b1⟩:=aa (w.1.size+1);obtain⟨ap,bS⟩:=aa w.1.size;rw[<-bX]at dS ⊢;rw[<-bZ]at ba ⊢;rw[<-b1]at ab ⊢;rw[<-bS]at ae ⊢;have bF:w.1.size<=ap/\ap<sb/\sb<rb/\rb<nb/\nb<i.1.size:=t7;have aA:=t6 J bF;have n:Hid (∀u,Below i.1.size i u->Below w.1.size w u):=fun u a9=>J.trans (a9.mono J.size);have t:Hid (Blk i 35 ap [.slice d.sa K.n d.sc,.slice d.pa K.m d.pc]/\Blk i 36 sb (al h f g fr)/\Blk i 36 rb (al 0 0 0 0)):=⟨ae,ab,ba⟩;have cj:=yk d K h f g fr i (bn.out _ t2);have a0:Hid _:=dc;clear U V W X cB cD cL cM cT cV cW eb bg bf J bX bZ b1 bS dS ba bF da dc;unfold av at cj;go_wp2_with (first|(refine BD rfl 35 _ rfl ap rfl 35 #[.slice d.sa K.n d.sc,.slice d.pa K.m d.pc] (0,0) _ ae underlying35 rfl cR ?_)|(refine BD rfl 36 _ rfl sb rfl 36 (al h f g fr).toArray (0,0) _ ab underlying36 rfl bj ?_));refine cj.mono ?_;rintro e bz ⟨rfl,D⟩;clear cj;have c7:bz.cell? ⟨sb,0,none⟩=some (.int .i64 h):=(ab.below D).cell 0;clear ae ab;by_cases bv:whS K h f g fr=true/\h≠1000000000000
 ·obtain⟨I,a5⟩:=bv;have dq:(h==1000000000000)=false:=by rw[C8];exact a5
  have H:Hid (R=if gu cs=true then if(dn cs (upT K f,false)).2=true then wrR (nPg K) h g (dn cs (upT K f,false)).1 (tpL K f) ((flT K fr).getD ([],[])).1 ((flT K fr).getD ([],[])).2 else([],(h,f,g,fr),0)else([],(0,0,0,0),2)):=by show R= _;rw[a0.out,upR,BC ⟨I,a5⟩]
  have c2:Hid _:=I;have c4:=CG bz bs bu cs (ce.out bz (n.out bz D)) dl dE;rw[I];have aB:Hid _:=D;clear a0 D a5 I;go_wp2_with fail;refine c4.mono ?_;rintro e bm ⟨rfl,ck⟩;clear c4 c7;have z:Below i.1.size i bm:=aB.out.trans (ck.mono aB.out.size);cases Z:gu cs with
  |false=>
   have S:Hid (R=([],(0,0,0,0),2)):=by show R= _;rw[H.out,Z];rfl
   clear ck Z;have A:=t.out.2.2.below z;have a4:=pr;go_wp2_with (refine C2 rfl fun _ o=>bK (k:=rb) (cs:=al 0 0 0 0) A rfl (fe 0 0 0 0) bj rfl rfl rfl (fun x m l=>o _ _ ?_));have s:=t6 m ((n.out _ z).trans (l.below (by have:=aA.out.2;omega) (n.out _ z).size));clear m l A;go_wp2_with fail;refine BB (v:= .tuple #[.slice (some ⟨nb,0,none⟩) 0 0,.agg (al 0 0 0 0).toArray,.int .i64 2]) ?_ rfl ?_
   ·exact jL results56 _ _ rb 36 (al 0 0 0 0).toArray _ rfl s.out.1 underlying36 rfl bj rfl rfl
   ·rw[S.out];exact⟨some ⟨nb,0,none⟩,0,rfl,s.out.2,pt _ _⟩
  |true=>
   have S:Hid (R=if(dn cs (upT K f,false)).2=true then wrR (nPg K) h g (dn cs (upT K f,false)).1 (tpL K f) ((flT K fr).getD ([],[])).1 ((flT K fr).getD ([],[])).2 else([],(h,f,g,fr),0)):=by show R= _;rw[H.out,Z];rfl
   obtain⟨ef,bP⟩:=Ig Z;have b3:=t.out.1.below z;have b4:=t.out.2.1.below z;have c8:bm.cell? ⟨sb,1,none⟩=some (.int .i64 f):=b4.cell 1;have cf:=wK d K f bm (bn.out bm z);unfold av at cf;have aS:Hid _:=z;have bA:Hid _:=bP;clear ck Z H bP z;go_wp2_with ((refine BD rfl 35 _ rfl ap rfl 35 #[.slice d.sa K.n d.sc,.slice d.pa K.m d.pc] (0,0) _ b3 underlying35 rfl cR ?_));refine cf.mono ?_;rintro e F ⟨cl,Q,b2,dF,bW⟩;clear cf b3 c8 b4;obtain⟨c9,b9,bT,ad⟩:=yP c2.out;have cq:∃d8,e= .returned (.tuple #[.agg Q.toArray,.bool d8])/\((ldT K f=some none/\Q=tr1)\/∃T,ldT K f=some (some T)/\LdT K f bm.1.size F Q T):=by
    rcases bW with⟨a3,_⟩|⟨a3,cm,cn⟩|⟨T,a3,cm,cn⟩
    ·have:=ad.tp;unfold tpB at this;rw[a3]at this;cases this
    ·exact⟨true,cn,u5 ⟨a3,cm⟩⟩
    ·exact⟨true,cn,u4 ⟨T,a3,cm⟩⟩
   obtain⟨em,rfl,a6⟩:=cq;have P:dOk K:=gK ad.ok;have ch:=kO (bn.out _ t2) P;have dX:(prog.info? 116).map (·.size)=some Q.toArray.size:=by rw[v7,b2];exact ou
   have ca:trz.toArray.size=Q.toArray.size:=by rw[v7,v7,b2];rfl
   obtain⟨c5,ak⟩:=aa (F.alloc (.cells Q.toArray 116));have dU:Below F.1.size F c5:=by rw[ak];exact bAl _ _
   have b7:Blk c5 116 F.1.size Q:=by rw[ak];exact aq F _ _
   obtain⟨rest,rt,ns,nv,na,nc,y⟩:=Ik (w0:=i) P ch aS.out.size aS.out cl dU b7 a6;have d2:Hid _:=y;have ek:i.1.size<=F.1.size:=by have:=aS.out.size;have:=cl.size;omega
   have c0:Hid (∀x∈pgZ (upT K f),x∈tpL K f):=Ij P ch;have c3:Hid (wfO (upT K f)):=yQ y.uo;have aT:=t6 bT ad;generalize upT K f=E at*;clear bW a6 bT ad ch P b7 cl dU y aB;go_upto_region 7 with(refine bt rfl 116 _ _ rfl F trz.toArray Q.toArray 116 rfl rfl dX ca (df dF) ?_)
   change Code.wp _ _ _ _ (F.alloc (.cells Q.toArray 116));rw[<-ak];generalize F.1.size=d1 at*;clear ak dX ca;go_wp2_with fail;go_loopw [12,13] (fun dW bl wr=> ∃(j:Nat)(rt:Int)(ns:List NdK)(nv:Nat->NdV)(na:Option Addr)(nc:Nat),bl= .int .i64 (j:Nat)/\j<=cs.length/\dW= .bool (dn (cs.take j) (E,false)).2/\ChI i.1.size d1 rest i (dn (cs.take j) (E,false)).1 rt ns nv na nc j wr) (fun _ bl _=>cs.length-(intOf bl).toNat)
   case atStart=>exact⟨0,rt,ns,nv,na,nc,rfl,u6 _,rfl,d2.out⟩
   case round=>
    obtain⟨j,rt,ns,nv,na,nc,rfl,eq,rfl,y⟩:=hrel;obtain⟨G,dI⟩:=aa wr;subst dI;have B:Below i.1.size i G:=y.fr.below t1 (fun k d6=>d6);have C:=t6 y (u2 (t.out.1.below B) (u2 (t.out.2.1.below B) (t.out.2.2.below B)));by_cases a8:j<cs.length
    ·have cr:(j:Int)< (cs.length:Int):=t7;obtain⟨b,b8,d3,_,_⟩:=(ce.out G (n.out G B)).at_ t7;subst d3;have O:=(ce.out G (n.out G B)).cells j a8;have ad:chF cs j=chV (cs.getD j ch0):=rfl;rw[ad]at O;have bB:Hid _:=If a8 (E,false);have db:=bA.out _ (bO (d:=ch0) a8);generalize cs.getD j ch0=x at*;obtain⟨k,v,ac⟩:=x;have Y:∀q u,([.string k,.string v,.bool ac]:List Value)[q]?=some u->G.cell? ⟨b,b8+j*3+q,none⟩=some u:=O;have dp:=y.dp;have a7:=y.ln;have bR:=wG (k:=k) (v:=v) (d:=ac) db (yQ y.uo);have cc:=Hi y.st y.uo t7 ac db;unfold fH at cc;have L:Hid (dn (cs.take (j+1)) (E,false)=((chg k v ac (dn (cs.take j) (E,false)).1).1,(dn (cs.take j) (E,false)).2||(chg k v ac (dn (cs.take j) (E,false)).1).2)):=bB.out;generalize dn (cs.take j) (E,false)=cP at*;generalize ej:chg k v ac cP.1=r at*;have cp:dpO r.1<=dpO cP.1+1:=bR.2;clear ad O y bB B bR;go_wp2_with (refine dG rfl 161 _ rfl b (b8+j*3) rfl [.string k,.string v,.bool ac] _ Y underlying161 rfl mg ?_);refine cc.mono ?_;rintro e cS ⟨rfl,bk,ms,d5,bE,ds,dr⟩;clear cc Y;obtain⟨bd,bb,bc,cb,f',dD⟩:=d5;have bC:ChI i.1.size d1 rest i r.1 bk ms bd bb bc (j+1) cS:=⟨cb,bE,C.out.1.fr.transN f' (fun q es bx=>by
      rcases bx with bx|bx
      ·omega
      ·exact(cE C.out.1.st.nodes q (by simp[Go.Proofs.YtglbanolhhjjiaaGreatDoor.rb,bx])).1),t7,t7⟩
     have cX:Hid _:=bC;clear bC cb f' dD bE ds dr dp a7 cp;obtain⟨et,d9⟩:=r;obtain⟨dV,ev⟩:=cP;cases d9 with
     |true=>
      go_wp2_with fail;go_roundw
      case rel=>exact⟨j+1,bk,ms,bd,bb,bc,by go_num,t7,by rw[L.out];simp,by rw[L.out];exact cX.out⟩
      case measure=>simp[intOf];omega
     |false=>
      go_wp2_with fail;go_roundw
      case rel=>exact⟨j+1,bk,ms,bd,bb,bc,by go_num,t7,by rw[L.out];simp,by rw[L.out];exact cX.out⟩
      case measure=>simp[intOf];omega
    ·have cr:¬(j:Int)< (cs.length:Int):=t7;have dk:cs.take j=cs:=wC t7;rw[dk]at C ⊢;have bY:=Ii cs (E,false) bA.out c3.out;have a7:=y.ln;have cv:ns.length<=600000:=t7;obtain⟨dV,b0⟩:=aa (dn cs (E,false));rw[<-b0]at C S bY ⊢;obtain⟨d7,ea⟩:=dV;clear dk y b0 a7;have ba:=C.out.2.2.2;cases ea with
     |false=>
      have aX:Hid (R=([],(h,f,g,fr),0)):=by show R= _;rw[S.out];rfl
      have ag:=bDr G;have b5:=C.out.2.2.1.below ag;have b6:=ba.below ag;have c6:Below w.1.size w G.drew:=n.out _ (B.trans (ag.mono B.size));go_wp2_with fail;refine az (fun u=>(Instr.loadAt 36 (.pointer (some ⟨sb,0,none⟩))).run prog u= .ok (.agg (al h f g fr).toArray) u) (fun k=>decide (3<=k)) uA ?_;clear ag;generalize G.drew=en at*;have af:=aN b5;refine ai 0 af ?_;refine aM 1 (.agg (al h f g fr).toArray) af ?hbz ?_
      case hbz=>exact fun u dd=>bo (p:= .pointer (some ⟨sb,0,none⟩)) rfl rfl dd
      refine ah 2 fun a1 o=> ?_;go_wp2_with fail;refine o.out _ _ (fun _=>af) ?_;clear o a1;refine ah 3 fun a1 o=> ?_;refine bK (k:=rb) (cs:=al h f g fr) b6 rfl (fe _ _ _ _) bj rfl rfl rfl (fun x m l=> ?_);have s:=t6 m (c6.trans (l.below (by have:=aA.out.2;omega) c6.size));refine ao o ?_ (fun a2=>absurd a2 uv);clear o a1 m l b6 b5 af;refine ah 4 fun a1 o=> ?_;go_wp2_with fail;refine aU o ?_ (fun a2=>absurd a2 uv);clear o a1;go_wp2_with fail;refine BB (v:= .tuple #[.slice (some ⟨nb,0,none⟩) 0 0,.agg (al h f g fr).toArray,.int .i64 0]) ?_ rfl ?_
      ·exact jL results56 _ _ rb 36 (al h f g fr).toArray _ rfl s.out.1 underlying36 rfl bj rfl rfl
      ·rw[aX.out];exact⟨some ⟨nb,0,none⟩,0,rfl,s.out.2,pt _ _⟩
     |true=>
      have aX:Hid (R=wrR (nPg K) h g d7 (tpL K f) c9 b9):=by show R= _;rw[S.out,aT.out.1];rfl
      have cg:=Ia C.out.1.st C.out.1.uo cv d K (bn.out G B) h f g fr c9 b9 aT.out.2 aT.out.1 (fun x hx=>by rcases bY.1 x hx with a2|a2;exact u5 a2;exact u4 (c0.out x a2)) R aX.out;unfold av at cg;have ae:=C.out.2.1;have ab:=C.out.2.2.1;go_wp2_with (first|(refine BD rfl 35 _ rfl ap rfl 35 #[.slice d.sa K.n d.sc,.slice d.pa K.m d.pc] (0,0) _ ae underlying35 rfl cR ?_)|(refine BD rfl 36 _ rfl sb rfl 36 (al h f g fr).toArray (0,0) _ ab underlying36 rfl bj ?_));refine cg.mono ?_;rintro e cS ⟨cz,cA,rfl,br,dP⟩;clear cg ae ab;have am:Blk cS 36 rb (al 0 0 0 0):=t.out.2.2.below (B.trans br);go_wp2_with (refine C2 rfl fun _ o=>bK (k:=rb) (cs:=al R.2.1.1 R.2.1.2.1 R.2.1.2.2.1 R.2.1.2.2.2) am rfl (fe _ _ _ _) bj rfl rfl rfl (fun x m l=>o _ _ ?_));have s:Hid (Blk x 36 rb (al R.2.1.1 R.2.1.2.1 R.2.1.2.2.1 R.2.1.2.2.2)/\Below w.1.size w x/\OOp i.1.size x cz cA R.1):=⟨m,(n.out _ (B.trans br)).trans (l.below (by have:=aA.out.2;omega) (n.out _ (B.trans br)).size),dP.keep (aw l am uv) (aw l am uv)⟩;clear m l am dP br;go_wp2_with fail;refine BB (v:= .tuple #[.slice cz R.1.length cA,.agg (al R.2.1.1 R.2.1.2.1 R.2.1.2.2.1 R.2.1.2.2.2).toArray,.int .i64 R.2.2]) ?_ rfl ?_
      ·exact jL results56 _ _ rb 36 (al R.2.1.1 R.2.1.2.1 R.2.1.2.2.1 R.2.1.2.2.2).toArray _ rfl s.out.1 underlying36 rfl bj rfl rfl
      ·exact⟨cz,cA,rfl,s.out.2.1,OOp.reads s.out.2.2⟩
 ·have H:Hid (R=([],(0,0,0,0),1)):=by show R= _;rw[a0.out,upR,BX bv]
  have c1:Hid _:=bv;clear bv;cases I:whS K h f g fr with
  |false=>
   have A:=t.out.2.2.below D;have a4:=pr;go_wp2_with (refine C2 rfl fun _ o=>bK (k:=rb) (cs:=al 0 0 0 0) A rfl (fe 0 0 0 0) bj rfl rfl rfl (fun x m l=>o _ _ ?_));have s:=t6 m ((n.out _ D).trans (l.below (by have:=aA.out.2;omega) (n.out _ D).size));clear m l A;go_wp2_with fail;refine BB (v:= .tuple #[.slice (some ⟨nb,0,none⟩) 0 0,.agg (al 0 0 0 0).toArray,.int .i64 1]) ?_ rfl ?_
   ·exact jL results56 _ _ rb 36 (al 0 0 0 0).toArray _ rfl s.out.1 underlying36 rfl bj rfl rfl
   ·rw[H.out];exact⟨some ⟨nb,0,none⟩,0,rfl,s.out.2,pt _ _⟩
  |true=>
   have dq:(h==1000000000000)=true:=by
    rw[beq_iff_eq];rcases Classical.em (h=1000000000000)with a2|a2
    ·exact a2
    ·exact absurd ⟨I,a2⟩ c1.out
   have A:=t.out.2.2.below D;have a4:=pr;go_wp2_with (refine C2 rfl fun _ o=>bK (k:=rb) (cs:=al 0 0 0 0) A rfl (fe 0 0 0 0) bj rfl rfl rfl (fun x m l=>o _ _ ?_));have s:=t6 m ((n.out _ D).trans (l.below (by have:=aA.out.2;omega) (n.out _ D).size));clear m l A;go_wp2_with fail;refine BB (v:= .tuple #[.slice (some ⟨nb,0,none⟩) 0 0,.agg (al 0 0 0 0).toArray,.int .i64 1]) ?_ rfl ?_
   ·exact jL results56 _ _ rb 36 (al 0 0 0 0).toArray _ rfl s.out.1 underlying36 rfl bj rfl rfl
   ·rw[H.out];exact⟨some ⟨nb,0,none⟩,0,rfl,s.out.2,pt _ _⟩
