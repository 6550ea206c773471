import Derived.Test.YtnohmedccbogkaaGreatDoorCo13
namespace Go.Proofs.YtnohmedccbogkaaGreatDoor
open Go.Proofs.Tryz
open Go.RowKit
set_option linter.unusedVariables false
set_option maxRecDepth 100000
set_option maxHeartbeats 32000000
def br(i:Nat)(ls:List (ByteArray×Int))(kd:List Int):NdK:=⟨(i:Int),false,[],[],kd,ls.tail.map (fun x=>x.1)⟩
def d0:ByteArray×Int:=(strOfNums [],0)
def t0:ByteArray×Tr:=(strOfNums [],.nil)
structure LpI(P:Pg)(B0 g sb N:Nat)(rt:Int)(f steps i:Nat)(vs:Value)(w:World)(ns:List NdK)(nv:Nat->NdV)(na:Option Addr)(seen:List Int)(tall:Int)(nb:Nat)(v:NdV)(ls:List (ByteArray×Int))(j:Nat)(kd:List Int)(ms:List NdK)(nv1:Nat->NdV)(na1:Option Addr)(nc1:Nat)(seen1:List Int)(tall1:Int)(bad1:Bool)(wr:World):Prop where
 fr:Fr3 g sb na w wr
 st:TSt B0 g sb N rt wr (ns++ms) nv1 na1 nc1 seen1 tall1 bad1
 na:na1=na\/∃k,na1=some ⟨k,0,none⟩/\w.1.size<=k
 old:∀m,m<ns.length->nv1 m=nv m
 new:∀m k,ns.length<=m->m< (ns++ms).length->(nv1 m).da=some ⟨k,0,none⟩->w.1.size<=k
 le:(ns++ms).length+(steps+1)<=seen1.length
 le2:seen.length+1<=seen1.length
 blk:Blk wr 257 nb (ndc v (br i ls kd))
 own:ONd w.1.size wr v (br i ls kd)
 vw:Blk wr 249 w.1.size [vs]
 nan:na1≠some ⟨nb,0,none⟩
 sep:∀m,m< (ns++ms).length->∀k,v.da=some ⟨k,0,none⟩->(nv1 m).da≠some ⟨k,0,none⟩
 len:kd.length=ls.length
 rest:∀m,j<=m->kd.getD m 0=(ls.getD m d0).2
 res:(bad1=false/\∃ts:List (ByteArray×Tr),ts.length=j/\(∀m,m<j->(ts.getD m t0).1=(ls.getD m d0).1)/\rdK (rdT P f ((steps:Int)+1)) ls ⟨(i:Int)::seen,tall⟩=(rdK (rdT P f ((steps:Int)+1)) (ls.drop j) ⟨seen1,tall1⟩).map (fun y=>(gN ts y.1,y.2))/\∀m,m<j->isT (ts.getD m t0).2=true/\Rep (ns++ms) (ts.getD m t0).2 true [kd.getD m 0] [])\/
  (bad1=true/\rdK (rdT P f ((steps:Int)+1)) ls ⟨(i:Int)::seen,tall⟩=none)
theorem LpI.belowL{P B0 g sb N rt f steps i m w ns nv na seen tall nb v ls j kd l k e h a b c wr wr'}(I:LpI P B0 g sb N rt f steps i m w ns nv na seen tall nb v ls j kd l k e h a b c wr)(d:Below wr.1.size wr wr'):LpI P B0 g sb N rt f steps i m w ns nv na seen tall nb v ls j kd l k e h a b c wr':=
 ⟨I.fr.trans (Fr3.ofBelow d) I.na,I.st.belowT d,I.na,I.old,I.new,I.le,I.le2,I.blk.below d,I.own.below d,I.vw.below d,I.nan,I.sep,I.len,I.rest,I.res⟩
theorem LpI.after{P B0 g sb N rt f steps i s w ns nv na seen tall nb v ls j kd u q k p d h l wr c}(I:LpI P B0 g sb N rt f steps i s w ns nv na seen tall nb v ls j kd u q k p d h l wr)(fr:Fr3 g sb k wr c):
 Blk c 257 nb (ndc v (br i ls kd))/\ONd w.1.size c v (br i ls kd)/\Blk c 249 w.1.size [s]:=by
 have n:nb≠g:=fun e=>by
  have b:=I.st.blk;have a:=I.blk;unfold Blk at b a;rw[e,b]at a;cases a
 have o:nb≠sb:=fun e=>by
  obtain⟨_,x,b⟩:=I.st.mks.blk;have a:=I.blk;unfold Blk at a;rw[e,b]at a;cases a
 have m:∀r,r≠207->r≠4->r≠257->KeepT r wr c:=fun r b a t=>fr.keepT I.st b a t;exact⟨(fr.block nb I.blk.lt n o I.nan).trans I.blk,I.own.keep (m _ kN kN kN) (m _ kN kN kN),I.vw.keepT (m _ kN kN kN)⟩
theorem Jv{ls:List (ByteArray×Int)}{j}(h:j<ls.length):ls.drop j=((ls.getD j d0).1,(ls.getD j d0).2)::ls.drop (j+1):=by
 rw[oF h];congr 1;simp[List.getD,List.getElem?_eq_getElem h]
theorem LpI.step{P B0 g sb N rt f steps i ai w ns nv na seen tall nb v ls j kd A Q L ag d l wr c}(I:LpI P B0 g sb N rt f steps i ai w ns nv na seen tall nb v ls j kd A Q L ag d l false wr)(ab:j<ls.length){s}(u:v.da=some ⟨s,0,none⟩)(a0:w.1.size<=nb){p x D M O y z C}(o:RdQ P B0 g sb N rt f (steps+1) (kd.getD j 0) wr (ns++A) Q L d l c p x D M O y z C):
 LpI P B0 g sb N rt f steps i ai w ns nv na seen tall nb v ls (j+1) (kd.set j p) (A++x) D M O y z C (c.setCell ⟨s,j,none⟩ (.int .i64 p)):=by
 have ow:=I.own.kids;rw[u]at ow;obtain⟨ac,aO,r⟩:=ow.blk;have kI:KeepT 3 wr c:=o.fr.keepT I.st kN kN kN;have an:KeepT 9 wr c:=o.fr.keepT I.st kN kN kN;have ap:KeepT 249 wr c:=o.fr.keepT I.st kN kN kN;have aX:=(k6.1 r).1;have t:=kI.block _ _ _ r;have ae:=I.blk.lt;have Z:nb≠g:=fun e=>by
  have b:=I.st.blk;have a:=I.blk;unfold Blk at b a;rw[e,b]at a;cases a
 have af:nb≠sb:=fun e=>by
  obtain⟨_,a1,b⟩:=I.st.mks.blk;have a:=I.blk;unfold Blk at a;rw[e,b]at a;cases a
 have ad:nb≠s:=fun e=>by
  have a:=I.blk;unfold Blk at a;rw[e,r]at a;cases a
 have ar:Blk c 257 nb (ndc v (br i ls kd)):=(o.fr.block nb ae Z af I.nan).trans I.blk;have J:=aB c s j (.int .i64 p);have aw:=ar.only J ad;have G:∀aH,3≠aH->KeepT aH c (c.setCell ⟨s,j,none⟩ (.int .i64 p)):=fun aH am=>iN J t am;have ak:ndc v (br i ls kd)=ndc v (br i ls (kd.set j p)):=by simp[ndc,br]
 have F:∀m,m< (ns++(A++x)).length->∀k,v.da=some ⟨k,0,none⟩->(D m).da≠some ⟨k,0,none⟩:=fun m n k W V=>by
  by_cases h:m< (ns++A).length
  ·rw[o.old m h]at V;exact I.sep m h k W V
  ·have:=o.new m k kH (by rw[k5];exact n) V;rw[u]at W;cases W;omega
 have H:=I.own.keep an kI;have ah:Own1 3 w.1.size (c.setCell ⟨s,j,none⟩ (.int .i64 p)) v.da (kd.set j p).length v.dc (on (kd.set j p)):=by
  have b:Own1 3 w.1.size c v.da kd.length v.dc (on kd):=H.kids;rw[u]at b ⊢;have a:=b.set j (.int .i64 p);rw[Hw]at a;rw[List.length_set];exact a
 refine⟨(I.fr.trans o.fr I.na).fresh J ac,?_,?_,fun m n=> ?_,fun m k b a q=> ?_,?_,k2 I.le2 o.le2,?_,⟨H.keys.keep (G _ kN),H.vals.keep (G _ kN),ah,H.signs.keep (G _ kN)⟩,(I.vw.keepT ap).keepT (G _ kN),?_,F,by rw[List.length_set];exact I.len,fun m n=> ?_,?_⟩
 ·have:=o.st;rw[k5]at this;exact this.other (xs:=[]) J ⟨_,t⟩ kN kN (kV kN) kN (kT (fun m n=>F m n s u))
 ·rcases o.na with h|⟨k,b,a⟩
  ·rw[h];exact I.na
  ·exact kT ⟨k,b,k2 I.fr.size a⟩
 ·rw[o.old m (by rw[kY];omega)];exact I.old m n
 ·by_cases h:m< (ns++A).length
  ·rw[o.old m h]at q;exact I.new m k b h q
  ·have:=o.new m k kH (by rw[k5];exact a) q;exact k2 I.fr.size this
 ·have:=o.le;rw[k5]at this;exact this
 ·rw[<-ak];exact aw
 ·rcases o.na with h|⟨k,b,a⟩
  ·rw[h];exact I.nan
  ·rw[b];intro e;cases e;omega
 ·rw[<-I.rest m kH];simp[List.getD,List.getElem?_set_ne (show j≠m by omega)]
 ·rcases I.res with⟨_,B,b,a,q,Y⟩|⟨h,_⟩
  ·have K:=I.rest j kE;rw[Jv ab]at q;rcases o.res with⟨U,T,E,X,q3⟩|⟨U,E⟩
   ·refine kV ⟨U,B++[((ls.getD j d0).1,T)],by simp[b],fun m n=> ?_,?_,fun m n=> ?_⟩
    ·by_cases e:m=j
     ·subst e;simp[List.getD,<-b]
     ·have:=a m kH;rw[<-this];simp[List.getD,List.getElem?_append_left (show m<B.length by omega)]
    ·rw[q];rw[K]at E;exact IZ E
    ·by_cases e:m=j
     ·subst e;have R:(B++[((ls.getD m d0).1,T)]).getD m t0=((ls.getD m d0).1,T):=by simp[List.getD,<-b]
      have S:(kd.set m p).getD m 0=p:=by simp[List.getD,I.len,ab]
      rw[R,S,<-k5];exact⟨X,q3⟩
     ·have R:(B++[((ls.getD j d0).1,T)]).getD m t0=B.getD m t0:=by simp[List.getD,List.getElem?_append_left (show m<B.length by omega)]
      have S:(kd.set j p).getD m 0=kd.getD m 0:=by simp[List.getD,List.getElem?_set_ne (show j≠m by omega)]
      rw[R,S,<-k5];exact⟨(Y m kH).1,(Y m kH).2.app x⟩
   ·refine kT ⟨U,?_⟩;rw[q];rw[K]at E;have X:rdT P f ((steps:Int)+1) ⟨d,l⟩ (ls.getD j d0).2=none:=E;rw[IX X]
    rfl
  ·cases h
theorem za{P B0 g sb N rt f steps i M w ns nv na seen tall nb v ls j kd a q A G c d b wr B}(I:LpI P B0 g sb N rt f steps i M w ns nv na seen tall nb v ls j kd a q A G c d b wr)(hx:b=true\/j=ls.length){C}(u:inP C=some ls)(z:rdT P (f+1) steps ⟨seen,tall⟩ (i:Int)=((inP C).bind fun ls=>(rdK (rdT P f ((steps:Nat)+1)) ls ⟨(i:Int)::seen,tall⟩).map fun y=>(.node (i:Int) y.1,y.2))){n D}(H:TSt B0 g sb N rt B ((ns++a)++[br i ls kd]) (jN q (ns++a).length v) (some ⟨n,0,none⟩) D c d b)(J:Fr3 g sb na w B)(F:A=some ⟨n,0,none⟩\/w.1.size<=n):
 RdQ P B0 g sb N rt (f+1) steps (i:Int) w ns nv na seen tall B ((ns++a).length:Nat) (a++[br i ls kd]) (jN q (ns++a).length v) (some ⟨n,0,none⟩) D c d b:=by
 have Q:(ns++a).length=ns.length+a.length:=kY;refine⟨J,by rw[<-k5];exact H,?_,fun m p=> ?_,fun m k o r l=> ?_,?_,k2 (n0 _) I.le2,?_⟩
 ·rcases F with h|h
  ·rw[<-h];exact I.na
  ·exact kT ⟨n,rfl,h⟩
 ·rw[mY _ _ kH];exact I.old m p
 ·rw[<-k5,kY]at r;have O:m< (ns++a).length+1:=r;by_cases e:m=(ns++a).length
  ·subst e;rw[pJ]at l;have E:=I.own.kids;rw[l]at E;exact E.blk.1
  ·rw[mY _ _ kH]at l;exact I.new m k o kH l
 ·rw[<-k5,kY];have:=I.le;show(ns++a).length+1+steps<=_;omega
 ·rcases I.res with⟨s,t,o,r,l,K⟩|⟨s,o⟩
  ·have L:j=ls.length:=by
    rcases hx with h|h
    ·rw[s]at h;cases h
    ·exact h
   subst L;rw[List.drop_length]at l;refine kV ⟨s,.node (i:Int) (gN t .nil),?_,rfl,?_⟩
   ·rw[z,u];simp only[nn];rw[l]
    rfl
   ·rw[<-k5,Rep];refine⟨(ns++a).length,kd,ls.tail.map (fun x=>x.1),rfl,by simp[br],?_⟩;have hr:=yH (ns:=(ns++a)++[br i ls kd]) t true kd (by rw[I.len,o]) (fun m p=>(K m kH).2.app _);have e:t.tail.map (·.1)=ls.tail.map (fun x=>x.1):=by
     apply o3;intro m;simp only[pb,List.getElem?_tail];by_cases p:m+1<t.length
     ·have:=r (m+1) kH;simp only[List.getD,lx p,lx (show m+1<ls.length by omega),Option.getD_some]at this;rw[lx p,lx (show m+1<ls.length by omega)];simp[this]
     ·rw[ot kH,ot kH]
      rfl
    rw[qb rfl,e]at hr;exact hr
  ·refine kT ⟨s,?_⟩;rw[z,u];simp only[nn];rw[o]
   rfl
theorem zc:∀(n:Nat)(l:List Int)(r:List (ByteArray×Int)),l.length<=n->lnP l=some r->r.length<=l.length
 |0,l,r,h,e=>by rw[jy kH]at e;cases e;simp
 |n+1,l,r,h,e=>by
  by_cases b:l.length=0
  ·rw[jy b]at e;cases e;simp
  ·cases a:fN l with
   |false=>rw[lr b a]at e;cases e
   |true=>
    rw[mv a]at e;obtain⟨d,c,rfl⟩:=n7.1 e;have f:=(iP.1 a).2.2;have:=zc n (l.drop (5+lfK l)) d (by rw[k3];omega) c;rw[k3]at this;simp;omega
theorem pQ{l ls}(h:inP l=some ls):ls.length<=l.length:=by
 unfold inP at h;by_cases a:4<=l.length
 ·rw[qb a]at h;obtain⟨r,b,rfl⟩:=n7.1 h;have:=zc _ _ r kE b;rw[k3]at this;simp;omega
 ·rw[q4 a]at h;cases h
def LpE(P:Pg)(B0 g sb N:Nat)(rt:Int)(f steps i:Nat)(vs:Value)(w:World)(ns:List NdK)(nv:Nat->NdV)(na:Option Addr)(seen:List Int)(tall:Int)(nb:Nat)(v:NdV)(ls:List (ByteArray×Int))(x:Value)(wr:World):Prop:=
 ∃j kd ms nv1 na1 nc1 seen1 tall1 bad1,x= .int .i64 ((j:Nat):Int)/\j<=ls.length/\LpI P B0 g sb N rt f steps i vs w ns nv na seen tall nb v ls j kd ms nv1 na1 nc1 seen1 tall1 bad1 wr
theorem Jw(P N B0 g sb rt r cl)(cf:PgW P N)(dl:mZ P r g cl)(cq:cl.1.size<=B0)(f)(eN:RdC P N B0 g sb rt r cl f)(steps id ns nv na nc seen tall w)(en:OnlyB g cl w)(c9:TSt B0 g sb N rt w ns nv na nc seen tall false)(e6:ns.length+steps<=seen.length)(gn:N< (f+1)+seen.length)(J:P.ok id=true)(bx:2<=id)(bY:id∉seen)(bP:P.kd id=3):
 Calls prog 180 #[.pointer (some ⟨g,0,none⟩),.agg #[r],.int .i64 id,.int .i64 (steps:Nat)] w fun e w'=>RdP P B0 g sb N rt (f+1) steps id w ns nv na seen tall e w':=by
 have df:Hid _:=eN;have eY:=cf.le;have c8:=bAl w (.cells #[r] 249);have er:=ao w 249 #[r];have cF:=c9.belowT c8;have c0:Fr3 g sb na w (w.alloc (.cells #[r] 249)):=Fr3.ofBelow c8;have fd:(w.alloc (.cells #[r] 249)).1.size=w.1.size+1:=by simp
 have ey:(prog.info? 249).map (·.size)=some (#[r]:Array Value).size:=kO;go_enter func180,ntmps180;go_upto_region 1 with fail
 change Code.wp _ _ _ _ (w.alloc (.cells #[r] 249));generalize w.alloc (.cells #[r] 249)=eH at*;have f0:w.1.size<eH.1.size:=kH;clear fd;have e2:=c0.onlyG c9 cq en;have bi:=dl eH e2 id;have cr:=cf.byte id;have fs:=cf.len id;have b0:=cf.ok id;have b6:Blk eH 249 w.1.size [r]:=er;clear er dl;obtain⟨c2,e4⟩:=b0 J;have bf:Hid (rdT P (f+1) steps ⟨seen,tall⟩ id=((inP (P.bd id)).bind fun ls=>(rdK (rdT P f ((steps:Nat)+1)) ls ⟨id::seen,tall⟩).map fun y=>(.node id y.1,y.2))):=by
  show rdT P (f+1) steps ⟨seen,tall⟩ id= _;rw[rdT,qb (gV.2 ⟨J,bx,bY,kT bP⟩),q4 kH]
 rw[J,bP]at bi;clear b0 J bP;obtain⟨i,rfl⟩:=n3 c2;have bH:i<N:=kH;generalize ea:P.bd (i:Int)=ch at*;clear ea;generalize fz:ch.length=cR at*;go_wp2_with (refine qi rfl 249 _ rfl w.1.size rfl 249 #[r] (0,0) _ b6 underlying249 rfl ey ?_);refine bi.mono ?_;rintro e w1 ⟨cP,cS,rfl,bk,c7⟩;have b9:=cF.belowT bk;have f1:=c0.trans (Fr3.ofBelow bk) (kV rfl);have cA:=b6.below bk;have bs1:=c7.bs cr;have dB:w1.cell? ⟨g,2,none⟩=some (.slice (some ⟨sb,0,none⟩) N N):=b9.blk.cell 2;have f2:=bk.size;have Y:=kG b9 (kR f1 (kR cA (kR bs1 c7)));clear bi b9 f1 cA bs1 c7 bk cF c0 b6 c8;have eb:w1.cell? ⟨sb,i,none⟩=some (.bool false):=by
  obtain⟨d7,E,_,_,_,c1⟩:=Y.out.1.mks.at_ kH;cases E;rw[c1 i bH,kU _ _ _ bH];cases em:seen.contains (i:Int)with
  |false=>rfl
  |true=>exact absurd (m9.1 em) bY
 have ef:=Y.out.1.mks.free i;have a2:=aB w1 sb i (.bool true);have cG:=Y.out.1.mark bH bY;have dE:=Y.out.2.1.trans (Fr3.only a2 (kT (kV rfl))) (kV rfl);obtain⟨_,eX,a1⟩:=Y.out.1.mks.blk;have b7:∀da,4≠da->KeepT da w1 (w1.setCell ⟨sb,i,none⟩ (.bool true)):=fun da e9=>iN a2 a1 e9;have cB:=Y.out.2.2.1.keepT (b7 _ kN);have es:Own eH.1.size (w1.setCell ⟨sb,i,none⟩ (.bool true)) cP cR cS ch:=dL Y.out.2.2.2.2 (b7 _ kN);have bp:=es.bs cr;have f3:=a2.size;have dv:=xG cP cR cS ch _ bp kH;have ba:=kG cG (kR dE (kR cB bp));clear Y cG dE cB es bp b7 a1 a2;go_upto_region 6 with fail
 clear dB eb ef;generalize w1.setCell ⟨sb,i,none⟩ (.bool true)=gf at*;go_wp2_with fail;refine dv.mono ?_;rintro e a0 ⟨cc,bg,gb,rfl,a8,eP,U⟩;clear U dv eP;have ca:=ba.out.1.belowT a8;have dF:=ba.out.2.1.trans (Fr3.ofBelow a8) (kV rfl);have q3:=bAl a0 (.cells (ndc cc bg).toArray 257);have eq:=ao a0 257 (ndc cc bg).toArray;have cb:=ca.belowT q3;have dG:=dF.trans (Fr3.ofBelow q3) (kV rfl);have cC:=(ba.out.2.2.1.below a8).below q3;have co:=(ba.out.2.2.2.below a8).below q3;have bR:na≠some ⟨a0.1.size,0,none⟩:=fun e=>by
  have eh:=ca.nodes;rw[e]at eh;obtain⟨_,fn,c1⟩:=eh.blk;have:=(k6.1 c1).1;omega
 have f4:=a8.size;clear ba ca dF q3 a8;go_upto_region 7 with(refine aL rfl 257 _ _ rfl a0 (ndc bX nd0).toArray (ndc cc bg).toArray 257 rfl rfl bM rfl (fT _ _) ?_)
 change Code.wp _ _ _ _ (a0.alloc (.cells (ndc cc bg).toArray 257));generalize a0.alloc (.cells (ndc cc bg).toArray 257)=cg at*;have b4:=eq;clear eq;generalize a0.1.size=nb at*;have aH:w.1.size<=nb:=kH;have ci:Hid (∀m,m<ns.length->∀k,(nv m).da=some ⟨k,0,none⟩->k<cg.1.size):=fun m T k e=>(cb.each m T).kids.lt e;have LI:=Ir cP cR cS ch cg co kH;go_wp2_with fail;refine LI.mono ?_;rintro e eA ⟨a,a6,gc,rfl,bl,dx,U⟩;have be:Hid _:=U;clear U LI co;have cH:=cb.belowT bl;have dW:=dG.trans (Fr3.ofBelow bl) (kV rfl);have O:=b4.below bl;have cD:=cC.below bl;have a9:=aN eA nb (ndc a a6).toArray;have cz:=O.setRow (ndc a a6);have cL:=cH.other (xs:=[]) a9 ⟨_,O⟩ kN kN (kT bR) kN (kV kN);have d1:=dW.fresh a9 aH;have dy:=(dx.keep (aV a9 O kN) (aV a9 O kN));have cE:=cD.keepT (aV a9 O kN);have fo:=b4.lt;have u:=kG cL (kR d1 (kR dy (kR cz (kR cE bR))));clear cb dG b4 cC cH dW cD a9 cL d1 dy cz cE bR dx bl;go_upto_region 11 with(refine qB rfl 257 _ _ rfl nb (ndc a a6).toArray rfl rfl 257 _ O bM rfl (fT _ _) ?_)
 generalize eA.setRow nb (ndc a a6).toArray=L at*;clear O;have ac:L.cell? ⟨g,4,none⟩=some (.bool false):=u.out.1.blk.cell 4;have d3:=u.out.1.blk.free 4;have dA:L.cell? ⟨nb,0,none⟩=some (.int .i64 a6.page):=u.out.2.2.2.1.cell 0;have d2:=u.out.2.2.2.1.free 0;rcases be.out with⟨J,ls,ai,b⟩|⟨J,ai⟩
 case inr=>
  subst J;have cy:rdT P (f+1) steps ⟨seen,tall⟩ (i:Int)=none:=by rw[bf.out,ai];rfl
  have b2:seen.length<=((i:Int)::seen).length:=by rw[m1];omega
  have dc:Hid (RdQ P B0 g sb N rt (f+1) steps (i:Int) w ns nv na seen tall (L.setCell ⟨g,4,none⟩ (.bool true)) (-1) [] nv na nc ((i:Int)::seen) tall true):=
   pK (w1:=L) (-1) (u.out.2.1.trans (Fr3.only (aB L g 4 (.bool true)) (kV rfl)) (kV rfl)) (u.out.1.set 4 (.bool true) rfl) e6 b2 cy
  clear cy b2 u;go_wp2_with fail;go_ret;exact im dc.out
 case inl=>
 subst J;have cn:Hid _:=ai;have c4:ls.length<=1048576:=by have:=pQ ai;omega
 have ck:=aB L nb 0 (.int .i64 (i:Int));have b5:=u.out.2.2.2.1.set 0 (.int .i64 (i:Int));have dD:(ndc a a6).set 0 (.int .i64 (i:Int))=ndc a (br i ls (ls.map (fun x=>x.2))):=by rw[b];rfl
 rw[dD]at b5;have a4:∀da,257≠da->KeepT da L (L.setCell ⟨nb,0,none⟩ (.int .i64 (i:Int))):=fun da bx=>aV ck u.out.2.2.2.1 bx;have bE:LpI P B0 g sb N rt f steps i r w ns nv na seen tall nb a ls 0 (ls.map (fun x=>x.2)) [] nv na nc ((i:Int)::seen) tall false (L.setCell ⟨nb,0,none⟩ (.int .i64 (i:Int))):=by
  have a7:=u.out.2.2.1.keep (a4 _ kN) (a4 _ kN);rw[b]at a7;have d9:Own1 3 cg.1.size (L.setCell ⟨nb,0,none⟩ (.int .i64 (i:Int))) a.da (ls.map (fun x=>x.2)).length a.dc (on (ls.map (fun x=>x.2))):=a7.kids;have a3:w.1.size<=cg.1.size:=kH;refine⟨u.out.2.1.fresh ck aH,by rw[lj];exact u.out.1.other (xs:=[]) ck ⟨_,u.out.2.2.2.1⟩ kN kN (kT u.out.2.2.2.2.2) kN (kV kN),kV rfl,fun _ _=>rfl,fun m k gi bx=>by rw[lj]at bx;omega,by rw[lj,m1];omega,by rw[m1];omega,b5,⟨a7.keys.mono a3,a7.vals.mono a3,d9.mono a3,a7.signs.mono a3⟩,u.out.2.2.2.2.1.keepT (a4 _ kN),u.out.2.2.2.2.2,fun m T k e5 e3=> ?_,oR _,fun m T=> ?_,kV ⟨rfl,[],rfl,fun m T=>absurd T (np _),?_,fun m T=>absurd T (np _)⟩⟩
  ·rw[lj]at T;have gk:=ci.out m T k e3;have d8:=a7.kids;rw[e5]at d8;have gm:=d8.blk.1;omega
  ·by_cases h:m<ls.length
   ·simp[List.getD,List.getElem?_eq_getElem h]
   ·simp[List.getD,List.getElem?_eq_none (show ls.length<=m by omega),d0]
  ·simp[gN]
 have cm:Hid _:=bE;clear bE a4 b5 dD ck b;go_upto_region 17 with fail
 generalize L.setCell ⟨nb,0,none⟩ (.int .i64 (i:Int))=gg at*;clear ac d3 dA d2 u be ai;go_wp2_with fail;go_loopw [14] (fun x wr=>LpE P B0 g sb N rt f steps i r w ns nv na seen tall nb a ls x wr) (fun x _=>ls.length-(intOf x).toNat)
 case atStart=>exact⟨0,_,_,_,_,_,_,_,_,rfl,kX _,cm.out⟩
 case round=>
  clear cm;obtain⟨j,kd,c6,an,o,s,W,X,S,rfl,gp,I⟩:=hrel;obtain⟨F,rfl⟩:∃x,x=wr:=⟨_,rfl⟩;have ab:F.cell? ⟨nb,4,none⟩=some (.slice a.da kd.length a.dc):=I.blk.cell 4;have ac:F.cell? ⟨g,4,none⟩=some (.bool S):=I.st.blk.cell 4;have cw:=I.len;have d:Hid _:=I;have e8:=I.st.ok.le;have e7:=I.le;have fM:kd.length<=1048576:=by rw[I.len];exact c4
  clear I;by_cases ek:j<ls.length
  ·have c5:(j:Int)< (kd.length:Int):=kH;clear cw;cases S with
   |true=>
    have dn:Hid (true=true\/j=ls.length):=kV rfl;go_upto_region 21 with fail
    clear ab ac;have ad:=bDr F;obtain⟨c,G⟩:∃l,l=ns++c6:=⟨_,rfl⟩;have A:TSt B0 g sb N rt F.drew c an o s W X true:=by rw[G];exact d.out.st.belowT ad
    have bS:c.length<=1048576:=by rw[G];have:=d.out.le;have:=d.out.st.ok.le;omega
    have bc:Hid _:=G;clear G;have H:=d.out.blk.below ad;have bh:=d.out.own.below ad;have t:Hid (∀B:World,Blk B 257 nb (ndc a (br i ls kd))->(Instr.loadAt 257 (.pointer (some ⟨nb,0,none⟩))).run prog B= .ok (.agg (ndc a (br i ls kd)).toArray) B):=fun B b3=>by
     simp only[Instr.loadAt,Instr.sureAddr,q9,r2,Result.andThen];exact sL B nb 257 257 (ndc a (br i ls kd)).toArray (0,0) _ b3 q8 rfl bM
    have bv:=d.out.fr.trans (Fr3.ofBelow (na:=o) ad) d.out.na;refine ay (fun B=>B.cell? ⟨g,0,none⟩=some (.slice o c.length s)/\(Instr.loadAt 257 (.pointer (some ⟨nb,0,none⟩))).run prog B= .ok (.agg (ndc a (br i ls kd)).toArray) B) (fun k=>decide (8<=k)) kO ?_;generalize F.drew=C at*;have cs:C.cell? ⟨g,0,none⟩=some (.slice o c.length s)/\(Instr.loadAt 257 (.pointer (some ⟨nb,0,none⟩))).run prog C= .ok (.agg (ndc a (br i ls kd)).toArray) C:=⟨A.blk.cell 0,t.out _ H⟩;have V:=bAl C (.cells (ndc a (br i ls kd)).toArray 257);have bt:(C.alloc (.cells (ndc a (br i ls kd)).toArray 257)).cell? ⟨g,0,none⟩=some (.slice o c.length s)/\(Instr.loadAt 257 (.pointer (some ⟨nb,0,none⟩))).run prog (C.alloc (.cells (ndc a (br i ls kd)).toArray 257))= .ok (.agg (ndc a (br i ls kd)).toArray) (C.alloc (.cells (ndc a (br i ls kd)).toArray 257)):=⟨(A.belowT V).blk.cell 0,t.out _ (H.below V)⟩;have bz:=A.gB;have n:=kG A (kR bv bh);have K:Hid _:=H.below V;clear A bv bh H V ad;refine aY 0 cs ?_;refine aY 1 cs ?_;refine aY 2 cs ?_;refine aY 3 cs ?_;refine aY 4 cs ?_;refine aC 5 (.agg (ndc a (br i ls kd)).toArray) cs ?hyp5 ?_
    case hyp5=>exact fun B ag=>bO (p:= .pointer (some ⟨nb,0,none⟩)) rfl rfl ag.2
    refine aj 6 fun q b=> ?_;refine fj _ _ _ rfl (v:= .slice (some ⟨C.1.size,0,none⟩) 1 1) (w':=(C.alloc (.cells (ndc a (br i ls kd)).toArray 257))) ?bsp ?_
    case bsp=>
     simp only[k9,k4,k7];exact gF lW kH (.agg (ndc a (br i ls kd)).toArray) (ndc a (br i ls kd)) rfl rfl C
    refine al b ?_;clear b q;refine aj 7 fun q b=> ?_;refine jW _ _ lW rfl B0 o c.length s (i0 an c) rfl n.out.1.nodes (ndc a (br i ls kd)) rfl (pI _ _) rfl bS kH bz ?_;intro M aw Q b8 bn z Z;have am:Blk Q 257 nb (ndc a (br i ls kd)):=by
     refine(z.block nb (Blk.lt K.out) ?_).trans K.out;intro e;rcases n.out.1.nodes.2 with⟨E,_⟩|⟨d7,cT,cV,E,_⟩
     ·rw[E]at e;simp[Value.ownBlock]at e
     ·rw[E]at e;simp[Value.ownBlock]at e;simp only[s0]at E;subst e;exact d.out.nan E.1
    have aO:Blk Q 207 g _:=n.out.1.blk.keepT ((aW (bAl _ _)).trans (bJ (cj n.out.1.nodes (bAl _ _)) z kN));have bq:Q.cell? ⟨g,0,none⟩=some (.slice o c.length s):=aO.cell 0;have bw:=aO.free 0;refine b.out _ _ (fun _=>⟨bq,t.out _ am⟩) ?_;clear b q;have ap:=n.out.1.push (n.out.2.2.mono (kX _)) b8 bn z;have bu:Fr3 g sb na w (Q.setCell ⟨g,0,none⟩ (.slice (some ⟨M,0,none⟩) (c.length+1) aw)):=n.out.2.1.trans (Fr3.push n.out.1.nodes z n.out.1.blk.lt) d.out.na;have ah:Hid (o=some ⟨M,0,none⟩\/w.1.size<=M):=by
     have:=n.out.2.1.size;rcases Z with h|h
     ·exact kV h
     ·exact kT kH
    have R:=kG ap bu;clear ap bu aO b8 bn z Z bt am K t;refine aj 8 fun q b=> ?_;go_wp2_with fail;refine al b ?_;clear b q;refine aj 9 fun q b=> ?_;go_wp2_with fail;refine al b ?_;clear b q;refine aj 10 fun q b=> ?_;go_wp2_with fail;refine al b ?_;clear b q;refine ax ?_;clear bq bw cs;generalize Q.setCell ⟨g,0,none⟩ (.slice (some ⟨M,0,none⟩) (c.length+1) aw)=ar at*;have b1:RdP P B0 g sb N rt (f+1) steps (i:Int) w ns nv na seen tall (.returned (.int .i64 (c.length:Nat))) ar:=by
     have bj:=R.out.1;rw[bc.out]at bj ⊢;exact im (za d.out (kV rfl) cn.out bf.out bj R.out.2 ah.out)
    have bd:Hid _:=b1;have eW:ar.cell? ⟨g,0,none⟩=some (.slice (some ⟨M,0,none⟩) (c.length+1) aw):=(R.out.1.blk.cell 0).trans (by simp[trc]);clear b1 R ah d;generalize c.length=ge at*;go_wp2_with fail;go_ret
    first|exact bd.out|(refine(rx (fun x=>RdP P B0 g sb N rt (f+1) steps (i:Int) w ns nv na seen tall (.returned (.int .i64 x)) ar) ?_).mp bd.out;simp)
   |false=>
    go_upto_region 20 with fail
    clear ac;have ex:=d.out.own.kids;have cx:0< (br i ls kd).kids.length:=by show 0<kd.length;omega
    obtain⟨aX,bF,ej,c3,_,ak⟩:=ex.at_ cx;have cv:=(ak j (by show j<kd.length;omega)).trans (rx some (lM kd j kH));have bb:Hid _:=bF;rw[bF]at ab;clear ak ex cx bF ej c3;have af:=bDr F;have cM:=d.out.st.belowT af;have ct:=(d.out.fr.onlyG c9 cq en).trans (Below.onlyB af g);have cO:=df.out (steps+1) (kd.getD j 0) (ns++c6) an o s W X F.drew ct cM (by have:=d.out.le2;omega) (by have:=d.out.le;omega);rw[show((steps+1:Nat):Int)=(steps:Int)+1 by omega]at cO;have t:Hid (∀B:World,Blk B 249 w.1.size [r]->(Instr.loadAt 249 (.pointer (some ⟨w.1.size,0,none⟩))).run prog B= .ok (.agg #[r]) B):=fun B b3=>by
     simp only[Instr.loadAt,Instr.sureAddr,q9,r2,Result.andThen];exact sL B w.1.size 249 249 #[r] (0,0) _ b3 underlying249 rfl ey
    refine ay (fun B=>B.cell? ⟨nb,4,none⟩=some (.slice (some ⟨aX,0,none⟩) kd.length a.dc)/\B.cell? ⟨aX,j,none⟩=some (.int .i64 (kd.getD j 0))/\(Instr.loadAt 249 (.pointer (some ⟨w.1.size,0,none⟩))).run prog B= .ok (.agg #[r]) B) (fun k=>decide (13<=k)) kO ?_;have cs:F.drew.cell? ⟨nb,4,none⟩=some (.slice (some ⟨aX,0,none⟩) kd.length a.dc)/\F.drew.cell? ⟨aX,j,none⟩=some (.int .i64 (kd.getD j 0))/\(Instr.loadAt 249 (.pointer (some ⟨w.1.size,0,none⟩))).run prog F.drew= .ok (.agg #[r]) F.drew:=⟨ab,cv,t.out _ (d.out.vw.below af)⟩;have dr:=d.out.belowL af;clear d ab cv af cM ct;have d:Hid _:=dr;clear dr;generalize F.drew=gh at*;generalize bN:kd.getD j 0=ep at*;have d4:IntKind.i64.wrap ((steps:Int)+1)=(steps:Int)+1:=by simp[IntKind.wrap,IntKind.bits,IntKind.signed];omega
    have d5:(0:Int)<=(j:Int):=kH;refine ed 0 cs ?_;refine ed 1 cs ?_;refine ed 2 cs ?_;refine ed 3 cs ?_;refine aC 4 (.agg #[r]) cs ?hyz4 ?_
    case hyz4=>exact fun B ag=>bO (p:= .pointer (some ⟨w.1.size,0,none⟩)) rfl rfl ag.2.2
    refine ed 5 cs ?_;refine ed 6 cs ?_;refine ed 7 cs ?_;refine ed 8 cs ?_;refine ed 9 cs ?_;refine ed 10 cs ?_;refine ed 11 cs ?_;clear d4 d5;refine aj 12 fun q b=> ?_;go_wp2_with fail;refine cO.mono ?_;rintro e cd e1;obtain⟨p,f5,f8,f6,f7,eK,eL,eV,rfl,eC⟩:=e1;rw[<-bN]at eC;have ce:=d.out.after eC.fr;have a5:=ce.2.1.kids;rw[bb.out]at a5;obtain⟨_,E,_,_,_,ak⟩:=a5.at_ (by show 0<kd.length;omega);cases E;have bs:=(ak j (by show j<kd.length;omega)).trans (rx some (lM kd j kH));have d6:=a5.free j;rw[bN]at bs;have cp:cd.cell? ⟨nb,4,none⟩=some (.slice (some ⟨aX,0,none⟩) kd.length a.dc):=by rw[<-bb.out];exact ce.1.cell 4
    have dC:cd.cell? ⟨nb,4,none⟩=some (.slice (some ⟨aX,0,none⟩) kd.length a.dc)/\cd.cell? ⟨aX,j,none⟩=some (.int .i64 ep)/\(Instr.loadAt 249 (.pointer (some ⟨w.1.size,0,none⟩))).run prog cd= .ok (.agg #[r]) cd:=⟨cp,bs,t.out _ ce.2.2⟩;have ds:=d.out.step ek bb.out aH eC;have dd:Hid _:=ds;clear ds eC ce a5 ak cO d cp;go_wp2_with fail;refine al b ?_;clear b q;refine aj 13 fun q b=> ?_;go_wp2_with fail;refine al b ?_;clear b q;refine aj 14 fun q b=> ?_;go_wp2_with fail;refine al b ?_;clear b q;refine ax ?_;clear cs dC bs d6;go_wp2;go_roundw
    case rel=>exact⟨j+1,_,_,_,_,_,_,_,_,by go_num,kH,dd.out⟩
    case measure=>simp[intOf];omega
  ·have cu:j=ls.length:=kH;have c5:¬(j:Int)< (kd.length:Int):=kH;have dn:Hid (S=true\/j=ls.length):=kT cu;clear cw cu;go_upto_region 21 with fail
   clear ab ac;have ae:=bDr F;obtain⟨c,G⟩:∃l,l=ns++c6:=⟨_,rfl⟩;have A:TSt B0 g sb N rt F.drew c an o s W X S:=by rw[G];exact d.out.st.belowT ae
   have bS:c.length<=1048576:=by rw[G];have:=d.out.le;have:=d.out.st.ok.le;omega
   have bc:Hid _:=G;clear G;have H:=d.out.blk.below ae;have bh:=d.out.own.below ae;have t:Hid (∀B:World,Blk B 257 nb (ndc a (br i ls kd))->(Instr.loadAt 257 (.pointer (some ⟨nb,0,none⟩))).run prog B= .ok (.agg (ndc a (br i ls kd)).toArray) B):=fun B b3=>by
    simp only[Instr.loadAt,Instr.sureAddr,q9,r2,Result.andThen];exact sL B nb 257 257 (ndc a (br i ls kd)).toArray (0,0) _ b3 q8 rfl bM
   have bv:=d.out.fr.trans (Fr3.ofBelow (na:=o) ae) d.out.na;refine ay (fun B=>B.cell? ⟨g,0,none⟩=some (.slice o c.length s)/\(Instr.loadAt 257 (.pointer (some ⟨nb,0,none⟩))).run prog B= .ok (.agg (ndc a (br i ls kd)).toArray) B) (fun k=>decide (8<=k)) kO ?_;generalize F.drew=D at*;have cs:D.cell? ⟨g,0,none⟩=some (.slice o c.length s)/\(Instr.loadAt 257 (.pointer (some ⟨nb,0,none⟩))).run prog D= .ok (.agg (ndc a (br i ls kd)).toArray) D:=⟨A.blk.cell 0,t.out _ H⟩;have V:=bAl D (.cells (ndc a (br i ls kd)).toArray 257);have bt:(D.alloc (.cells (ndc a (br i ls kd)).toArray 257)).cell? ⟨g,0,none⟩=some (.slice o c.length s)/\(Instr.loadAt 257 (.pointer (some ⟨nb,0,none⟩))).run prog (D.alloc (.cells (ndc a (br i ls kd)).toArray 257))= .ok (.agg (ndc a (br i ls kd)).toArray) (D.alloc (.cells (ndc a (br i ls kd)).toArray 257)):=⟨(A.belowT V).blk.cell 0,t.out _ (H.below V)⟩;have bz:=A.gB;have n:=kG A (kR bv bh);have K:Hid _:=H.below V;clear A bv bh H V ae;refine aY 0 cs ?_;refine aY 1 cs ?_;refine aY 2 cs ?_;refine aY 3 cs ?_;refine aY 4 cs ?_;refine aC 5 (.agg (ndc a (br i ls kd)).toArray) cs ?hyq5 ?_
   case hyq5=>exact fun B ag=>bO (p:= .pointer (some ⟨nb,0,none⟩)) rfl rfl ag.2
   refine aj 6 fun q b=> ?_;refine fj _ _ _ rfl (v:= .slice (some ⟨D.1.size,0,none⟩) 1 1) (w':=(D.alloc (.cells (ndc a (br i ls kd)).toArray 257))) ?bsq ?_
   case bsq=>
    simp only[k9,k4,k7];exact gF lW kH (.agg (ndc a (br i ls kd)).toArray) (ndc a (br i ls kd)) rfl rfl D
   refine al b ?_;clear b q;refine aj 7 fun q b=> ?_;refine jW _ _ lW rfl B0 o c.length s (i0 an c) rfl n.out.1.nodes (ndc a (br i ls kd)) rfl (pI _ _) rfl bS kH bz ?_;intro M aw Q b8 bn z Z;have am:Blk Q 257 nb (ndc a (br i ls kd)):=by
    refine(z.block nb (Blk.lt K.out) ?_).trans K.out;intro e;rcases n.out.1.nodes.2 with⟨E,_⟩|⟨d7,cT,cV,E,_⟩
    ·rw[E]at e;simp[Value.ownBlock]at e
    ·rw[E]at e;simp[Value.ownBlock]at e;simp only[s0]at E;subst e;exact d.out.nan E.1
   have aO:Blk Q 207 g _:=n.out.1.blk.keepT ((aW (bAl _ _)).trans (bJ (cj n.out.1.nodes (bAl _ _)) z kN));have bq:Q.cell? ⟨g,0,none⟩=some (.slice o c.length s):=aO.cell 0;have bw:=aO.free 0;refine b.out _ _ (fun _=>⟨bq,t.out _ am⟩) ?_;clear b q;have ap:=n.out.1.push (n.out.2.2.mono (kX _)) b8 bn z;have bu:Fr3 g sb na w (Q.setCell ⟨g,0,none⟩ (.slice (some ⟨M,0,none⟩) (c.length+1) aw)):=n.out.2.1.trans (Fr3.push n.out.1.nodes z n.out.1.blk.lt) d.out.na;have ah:Hid (o=some ⟨M,0,none⟩\/w.1.size<=M):=by
    have:=n.out.2.1.size;rcases Z with h|h
    ·exact kV h
    ·exact kT kH
   have R:=kG ap bu;clear ap bu aO b8 bn z Z bt am K t;refine aj 8 fun q b=> ?_;go_wp2_with fail;refine al b ?_;clear b q;refine aj 9 fun q b=> ?_;go_wp2_with fail;refine al b ?_;clear b q;refine aj 10 fun q b=> ?_;go_wp2_with fail;refine al b ?_;clear b q;refine ax ?_;clear bq bw cs;generalize Q.setCell ⟨g,0,none⟩ (.slice (some ⟨M,0,none⟩) (c.length+1) aw)=ar at*;have b1:RdP P B0 g sb N rt (f+1) steps (i:Int) w ns nv na seen tall (.returned (.int .i64 (c.length:Nat))) ar:=by
    have bj:=R.out.1;rw[bc.out]at bj ⊢;exact im (za d.out dn.out cn.out bf.out bj R.out.2 ah.out)
   have bd:Hid _:=b1;have eW:ar.cell? ⟨g,0,none⟩=some (.slice (some ⟨M,0,none⟩) (c.length+1) aw):=(R.out.1.blk.cell 0).trans (by simp[trc]);clear b1 R ah d;generalize c.length=ge at*;go_wp2_with fail;go_ret
   first|exact bd.out|(refine(rx (fun x=>RdP P B0 g sb N rt (f+1) steps (i:Int) w ns nv na seen tall (.returned (.int .i64 x)) ar) ?_).mp bd.out;simp)
