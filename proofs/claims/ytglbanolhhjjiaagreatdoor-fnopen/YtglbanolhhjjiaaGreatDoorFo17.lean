import Derived.Test.YtglbanolhhjjiaaGreatDoorFo10
namespace Go.Proofs.YtglbanolhhjjiaaGreatDoor
open Go.Proofs.Tryz
open Go.RowKit
set_option linter.unusedVariables false
set_option maxRecDepth 100000
set_option maxHeartbeats 32000000
def aW(i:Nat)(ls:List (ByteArray×Int))(kd:List Int):NdK:=⟨(i:Int),false,[],[],kd,ls.tail.map (fun x=>x.1)⟩
def d0:ByteArray×Int:=(strOfNums [],0)
def t0:ByteArray×Tr:=(strOfNums [],.nil)
structure LpI(P:Pg)(B0 g sb N:Nat)(rt:Int)(f steps i:Nat)(vs:Value)(w:World)(ns:List NdK)(nv:Nat->NdV)(na:Option Addr)(seen:List Int)(tall:Int)(nb:Nat)(v:NdV)(ls:List (ByteArray×Int))(j:Nat)(kd:List Int)(ms:List NdK)(nv1:Nat->NdV)(na1:Option Addr)(nc1:Nat)(seen1:List Int)(tall1:Int)(bad1:Bool)(wr:World):Prop where
 fr:Fr3 g sb na w wr
 st:TSt B0 g sb N rt wr (ns++ms) nv1 na1 nc1 seen1 tall1 bad1
 na:na1=na\/∃k,na1=some ⟨k,0,none⟩/\w.1.size<=k
 old:∀m,m<ns.length->nv1 m=nv m
 new:∀m k,ns.length<=m->m< (ns++ms).length->(nv1 m).da=some ⟨k,0,none⟩->w.1.size<=k
 le:(ns++ms).length+(steps+1)<=seen1.length
 le2:seen.length+1<=seen1.length
 blk:Blk wr 176 nb (ndc v (aW i ls kd))
 own:ONd w.1.size wr v (aW i ls kd)
 vw:Blk wr 136 w.1.size [vs]
 nan:na1≠some ⟨nb,0,none⟩
 sep:∀m,m< (ns++ms).length->∀k,v.da=some ⟨k,0,none⟩->(nv1 m).da≠some ⟨k,0,none⟩
 len:kd.length=ls.length
 rest:∀m,j<=m->kd.getD m 0=(ls.getD m d0).2
 res:(bad1=false/\∃ts:List (ByteArray×Tr),ts.length=j/\(∀m,m<j->(ts.getD m t0).1=(ls.getD m d0).1)/\rdK (rdT P f ((steps:Int)+1)) ls ⟨(i:Int)::seen,tall⟩=(rdK (rdT P f ((steps:Int)+1)) (ls.drop j) ⟨seen1,tall1⟩).map (fun y=>(fC ts y.1,y.2))/\∀m,m<j->isT (ts.getD m t0).2=true/\Rep (ns++ms) (ts.getD m t0).2 true [kd.getD m 0] [])\/
  (bad1=true/\rdK (rdT P f ((steps:Int)+1)) ls ⟨(i:Int)::seen,tall⟩=none)
theorem LpI.belowL{P B0 g sb N rt f steps i n w ns nv na seen tall nb v ls j kd ms m k l b c d wr wr'}(a:LpI P B0 g sb N rt f steps i n w ns nv na seen tall nb v ls j kd ms m k l b c d wr)(e:Below wr.1.size wr wr'):LpI P B0 g sb N rt f steps i n w ns nv na seen tall nb v ls j kd ms m k l b c d wr':=
 ⟨a.fr.trans (Fr3.ofBelow e) a.na,a.st.belowT e,a.na,a.old,a.new,a.le,a.le2,a.blk.below e,a.own.below e,a.vw.below e,a.nan,a.sep,a.len,a.rest,a.res⟩
theorem LpI.after{P B0 g sb N rt f steps i u w ns nv na seen tall nb v ls j kd ms s m r k l n wr c}(d:LpI P B0 g sb N rt f steps i u w ns nv na seen tall nb v ls j kd ms s m r k l n wr)(fr:Fr3 g sb m wr c):
 Blk c 176 nb (ndc v (aW i ls kd))/\ONd w.1.size c v (aW i ls kd)/\Blk c 136 w.1.size [u]:=by
 have p:nb≠g:=fun e=>by
  have b:=d.st.blk;have a:=d.blk;unfold Blk at b a;rw[e,b]at a;cases a
 have q:nb≠sb:=fun e=>by
  obtain⟨_,y,b⟩:=d.st.mks.blk;have a:=d.blk;unfold Blk at a;rw[e,b]at a;cases a
 have o:∀t,t≠116->t≠4->t≠176->KeepT t wr c:=fun t b a x=>fr.keepT d.st b a x;exact⟨(fr.block nb d.blk.lt p q d.nan).trans d.blk,d.own.keep (o _ uB uB uB) (o _ uB uB uB),d.vw.keepT (o _ uB uB uB)⟩
theorem DA{ls:List (ByteArray×Int)}{j}(h:j<ls.length):ls.drop j=((ls.getD j d0).1,(ls.getD j d0).2)::ls.drop (j+1):=by
 rw[yv h];congr 1;simp[List.getD,List.getElem?_eq_getElem h]
theorem LpI.step{P B0 g sb N rt f steps i am w ns nv na seen tall nb v ls j kd ms Q L ag l n wr d}(c:LpI P B0 g sb N rt f steps i am w ns nv na seen tall nb v ls j kd ms Q L ag l n false wr)(ab:j<ls.length){u}(y:v.da=some ⟨u,0,none⟩)(a2:w.1.size<=nb){p z E M O A B D}(q:RdQ P B0 g sb N rt f (steps+1) (kd.getD j 0) wr (ns++ms) Q L l n d p z E M O A B D):
 LpI P B0 g sb N rt f steps i am w ns nv na seen tall nb v ls (j+1) (kd.set j p) (ms++z) E M O A B D (d.setCell ⟨u,j,none⟩ (.int .i64 p)):=by
 have ow:=c.own.kids;rw[y]at ow;obtain⟨ac,a0,s⟩:=ow.blk;have kI:KeepT 3 wr d:=q.fr.keepT c.st uB uB uB;have aA:KeepT 9 wr d:=q.fr.keepT c.st uB uB uB;have aB:KeepT 136 wr d:=q.fr.keepT c.st uB uB uB;have a1:=(wy.1 s).1;have x:=kI.block _ _ _ s;have ae:=c.blk.lt;have Z:nb≠g:=fun e=>by
  have b:=c.st.blk;have a:=c.blk;unfold Blk at b a;rw[e,b]at a;cases a
 have af:nb≠sb:=fun e=>by
  obtain⟨_,a3,b⟩:=c.st.mks.blk;have a:=c.blk;unfold Blk at a;rw[e,b]at a;cases a
 have ad:nb≠u:=fun e=>by
  have a:=c.blk;unfold Blk at a;rw[e,s]at a;cases a
 have aS:Blk d 176 nb (ndc v (aW i ls kd)):=(q.fr.block nb ae Z af c.nan).trans c.blk;have J:=ax d u j (.int .i64 p);have aT:=aS.only J ad;have H:∀t,3≠t->KeepT t d (d.setCell ⟨u,j,none⟩ (.int .i64 p)):=fun t ap=>cx J x ap;have an:ndc v (aW i ls kd)=ndc v (aW i ls (kd.set j p)):=by simp[ndc,aW]
 have G:∀m,m< (ns++(ms++z)).length->∀k,v.da=some ⟨k,0,none⟩->(E m).da≠some ⟨k,0,none⟩:=fun m o k W V=>by
  by_cases h:m< (ns++ms).length
  ·rw[q.old m h]at V;exact c.sep m h k W V
  ·have:=q.new m k uA (by rw[wv];exact o) V;rw[y]at W;cases W;omega
 have I:=c.own.keep aA kI;have ak:Own1 3 w.1.size (d.setCell ⟨u,j,none⟩ (.int .i64 p)) v.da (kd.set j p).length v.dc (on (kd.set j p)):=by
  have b:Own1 3 w.1.size d v.da kd.length v.dc (on kd):=I.kids;rw[y]at b ⊢;have a:=b.set j (.int .i64 p);rw[tS]at a;rw[BD];exact a
 refine⟨(c.fr.trans q.fr c.na).fresh J ac,?_,?_,fun m o=> ?_,fun m k b a r=> ?_,?_,wg c.le2 q.le2,?_,⟨I.keys.keep (H _ uB),I.vals.keep (H _ uB),ak,I.signs.keep (H _ uB)⟩,(c.vw.keepT aB).keepT (H _ uB),?_,G,by rw[BD];exact c.len,fun m o=> ?_,?_⟩
 ·have:=q.st;rw[wv]at this;exact this.other (xs:=[]) J ⟨_,x⟩ uB uB (v7 uB) uB (v6 (fun m o=>G m o u y))
 ·rcases q.na with h|⟨k,b,a⟩
  ·rw[h];exact c.na
  ·exact v6 ⟨k,b,wg c.fr.size a⟩
 ·rw[q.old m (by rw[wb];omega)];exact c.old m o
 ·by_cases h:m< (ns++ms).length
  ·rw[q.old m h]at r;exact c.new m k b h r
  ·have:=q.new m k uA (by rw[wv];exact a) r;exact wg c.fr.size this
 ·have:=q.le;rw[wv]at this;exact this
 ·rw[<-an];exact aT
 ·rcases q.na with h|⟨k,b,a⟩
  ·rw[h];exact c.nan
  ·rw[b];intro e;cases e;omega
 ·rw[<-c.rest m uA];simp[List.getD,List.getElem?_set_ne (show j≠m by omega)]
 ·rcases c.res with⟨_,C,b,a,r,Y⟩|⟨h,_⟩
  ·have K:=c.rest j t6;rw[DA ab]at r;rcases q.res with⟨U,T,F,X,aX⟩|⟨U,F⟩
   ·refine v7 ⟨U,C++[((ls.getD j d0).1,T)],by simp[b],fun m o=> ?_,?_,fun m o=> ?_⟩
    ·by_cases e:m=j
     ·subst e;simp[List.getD,<-b]
     ·have:=a m uA;rw[<-this];simp[List.getD,List.getElem?_append_left (show m<C.length by omega)]
    ·rw[r];rw[K]at F;exact Cm F
    ·by_cases e:m=j
     ·subst e;have R:(C++[((ls.getD m d0).1,T)]).getD m t0=((ls.getD m d0).1,T):=by simp[List.getD,<-b]
      have S:(kd.set m p).getD m 0=p:=by simp[List.getD,c.len,ab]
      rw[R,S,<-wv];exact⟨X,aX⟩
     ·have R:(C++[((ls.getD j d0).1,T)]).getD m t0=C.getD m t0:=by simp[List.getD,List.getElem?_append_left (show m<C.length by omega)]
      have S:(kd.set j p).getD m 0=kd.getD m 0:=by simp[List.getD,List.getElem?_set_ne (show j≠m by omega)]
      rw[R,S,<-wv];exact⟨(Y m uA).1,(Y m uA).2.app z⟩
   ·refine v6 ⟨U,?_⟩;rw[r];rw[K]at F;have X:rdT P f ((steps:Int)+1) ⟨l,n⟩ (ls.getD j d0).2=none:=F;rw[Cl X]
    rfl
  ·cases h
theorem vH{P B0 g sb N rt f steps i M w ns nv na seen tall nb v ls j kd ms p A H b c a wr B}(t:LpI P B0 g sb N rt f steps i M w ns nv na seen tall nb v ls j kd ms p A H b c a wr)(hx:a=true\/j=ls.length){C}(u:inP C=some ls)(z:rdT P (f+1) steps ⟨seen,tall⟩ (i:Int)=((inP C).bind fun ls=>(rdK (rdT P f ((steps:Nat)+1)) ls ⟨(i:Int)::seen,tall⟩).map fun y=>(.node (i:Int) y.1,y.2))){l D}(I:TSt B0 g sb N rt B ((ns++ms)++[aW i ls kd]) (eA p (ns++ms).length v) (some ⟨l,0,none⟩) D b c a)(J:Fr3 g sb na w B)(F:A=some ⟨l,0,none⟩\/w.1.size<=l):
 RdQ P B0 g sb N rt (f+1) steps (i:Int) w ns nv na seen tall B ((ns++ms).length:Nat) (ms++[aW i ls kd]) (eA p (ns++ms).length v) (some ⟨l,0,none⟩) D b c a:=by
 have Q:(ns++ms).length=ns.length+ms.length:=wb;refine⟨J,by rw[<-wv];exact I,?_,fun m o=> ?_,fun m k n q d=> ?_,?_,wg (x0 _) t.le2,?_⟩
 ·rcases F with h|h
  ·rw[<-h];exact t.na
  ·exact v6 ⟨l,rfl,h⟩
 ·rw[jB _ _ uA];exact t.old m o
 ·rw[<-wv,wb]at q;have O:m< (ns++ms).length+1:=q;by_cases e:m=(ns++ms).length
  ·subst e;rw[jA]at d;have E:=t.own.kids;rw[d]at E;exact E.blk.1
  ·rw[jB _ _ uA]at d;exact t.new m k n uA d
 ·rw[<-wv,wb];have:=t.le;show(ns++ms).length+1+steps<=_;omega
 ·rcases t.res with⟨r,s,n,q,d,K⟩|⟨r,n⟩
  ·have L:j=ls.length:=by
    rcases hx with h|h
    ·rw[r]at h;cases h
    ·exact h
   subst L;rw[List.drop_length]at d;refine v7 ⟨r,.node (i:Int) (fC s .nil),?_,rfl,?_⟩
   ·rw[z,u];simp only[xC];rw[d]
    rfl
   ·rw[<-wv,Rep];refine⟨(ns++ms).length,kd,ls.tail.map (fun x=>x.1),rfl,by simp[aW],?_⟩;have G:=uU (ns:=(ns++ms)++[aW i ls kd]) s true kd (by rw[t.len,n]) (fun m o=>(K m uA).2.app _);have e:s.tail.map (·.1)=ls.tail.map (fun x=>x.1):=by
     apply zb;intro m;simp only[zP,List.getElem?_tail];by_cases o:m+1<s.length
     ·have:=q (m+1) uA;simp only[List.getD,wS o,wS (show m+1<ls.length by omega),Option.getD_some]at this;rw[wS o,wS (show m+1<ls.length by omega)];simp[this]
     ·rw[x8 uA,x8 uA]
      rfl
    rw[B4 rfl,e]at G;exact G
  ·refine v6 ⟨r,?_⟩;rw[z,u];simp only[xC];rw[n]
   rfl
theorem vI:∀(n:Nat)(l:List Int)(r:List (ByteArray×Int)),l.length<=n->lnP l=some r->r.length<=l.length
 |0,l,r,h,e=>by rw[gZ uA]at e;cases e;simp
 |n+1,l,r,h,e=>by
  by_cases b:l.length=0
  ·rw[gZ b]at e;cases e;simp
  ·cases a:eJ l with
   |false=>rw[ji b a]at e;cases e
   |true=>
    rw[j4 a]at e;obtain⟨d,c,rfl⟩:=x5.1 e;have f:=(gJ.1 a).2.2;have:=vI n (l.drop (5+lfK l)) d (by rw[wi];omega) c;rw[wi]at this;simp;omega
theorem qU{l ls}(h:inP l=some ls):ls.length<=l.length:=by
 unfold inP at h;by_cases a:4<=l.length
 ·rw[B4 a]at h;obtain⟨r,b,rfl⟩:=x5.1 h;have:=vI _ _ r t6 b;rw[wi]at this;simp;omega
 ·rw[CH a]at h;cases h
def LpE(P:Pg)(B0 g sb N:Nat)(rt:Int)(f steps i:Nat)(vs:Value)(w:World)(ns:List NdK)(nv:Nat->NdV)(na:Option Addr)(seen:List Int)(tall:Int)(nb:Nat)(v:NdV)(ls:List (ByteArray×Int))(x:Value)(wr:World):Prop:=
 ∃j kd ms nv1 na1 nc1 seen1 tall1 bad1,x= .int .i64 ((j:Nat):Int)/\j<=ls.length/\LpI P B0 g sb N rt f steps i vs w ns nv na seen tall nb v ls j kd ms nv1 na1 nc1 seen1 tall1 bad1 wr
theorem DD(P N B0 g sb rt q w0)(ck:PgW P N)(dV:ma P q g w0)(cB:w0.1.size<=B0)(f)(fc:RdC P N B0 g sb rt q w0 f)(steps id ns nv na nc seen tall w)(eU:OnlyB g w0 w)(dF:TSt B0 g sb N rt w ns nv na nc seen tall false)(fM:ns.length+steps<=seen.length)(gv:N< (f+1)+seen.length)(I:P.ok id=true)(bR:2<=id)(b2:id∉seen)(bZ:P.kd id=3):
 Calls prog 109 #[.pointer (some ⟨g,0,none⟩),.agg #[q],.int .i64 id,.int .i64 (steps:Nat)] w fun e w'=>RdP P B0 g sb N rt (f+1) steps id w ns nv na seen tall e w':=by
 have dS:Hid _:=fc;have fo:=ck.le;have dE:=bAl w (.cells #[q] 136);have e2:=aq w 136 #[q];have c3:=dF.belowT dE;have dk:Fr3 g sb na w (w.alloc (.cells #[q] 136)):=Fr3.ofBelow dE;have f0:(w.alloc (.cells #[q] 136)).1.size=w.1.size+1:=by simp
 have e5:(prog.info? 136).map (·.size)=some (#[q]:Array Value).size:=vk;go_enter func109,ntmps109;go_upto_region 1 with fail
 change Code.wp _ _ _ _ (w.alloc (.cells #[q] 136));generalize w.alloc (.cells #[q] 136)=e8 at*;have f7:w.1.size<e8.1.size:=uA;clear f0;have ft:=dk.onlyG dF cB eU;have br:=dV e8 ft id;have cD:=ck.byte id;have f4:=ck.len id;have b3:=ck.ok id;have b9:Blk e8 136 w.1.size [q]:=e2;clear e2 dV;obtain⟨dp,fB⟩:=b3 I;have bl:Hid (rdT P (f+1) steps ⟨seen,tall⟩ id=((inP (P.bd id)).bind fun ls=>(rdK (rdT P f ((steps:Nat)+1)) ls ⟨id::seen,tall⟩).map fun y=>(.node id y.1,y.2))):=by
  show rdT P (f+1) steps ⟨seen,tall⟩ id= _;rw[rdT,B4 (fO.2 ⟨I,bR,b2,v6 bZ⟩),CH uA]
 rw[I,bZ]at br;clear b3 I bZ;obtain⟨i,rfl⟩:=x2 dp;have bX:i<N:=uA;generalize eB:P.bd (i:Int)=cm at*;clear eB;generalize f5:cm.length=da at*;go_wp2_with (refine B5 rfl 136 _ rfl w.1.size rfl 136 #[q] (0,0) _ b9 underlying136 rfl e5 ?_);refine br.mono ?_;rintro e w1 ⟨c9,db,rfl,bu,dD⟩;have ce:=c3.belowT bu;have f1:=dk.trans (Fr3.ofBelow bu) (v7 rfl);have cW:=b9.below bu;have bs1:=dD.bs cD;have d6:w1.cell? ⟨g,2,none⟩=some (.slice (some ⟨sb,0,none⟩) N N):=ce.blk.cell 2;have f8:=bu.size;have Y:=uv ce (vJ f1 (vJ cW (vJ bs1 dD)));clear br ce f1 cW bs1 dD bu c3 dk b9 dE;have eC:w1.cell? ⟨sb,i,none⟩=some (.bool false):=by
  obtain⟨et,E,_,_,_,dl⟩:=Y.out.1.mks.at_ uA;cases E;rw[dl i bX,go _ _ _ bX];cases eR:seen.contains (i:Int)with
  |false=>rfl
  |true=>exact absurd (xr.1 eR) b2
 have eK:=Y.out.1.mks.free i;have a4:=ax w1 sb i (.bool true);have c4:=Y.out.1.mark bX b2;have d9:=Y.out.2.1.trans (Fr3.only a4 (v6 (v7 rfl))) (v7 rfl);obtain⟨_,fn,a3⟩:=Y.out.1.mks.blk;have ca:∀t,4≠t->KeepT t w1 (w1.setCell ⟨sb,i,none⟩ (.bool true)):=fun t fZ=>cx a4 a3 fZ;have cX:=Y.out.2.2.1.keepT (ca _ uB);have e3:Own e8.1.size (w1.setCell ⟨sb,i,none⟩ (.bool true)) c9 da db cm:=cw Y.out.2.2.2.2 (ca _ uB);have bz:=e3.bs cD;have f9:=a4.size;have d2:=tX c9 da db cm _ bz uA;have bc:=uv c4 (vJ d9 (vJ cX bz));clear Y c4 d9 cX e3 bz ca a3 a4;go_upto_region 6 with fail
 clear d6 eC eK;generalize w1.setCell ⟨sb,i,none⟩ (.bool true)=gm at*;go_wp2_with fail;refine d2.mono ?_;rintro e a2 ⟨v3,bm,gi,rfl,ba,fd,U⟩;clear U d2 fd;have cf:=bc.out.1.belowT ba;have ea:=bc.out.2.1.trans (Fr3.ofBelow ba) (v7 rfl);have cc:=bAl a2 (.cells (ndc v3 bm).toArray 176);have e1:=aq a2 176 (ndc v3 bm).toArray;have cg:=cf.belowT cc;have eb:=ea.trans (Fr3.ofBelow cc) (v7 rfl);have c0:=(bc.out.2.2.1.below ba).below cc;have cz:=(bc.out.2.2.2.below ba).below cc;have b0:na≠some ⟨a2.1.size,0,none⟩:=fun e=>by
  have eL:=cf.nodes;rw[e]at eL;obtain⟨_,f2,dl⟩:=eL.blk;have:=(wy.1 dl).1;omega
 have ga:=ba.size;clear bc cf ea cc ba;go_upto_region 7 with(refine bt rfl 176 _ _ rfl a2 (ndc aF nd0).toArray (ndc v3 bm).toArray 176 rfl rfl aD rfl (cy _ _) ?_)
 change Code.wp _ _ _ _ (a2.alloc (.cells (ndc v3 bm).toArray 176));generalize a2.alloc (.cells (ndc v3 bm).toArray 176)=cl at*;have b7:=e1;clear e1;generalize a2.1.size=nb at*;have aX:w.1.size<=nb:=uA;have cn:Hid (∀m,m<ns.length->∀k,(nv m).da=some ⟨k,0,none⟩->k<cl.1.size):=fun m T k e=>(cg.each m T).kids.lt e;have LI:=Ay c9 da db cm cl cz uA;go_wp2_with fail;refine LI.mono ?_;rintro e e6 ⟨a,a8,gj,rfl,bv,d3,U⟩;have bk:Hid _:=U;clear U LI cz;have c5:=cg.belowT bv;have ef:=eb.trans (Fr3.ofBelow bv) (v7 rfl);have O:=b7.below bv;have c1:=c0.below bv;have bb:=du e6 nb (ndc a a8).toArray;have cV:=O.setRow (ndc a a8);have c6:=c5.other (xs:=[]) bb ⟨_,O⟩ uB uB (v6 b0) uB (v7 uB);have ej:=ef.fresh bb aX;have d4:=(d3.keep (aw bb O uB) (aw bb O uB));have c2:=c1.keepT (aw bb O uB);have f3:=b7.lt;have z:=uv c6 (vJ ej (vJ d4 (vJ cV (vJ c2 b0))));clear cg eb b7 c0 c5 ef c1 bb c6 ej d4 cV c2 b0 d3 bv;go_upto_region 11 with(refine B8 rfl 176 _ _ rfl nb (ndc a a8).toArray rfl rfl 176 _ O aD rfl (cy _ _) ?_)
 generalize e6.setRow nb (ndc a a8).toArray=K at*;clear O;have ac:K.cell? ⟨g,4,none⟩=some (.bool false):=z.out.1.blk.cell 4;have em:=z.out.1.blk.free 4;have d5:K.cell? ⟨nb,0,none⟩=some (.int .i64 a8.page):=z.out.2.2.2.1.cell 0;have ek:=z.out.2.2.2.1.free 0;rcases bk.out with⟨I,ls,am,b⟩|⟨I,am⟩
 case inr=>
  subst I;have cT:rdT P (f+1) steps ⟨seen,tall⟩ (i:Int)=none:=by rw[bl.out,am];rfl
  have b5:seen.length<=((i:Int)::seen).length:=by rw[w8];omega
  have dI:Hid (RdQ P B0 g sb N rt (f+1) steps (i:Int) w ns nv na seen tall (K.setCell ⟨g,4,none⟩ (.bool true)) (-1) [] nv na nc ((i:Int)::seen) tall true):=
   nL (w1:=K) (-1) (z.out.2.1.trans (Fr3.only (ax K g 4 (.bool true)) (v7 rfl)) (v7 rfl)) (z.out.1.set 4 (.bool true) rfl) fM b5 cT
  clear cT b5 z;go_wp2_with fail;go_ret;exact fR dI.out
 case inl=>
 subst I;have cr:Hid _:=am;have dr:ls.length<=1048576:=by have:=qU am;omega
 have cp:=ax K nb 0 (.int .i64 (i:Int));have b8:=z.out.2.2.2.1.set 0 (.int .i64 (i:Int));have d8:(ndc a a8).set 0 (.int .i64 (i:Int))=ndc a (aW i ls (ls.map (fun x=>x.2))):=by rw[b];rfl
 rw[d8]at b8;have a6:∀t,176≠t->KeepT t K (K.setCell ⟨nb,0,none⟩ (.int .i64 (i:Int))):=fun t bR=>aw cp z.out.2.2.2.1 bR;have bT:LpI P B0 g sb N rt f steps i q w ns nv na seen tall nb a ls 0 (ls.map (fun x=>x.2)) [] nv na nc ((i:Int)::seen) tall false (K.setCell ⟨nb,0,none⟩ (.int .i64 (i:Int))):=by
  have a9:=z.out.2.2.1.keep (a6 _ uB) (a6 _ uB);rw[b]at a9;have ex:Own1 3 cl.1.size (K.setCell ⟨nb,0,none⟩ (.int .i64 (i:Int))) a.da (ls.map (fun x=>x.2)).length a.dc (on (ls.map (fun x=>x.2))):=a9.kids;have a5:w.1.size<=cl.1.size:=uA;refine⟨z.out.2.1.fresh cp aX,by rw[wP];exact z.out.1.other (xs:=[]) cp ⟨_,z.out.2.2.2.1⟩ uB uB (v6 z.out.2.2.2.2.2) uB (v7 uB),v7 rfl,fun _ _=>rfl,fun m k gr bR=>by rw[wP]at bR;omega,by rw[wP,w8];omega,by rw[w8];omega,b8,⟨a9.keys.mono a5,a9.vals.mono a5,ex.mono a5,a9.signs.mono a5⟩,z.out.2.2.2.2.1.keepT (a6 _ uB),z.out.2.2.2.2.2,fun m T k fD fz=> ?_,y2 _,fun m T=> ?_,v7 ⟨rfl,[],rfl,fun m T=>absurd T (xN _),?_,fun m T=>absurd T (xN _)⟩⟩
  ·rw[wP]at T;have gs:=cn.out m T k fz;have ev:=a9.kids;rw[fD]at ev;have gt:=ev.blk.1;omega
  ·by_cases h:m<ls.length
   ·simp[List.getD,List.getElem?_eq_getElem h]
   ·simp[List.getD,List.getElem?_eq_none (show ls.length<=m by omega),d0]
  ·simp[fC]
 have cq:Hid _:=bT;clear bT a6 b8 d8 cp b;go_upto_region 17 with fail
 generalize K.setCell ⟨nb,0,none⟩ (.int .i64 (i:Int))=gn at*;clear ac em d5 ek z bk am;go_wp2_with fail;go_loopw [14] (fun x wr=>LpE P B0 g sb N rt f steps i q w ns nv na seen tall nb a ls x wr) (fun x _=>ls.length-(intOf x).toNat)
 case atStart=>exact⟨0,_,_,_,_,_,_,_,_,rfl,wa _,cq.out⟩
 case round=>
  clear cq;obtain⟨j,kd,ms,aA,n,r,W,X,S,rfl,gw,cv⟩:=hrel;obtain⟨F,eV⟩:=aa wr;subst eV;have ab:F.cell? ⟨nb,4,none⟩=some (.slice a.da kd.length a.dc):=cv.blk.cell 4;have ac:F.cell? ⟨g,4,none⟩=some (.bool S):=cv.st.blk.cell 4;have cR:=cv.len;have d:Hid _:=cv;have fV:=cv.st.ok.le;have fP:=cv.le;have f6:kd.length<=1048576:=by rw[cv.len];exact dr
  clear cv;by_cases eN:j<ls.length
  ·have ds:(j:Int)< (kd.length:Int):=uA;clear cR;cases S with
   |true=>
    have dW:Hid (true=true\/j=ls.length):=v7 rfl;go_upto_region 21 with fail
    clear ab ac;have ad:=bDr F;obtain⟨c,G⟩:=aa (ns++ms);have B:TSt B0 g sb N rt F.drew c aA n r W X true:=by rw[G];exact d.out.st.belowT ad
    have b1:c.length<=1048576:=by rw[G];have:=d.out.le;have:=d.out.st.ok.le;omega
    have bf:Hid _:=G;clear G;have H:=d.out.blk.below ad;have bn:=d.out.own.below ad;have s:Hid (∀u:World,Blk u 176 nb (ndc a (aW i ls kd))->(Instr.loadAt 176 (.pointer (some ⟨nb,0,none⟩))).run prog u= .ok (.agg (ndc a (aW i ls kd)).toArray) u):=fun u b6=>by
     simp only[Instr.loadAt,Instr.sureAddr,CT,C2,Result.andThen];exact DX u nb 176 176 (ndc a (aW i ls kd)).toArray (0,0) _ b6 underlying176 rfl aD
    have bF:=d.out.fr.trans (Fr3.ofBelow (na:=n) ad) d.out.na;refine az (fun u=>u.cell? ⟨g,0,none⟩=some (.slice n c.length r)/\(Instr.loadAt 176 (.pointer (some ⟨nb,0,none⟩))).run prog u= .ok (.agg (ndc a (aW i ls kd)).toArray) u) (fun k=>decide (8<=k)) vk ?_;generalize F.drew=C at*;have cs:C.cell? ⟨g,0,none⟩=some (.slice n c.length r)/\(Instr.loadAt 176 (.pointer (some ⟨nb,0,none⟩))).run prog C= .ok (.agg (ndc a (aW i ls kd)).toArray) C:=⟨B.blk.cell 0,s.out _ H⟩;have V:=bAl C (.cells (ndc a (aW i ls kd)).toArray 176);have bC:(C.alloc (.cells (ndc a (aW i ls kd)).toArray 176)).cell? ⟨g,0,none⟩=some (.slice n c.length r)/\(Instr.loadAt 176 (.pointer (some ⟨nb,0,none⟩))).run prog (C.alloc (.cells (ndc a (aW i ls kd)).toArray 176))= .ok (.agg (ndc a (aW i ls kd)).toArray) (C.alloc (.cells (ndc a (aW i ls kd)).toArray 176)):=⟨(B.belowT V).blk.cell 0,s.out _ (H.below V)⟩;have bS:=B.gB;have l:=uv B (vJ bF bn);have J:Hid _:=H.below V;clear B bF bn H V ad;refine aj 0 cs ?_;refine aj 1 cs ?_;refine aj 2 cs ?_;refine aj 3 cs ?_;refine aj 4 cs ?_;refine aM 5 (.agg (ndc a (aW i ls kd)).toArray) cs ?hyp5 ?_
    case hyp5=>exact fun u ag=>bo (p:= .pointer (some ⟨nb,0,none⟩)) rfl rfl ag.2
    refine ah 6 fun o b=> ?_;refine bU _ _ _ rfl (v:= .slice (some ⟨C.1.size,0,none⟩) 1 1) (w':=(C.alloc (.cells (ndc a (aW i ls kd)).toArray 176))) ?bsp ?_
    case bsp=>
     simp only[wB,ws,wz];exact fq eY uA (.agg (ndc a (aW i ls kd)).toArray) (ndc a (aW i ls kd)) rfl rfl C
    refine ao b ?_;clear b o;refine ah 7 fun o b=> ?_;refine gW _ _ eY rfl B0 n c.length r (cd aA c) rfl l.out.1.nodes (ndc a (aW i ls kd)) rfl (eo _ _) rfl b1 uA bS ?_;intro M aT Q cb bx A Z;have ap:Blk Q 176 nb (ndc a (aW i ls kd)):=by
     refine(A.block nb (Blk.lt J.out) ?_).trans J.out;intro e;rcases l.out.1.nodes.2 with⟨E,_⟩|⟨et,dc,dd,E,_⟩
     ·rw[E]at e;simp[Value.ownBlock]at e
     ·rw[E]at e;simp[Value.ownBlock]at e;simp only[D5]at E;subst e;exact d.out.nan E.1
    have a0:Blk Q 116 g _:=l.out.1.blk.keepT ((aV (bAl _ _)).trans (bD (bQ l.out.1.nodes (bAl _ _)) A uB));have bA:Q.cell? ⟨g,0,none⟩=some (.slice n c.length r):=a0.cell 0;have bP:=a0.free 0;refine b.out _ _ (fun _=>⟨bA,s.out _ ap⟩) ?_;clear b o;have aB:=l.out.1.push (l.out.2.2.mono (wa _)) cb bx A;have bE:Fr3 g sb na w (Q.setCell ⟨g,0,none⟩ (.slice (some ⟨M,0,none⟩) (c.length+1) aT)):=l.out.2.1.trans (Fr3.push l.out.1.nodes A l.out.1.blk.lt) d.out.na;have ak:Hid (n=some ⟨M,0,none⟩\/w.1.size<=M):=by
     have:=l.out.2.1.size;rcases Z with h|h
     ·exact v7 h
     ·exact v6 uA
    have R:=uv aB bE;clear aB bE a0 cb bx A Z bC ap J s;refine ah 8 fun o b=> ?_;go_wp2_with fail;refine ao b ?_;clear b o;refine ah 9 fun o b=> ?_;go_wp2_with fail;refine ao b ?_;clear b o;refine ah 10 fun o b=> ?_;go_wp2_with fail;refine ao b ?_;clear b o;refine bi ?_;clear bA bP cs;generalize Q.setCell ⟨g,0,none⟩ (.slice (some ⟨M,0,none⟩) (c.length+1) aT)=aS at*;have b4:RdP P B0 g sb N rt (f+1) steps (i:Int) w ns nv na seen tall (.returned (.int .i64 (c.length:Nat))) aS:=by
     have bs:=R.out.1;rw[bf.out]at bs ⊢;exact fR (vH d.out (v7 rfl) cr.out bl.out bs R.out.2 ak.out)
    have bg:Hid _:=b4;have fm:aS.cell? ⟨g,0,none⟩=some (.slice (some ⟨M,0,none⟩) (c.length+1) aT):=(R.out.1.blk.cell 0).trans (by simp[trc]);clear b4 R ak d;generalize c.length=L at*;go_wp2_with fail;go_ret
    first|exact bg.out|(refine(C1 (fun x=>RdP P B0 g sb N rt (f+1) steps (i:Int) w ns nv na seen tall (.returned (.int .i64 x)) aS) ?_).mp bg.out;simp)
   |false=>
    go_upto_region 20 with fail
    clear ac;have e4:=d.out.own.kids;have cS:0< (aW i ls kd).kids.length:=by show 0<kd.length;omega
    obtain⟨a1,bW,eM,dq,_,an⟩:=e4.at_ cS;have cP:=(an j (by show j<kd.length;omega)).trans (C1 some (cF kd j uA));have bd:Hid _:=bW;rw[bW]at ab;clear an e4 cS bW eM dq;have af:=bDr F;have c7:=d.out.st.belowT af;have cL:=(d.out.fr.onlyG dF cB eU).trans (Below.onlyB af g);have c8:=dS.out (steps+1) (kd.getD j 0) (ns++ms) aA n r W X F.drew cL c7 (by have:=d.out.le2;omega) (by have:=d.out.le;omega);rw[show((steps+1:Nat):Int)=(steps:Int)+1 by omega]at c8;have s:Hid (∀u:World,Blk u 136 w.1.size [q]->(Instr.loadAt 136 (.pointer (some ⟨w.1.size,0,none⟩))).run prog u= .ok (.agg #[q]) u):=fun u b6=>by
     simp only[Instr.loadAt,Instr.sureAddr,CT,C2,Result.andThen];exact DX u w.1.size 136 136 #[q] (0,0) _ b6 underlying136 rfl e5
    refine az (fun u=>u.cell? ⟨nb,4,none⟩=some (.slice (some ⟨a1,0,none⟩) kd.length a.dc)/\u.cell? ⟨a1,j,none⟩=some (.int .i64 (kd.getD j 0))/\(Instr.loadAt 136 (.pointer (some ⟨w.1.size,0,none⟩))).run prog u= .ok (.agg #[q]) u) (fun k=>decide (13<=k)) vk ?_;have cs:F.drew.cell? ⟨nb,4,none⟩=some (.slice (some ⟨a1,0,none⟩) kd.length a.dc)/\F.drew.cell? ⟨a1,j,none⟩=some (.int .i64 (kd.getD j 0))/\(Instr.loadAt 136 (.pointer (some ⟨w.1.size,0,none⟩))).run prog F.drew= .ok (.agg #[q]) F.drew:=⟨ab,cP,s.out _ (d.out.vw.below af)⟩;have dX:=d.out.belowL af;clear d ab cP af c7 cL;have d:Hid _:=dX;clear dX;generalize F.drew=gp at*;generalize bY:kd.getD j 0=eW at*;have en:IntKind.i64.wrap ((steps:Int)+1)=(steps:Int)+1:=by simp[IntKind.wrap,IntKind.bits,IntKind.signed];omega
    have eq:(0:Int)<=(j:Int):=uA;refine au 0 cs ?_;refine au 1 cs ?_;refine au 2 cs ?_;refine au 3 cs ?_;refine aM 4 (.agg #[q]) cs ?hyz4 ?_
    case hyz4=>exact fun u ag=>bo (p:= .pointer (some ⟨w.1.size,0,none⟩)) rfl rfl ag.2.2
    refine au 5 cs ?_;refine au 6 cs ?_;refine au 7 cs ?_;refine au 8 cs ?_;refine au 9 cs ?_;refine au 10 cs ?_;refine au 11 cs ?_;clear en eq;refine ah 12 fun o b=> ?_;go_wp2_with fail;refine c8.mono ?_;rintro e ch fs;obtain⟨p,gb,gg,gc,gf,e9,fa,fl,rfl,e7⟩:=fs;rw[<-bY]at e7;have cj:=d.out.after e7.fr;have a7:=cj.2.1.kids;rw[bd.out]at a7;obtain⟨_,E,_,_,_,an⟩:=a7.at_ (by show 0<kd.length;omega);cases E;have bB:=(an j (by show j<kd.length;omega)).trans (C1 some (cF kd j uA));have es:=a7.free j;rw[bY]at bB;have cA:ch.cell? ⟨nb,4,none⟩=some (.slice (some ⟨a1,0,none⟩) kd.length a.dc):=by rw[<-bd.out];exact cj.1.cell 4
    have d7:ch.cell? ⟨nb,4,none⟩=some (.slice (some ⟨a1,0,none⟩) kd.length a.dc)/\ch.cell? ⟨a1,j,none⟩=some (.int .i64 eW)/\(Instr.loadAt 136 (.pointer (some ⟨w.1.size,0,none⟩))).run prog ch= .ok (.agg #[q]) ch:=⟨cA,bB,s.out _ cj.2.2⟩;have d1:=d.out.step eN bd.out aX e7;have dP:Hid _:=d1;clear d1 e7 cj a7 an c8 d cA;go_wp2_with fail;refine ao b ?_;clear b o;refine ah 13 fun o b=> ?_;go_wp2_with fail;refine ao b ?_;clear b o;refine ah 14 fun o b=> ?_;go_wp2_with fail;refine ao b ?_;clear b o;refine bi ?_;clear cs d7 bB es;go_wp2;go_roundw
    case rel=>exact⟨j+1,_,_,_,_,_,_,_,_,by go_num,uA,dP.out⟩
    case measure=>simp[intOf];omega
  ·have cM:j=ls.length:=uA;have ds:¬(j:Int)< (kd.length:Int):=uA;have dW:Hid (S=true\/j=ls.length):=v6 cM;clear cR cM;go_upto_region 21 with fail
   clear ab ac;have ae:=bDr F;obtain⟨c,G⟩:=aa (ns++ms);have B:TSt B0 g sb N rt F.drew c aA n r W X S:=by rw[G];exact d.out.st.belowT ae
   have b1:c.length<=1048576:=by rw[G];have:=d.out.le;have:=d.out.st.ok.le;omega
   have bf:Hid _:=G;clear G;have H:=d.out.blk.below ae;have bn:=d.out.own.below ae;have s:Hid (∀u:World,Blk u 176 nb (ndc a (aW i ls kd))->(Instr.loadAt 176 (.pointer (some ⟨nb,0,none⟩))).run prog u= .ok (.agg (ndc a (aW i ls kd)).toArray) u):=fun u b6=>by
    simp only[Instr.loadAt,Instr.sureAddr,CT,C2,Result.andThen];exact DX u nb 176 176 (ndc a (aW i ls kd)).toArray (0,0) _ b6 underlying176 rfl aD
   have bF:=d.out.fr.trans (Fr3.ofBelow (na:=n) ae) d.out.na;refine az (fun u=>u.cell? ⟨g,0,none⟩=some (.slice n c.length r)/\(Instr.loadAt 176 (.pointer (some ⟨nb,0,none⟩))).run prog u= .ok (.agg (ndc a (aW i ls kd)).toArray) u) (fun k=>decide (8<=k)) vk ?_;generalize F.drew=D at*;have cs:D.cell? ⟨g,0,none⟩=some (.slice n c.length r)/\(Instr.loadAt 176 (.pointer (some ⟨nb,0,none⟩))).run prog D= .ok (.agg (ndc a (aW i ls kd)).toArray) D:=⟨B.blk.cell 0,s.out _ H⟩;have V:=bAl D (.cells (ndc a (aW i ls kd)).toArray 176);have bC:(D.alloc (.cells (ndc a (aW i ls kd)).toArray 176)).cell? ⟨g,0,none⟩=some (.slice n c.length r)/\(Instr.loadAt 176 (.pointer (some ⟨nb,0,none⟩))).run prog (D.alloc (.cells (ndc a (aW i ls kd)).toArray 176))= .ok (.agg (ndc a (aW i ls kd)).toArray) (D.alloc (.cells (ndc a (aW i ls kd)).toArray 176)):=⟨(B.belowT V).blk.cell 0,s.out _ (H.below V)⟩;have bS:=B.gB;have l:=uv B (vJ bF bn);have J:Hid _:=H.below V;clear B bF bn H V ae;refine aj 0 cs ?_;refine aj 1 cs ?_;refine aj 2 cs ?_;refine aj 3 cs ?_;refine aj 4 cs ?_;refine aM 5 (.agg (ndc a (aW i ls kd)).toArray) cs ?hyq5 ?_
   case hyq5=>exact fun u ag=>bo (p:= .pointer (some ⟨nb,0,none⟩)) rfl rfl ag.2
   refine ah 6 fun o b=> ?_;refine bU _ _ _ rfl (v:= .slice (some ⟨D.1.size,0,none⟩) 1 1) (w':=(D.alloc (.cells (ndc a (aW i ls kd)).toArray 176))) ?bsq ?_
   case bsq=>
    simp only[wB,ws,wz];exact fq eY uA (.agg (ndc a (aW i ls kd)).toArray) (ndc a (aW i ls kd)) rfl rfl D
   refine ao b ?_;clear b o;refine ah 7 fun o b=> ?_;refine gW _ _ eY rfl B0 n c.length r (cd aA c) rfl l.out.1.nodes (ndc a (aW i ls kd)) rfl (eo _ _) rfl b1 uA bS ?_;intro M aT Q cb bx A Z;have ap:Blk Q 176 nb (ndc a (aW i ls kd)):=by
    refine(A.block nb (Blk.lt J.out) ?_).trans J.out;intro e;rcases l.out.1.nodes.2 with⟨E,_⟩|⟨et,dc,dd,E,_⟩
    ·rw[E]at e;simp[Value.ownBlock]at e
    ·rw[E]at e;simp[Value.ownBlock]at e;simp only[D5]at E;subst e;exact d.out.nan E.1
   have a0:Blk Q 116 g _:=l.out.1.blk.keepT ((aV (bAl _ _)).trans (bD (bQ l.out.1.nodes (bAl _ _)) A uB));have bA:Q.cell? ⟨g,0,none⟩=some (.slice n c.length r):=a0.cell 0;have bP:=a0.free 0;refine b.out _ _ (fun _=>⟨bA,s.out _ ap⟩) ?_;clear b o;have aB:=l.out.1.push (l.out.2.2.mono (wa _)) cb bx A;have bE:Fr3 g sb na w (Q.setCell ⟨g,0,none⟩ (.slice (some ⟨M,0,none⟩) (c.length+1) aT)):=l.out.2.1.trans (Fr3.push l.out.1.nodes A l.out.1.blk.lt) d.out.na;have ak:Hid (n=some ⟨M,0,none⟩\/w.1.size<=M):=by
    have:=l.out.2.1.size;rcases Z with h|h
    ·exact v7 h
    ·exact v6 uA
   have R:=uv aB bE;clear aB bE a0 cb bx A Z bC ap J s;refine ah 8 fun o b=> ?_;go_wp2_with fail;refine ao b ?_;clear b o;refine ah 9 fun o b=> ?_;go_wp2_with fail;refine ao b ?_;clear b o;refine ah 10 fun o b=> ?_;go_wp2_with fail;refine ao b ?_;clear b o;refine bi ?_;clear bA bP cs;generalize Q.setCell ⟨g,0,none⟩ (.slice (some ⟨M,0,none⟩) (c.length+1) aT)=aS at*;have b4:RdP P B0 g sb N rt (f+1) steps (i:Int) w ns nv na seen tall (.returned (.int .i64 (c.length:Nat))) aS:=by
    have bs:=R.out.1;rw[bf.out]at bs ⊢;exact fR (vH d.out dW.out cr.out bl.out bs R.out.2 ak.out)
   have bg:Hid _:=b4;have fm:aS.cell? ⟨g,0,none⟩=some (.slice (some ⟨M,0,none⟩) (c.length+1) aT):=(R.out.1.blk.cell 0).trans (by simp[trc]);clear b4 R ak d;generalize c.length=L at*;go_wp2_with fail;go_ret
   first|exact bg.out|(refine(C1 (fun x=>RdP P B0 g sb N rt (f+1) steps (i:Int) w ns nv na seen tall (.returned (.int .i64 x)) aS) ?_).mp bg.out;simp)
theorem vM(P N B0 g sb rt b w0)(i:PgW P N)(e:ma P b g w0)(a:w0.1.size<=B0):∀f,RdC P N B0 g sb rt b w0 f
 |0=>fun steps id ns nv na nc seen tall w k d o j=>by
  have:=d.ok.le;omega
 |f+1=>fun steps id ns nv na nc seen tall w k d o j=>by
  cases h:dQ P ⟨seen,tall⟩ id with
  |false=>exact Co P N B0 g sb rt b w0 i e a f steps id ns nv na nc seen tall w k d j h
  |true=>
   obtain⟨l,m,n,c⟩:=fO.1 h;rcases c with c|c
   ·exact Cp P N B0 g sb rt b w0 i e a f steps id ns nv na nc seen tall w k d j l m n c
   ·exact DD P N B0 g sb rt b w0 i e a f (vM P N B0 g sb rt b w0 i e a f) steps id ns nv na nc seen tall w k d j o l m n c
def kOk(ks:List ByteArray)(low high:ByteArray)(m:Nat):Bool:=inB low high (ks.getD m (strOfNums []))&&(m==0||sl (ks.getD (m-1) (strOfNums [])) (ks.getD m (strOfNums [])))
theorem DE(low g):∀es:List (ByteArray×ByteArray),(es.all (fun e=>inB low g e.1)&&iQ es)=(List.range es.length).all (kOk (es.map (fun x=>x.1)) low g):=fun es=>by
 rw[Bool.eq_iff_iff,wX,qg,y4,y4];have f:∀m(h:m<es.length),(es.map (fun x=>x.1)).getD m (strOfNums [])=(es[m]).1:=fun m h=>by simp[List.getD,h]
 constructor
 ·rintro⟨c,l⟩ m i;have j:=xa.1 i;unfold kOk;rw[wX];refine⟨by rw[f m j];exact c _ (za _),?_⟩;cases m with
  |zero=>rfl
  |succ m=>
   rw[Nat.add_sub_cancel,f m uA,f (m+1) j];have:=List.pairwise_iff_getElem.1 l m (m+1) (by simp;omega) (by simp;omega) uA;simpa using this
 ·intro h;refine⟨fun e p=> ?_,?_⟩
  ·obtain⟨m,i,rfl⟩:=List.getElem_of_mem p;have:=h m (xa.2 i);unfold kOk at this;rw[wX,f m i]at this;exact this.1
  ·have step:=fun m c=>by
    have:=h (m+1) (xa.2 c);unfold kOk at this;rw[wX,Nat.add_sub_cancel,f m uA,f (m+1) c]at this;simpa using this.2
   have k:∀(d a:Nat)(c:a+d+1<es.length),sl (es[a]).1 (es[a+d+1]).1=true:=by
    intro d;induction d with
    |zero=>intro a c;exact step a c
    |succ d ih=>intro a c;exact iq (ih a uA) (step (a+d+1) uA)
   rw[List.pairwise_iff_getElem];intro a b n o q;simp only[y2]at n o;have:=k (b-a-1) a uA;have e:a+(b-a-1)+1=b:=uA;simp only[e]at this;simpa using this
theorem nY(h:ByteArray):(h.toList==([]:List UInt8))=(h.size==0):=by
 rw[ByteArray.toList_eq];obtain⟨⟨x⟩⟩:=h;cases x with
 |nil=>rfl
 |cons a x=>simp[ByteArray.size]
theorem gx{B w w'}(h:Below B w w')(n):Below B w (w'.drewN n):=⟨h.os,h.tape,h.output,h.size,h.block⟩
theorem qV{B0 g sb N rt w ns nv na nc seen tall bad}(h:TSt B0 g sb N rt w ns nv na nc seen tall bad){p K}(k:ns[p]?=some K):
 ∃b,na=some ⟨b,0,none⟩/\(∀j v,(ndc (nv p) K)[j]?=some v->w.cell? ⟨b,p*6+j,none⟩=some v)/\ONd 0 w (nv p) K/\p<ns.length:=by
 have a:=(wC.1 k).1;have f:IsRow 6 (cd nv ns) ns.length:=⟨fun _ _=>rfl,fun i _=>eo _ _⟩;have R:=h.nodes.reads f;have d:ns.getD p nd0=K:=by rw[List.getD,k];rfl
 rcases h.nodes.2 with⟨_,o⟩|⟨b,m,n,e,_⟩
 ·omega
 ·simp only[D5]at e;have c:=e.1;rw[c]at R;refine⟨b,c,fun j v l=>by have:=R.cells p a j v (by unfold cd;rw[d];exact l);rwa [wE]at this,?_,a⟩;have:=h.each p a;rw[d]at this;exact this
def OrC(B0 g sb N:Nat)(rt:Int)(ns:List NdK)(nv:Nat->NdV)(na:Option Addr)(nc:Nat)(seen:List Int)(tall:Int)(bad:Bool)(t:Tr):Prop:= ∀(p:Int)(low high:ByteArray)(w:World),TSt B0 g sb N rt w ns nv na nc seen tall bad->Rep ns t true [p] []->
 Calls prog 110 #[.pointer (some ⟨g,0,none⟩),.int .i64 p,.string low,.string high] w fun e w'=>e= .returned (.bool (okT t true low high))/\Below w.1.size w w'
theorem DF{B0 g sb N rt ns nv na nc seen tall bad}(id es)(aB:es.length<=1048576)(ba:ns.length<=1048576):OrC B0 g sb N rt ns nv na nc seen tall bad (.leaf id es):=by
 intro p low a w ab aX;rw[Rep]at aX;obtain⟨q,a8,ap⟩:=aX;cases a8;have R:Hid (okT (.leaf id es) true low a=(List.range es.length).all (kOk (es.map (fun x=>x.1)) low a)):=by
  show okT _ _ _ _= _;rw[okT];exact DE low a es
 generalize okT (.leaf id es) true low a=W at*;obtain⟨b,rfl,B,aA,bb⟩:=qV ab ap;have ae:w.cell? ⟨g,0,none⟩=some (.slice (some ⟨b,0,none⟩) ns.length nc):=ab.blk.cell 0;generalize S:es.map (fun x=>x.1)=ks at*;have E:Hid (ks.length=es.length):=by show ks.length=es.length;rw[<-S,y2]
 have a7:ks.length<=1048576:=by rw[E.out];exact aB
 generalize es.map (fun x=>x.2)=a4 at*;generalize G:(⟨id,true,ks,a4,[],[]⟩:NdK)=K at*;have Q:K.keys=ks:=by rw[<-G]
 have P:K.kids=[]:=by rw[<-G]
 have Z:=bAl w (.cells (ndc (nv q) K).toArray 176);have a2:=aq w 176 (ndc (nv q) K).toArray;have ac:=aA.below Z;have a3:(prog.info? 176).map (·.size)=some (ndc (nv q) K).length:=aD;go_enter func110,ntmps110;go_upto_region 2 with(first|(refine dG rfl 176 _ rfl b (q*6) rfl (ndc (nv q) K) _ B underlying176 rfl a3 ?_)|(refine bt rfl 176 _ _ rfl w (ndc aF nd0).toArray (ndc (nv q) K).toArray 176 rfl rfl aD rfl (cy _ _) ?_))
 change Code.wp _ _ _ _ (w.alloc (.cells (ndc (nv q) K).toArray 176));generalize w.alloc (.cells (ndc (nv q) K).toArray 176)=ad at*;have V:Blk ad 176 w.1.size (ndc (nv q) K):=a2;have a6:Hid (∀u,Below ad.1.size ad u->u.cell? ⟨w.1.size,2,none⟩=some (.slice (nv q).ka ks.length (nv q).kc)/\u.cell? ⟨w.1.size,4,none⟩=some (.slice (nv q).da 0 (nv q).dc)/\Own1 9 0 u (nv q).ka ks.length (nv q).kc (os ks)):=fun u a0=>by
  have i:=V.below a0;have D:=(ac.below a0).keys;have X:u.cell? ⟨w.1.size,2,none⟩=some (.slice (nv q).ka K.keys.length (nv q).kc):=i.cell 2;have M:u.cell? ⟨w.1.size,4,none⟩=some (.slice (nv q).da K.kids.length (nv q).dc):=i.cell 4;rw[Q]at D X;rw[P]at M;exact⟨X,M,D⟩
 have s:Hid _:=Z;clear a2 V ac aA Z B ae ab ap G Q P a3 S;generalize (nv q).ka=bk at*;generalize (nv q).kc=bm at*;generalize (nv q).da=bd at*;generalize (nv q).dc=bf at*;go_wp2_with fail;go_loopw [10] (fun x wr=> ∃j:Nat,x= .int .i64 (j:Nat)/\j<=ks.length/\Below ad.1.size ad wr/\∀m,m<j->kOk ks low a m=true) (fun x _=>ks.length-(intOf x).toNat)
 case atStart=>exact⟨0,rfl,wa _,t7,fun m A=>absurd A (xN _)⟩
 case round=>
  obtain⟨j,rfl,bg,I,H⟩:=hrel;obtain⟨a5,a1⟩:=aa wr;subst a1;obtain⟨X,M,D⟩:=a6.out a5 I;have n:Hid _:=I;have v:Hid _:=H;clear I H;by_cases T:j<ks.length
  ·have Y:(j:Int)< (ks.length:Int):=uA;obtain⟨bl,rfl,_,_,_,L⟩:=D.at_ uA;have bc:=(L j T).trans (C1 some (eh ks j T));have O:Hid _:=L;clear L D M;have l:Hid (kOk ks low a j=false->W=false):=fun h=>by
    rw[R.out];rw[List.all_eq_false];exact⟨j,xa.2 (by have:=E.out;omega),by rw[h];decide⟩
   have c:Hid (kOk ks low a j=(inB low a (ks.getD j (strOfNums []))&&(j==0||sl (ks.getD (j-1) (strOfNums [])) (ks.getD j (strOfNums []))))):=rfl;generalize a9:ks.getD j (strOfNums [])=i at*;cases hA:sl i low with
   |true=>
    have ag:Op.bytesLess i.toList low.toList=true:=hA;have f:=l.out (by rw[c.out];simp[inB,sle,hA]);clear hA;go_upto_region 5 with fail
    go_quiet (fail)
    go_wp2_with fail;go_ret;exact⟨by rw[f];rfl,s.out.trans ((gx n.out _).mono s.out.size)⟩
   |false=>
    have ag:Op.bytesLess i.toList low.toList=false:=hA;have r:sle low i=true:=by unfold sle;rw[hA];rfl
    clear hA;cases z:(a.size==0)with
    |true=>
     have am:(a.toList==([]:List UInt8))=true:=by rw[nY];exact z
     have k:inB low a i=true:=by simp[inB,r,z]
     clear z r;by_cases J:j=0
     ·subst J;have d:kOk ks low a 0=true:=by rw[c.out];simp[k]
      have y:Hid _:=d;clear l c d k;go_upto_region 5 with fail
      go_quiet (fail)
      go_wp2_with fail;go_roundw
      case rel=>exact⟨1,rfl,uA,gx n.out _,fun m A=>(show m=0 by omega)▸y.out⟩
      case measure=>simp[intOf];omega
     ·obtain⟨t,rfl⟩:∃t,j=t+1:=⟨j-1,uA⟩;have af:=(O.out t uA).trans (C1 some (eh ks t uA));have an:t<ks.length:=uA;rw[Nat.add_sub_cancel]at c;generalize aT:ks.getD t (strOfNums [])=k0 at*;cases o:sl k0 i with
      |false=>
       have F:Op.bytesLess k0.toList i.toList=false:=o;have f:=l.out (by rw[c.out,o];simp);clear o l c k;go_upto_region 5 with fail
       go_quiet (fail)
       go_wp2_with fail;go_ret;exact⟨by rw[f];rfl,s.out.trans ((gx n.out _).mono s.out.size)⟩
      |true=>
       have F:Op.bytesLess k0.toList i.toList=true:=o;have d:kOk ks low a (t+1)=true:=by rw[c.out,o,k];simp
       have y:Hid _:=d;clear o l c k d;go_upto_region 5 with fail
       go_quiet (fail)
       go_wp2_with fail;go_roundw
       case rel=>exact⟨t+1+1,by go_num,uA,gx n.out _,fun m A=>by
        by_cases e:m=t+1
        ·subst e;exact y.out
        ·exact v.out m uA⟩
       case measure=>simp[intOf];omega
    |false=>
     have am:(a.toList==([]:List UInt8))=false:=by rw[nY];exact z
     cases C:sl i a with
     |false=>
      have ak:Op.bytesLess i.toList a.toList=false:=C;have f:=l.out (by rw[c.out];simp[inB,C,z]);clear C z l c r;go_upto_region 5 with fail
      go_quiet (fail)
      go_wp2_with fail;go_ret;exact⟨by rw[f];rfl,s.out.trans ((gx n.out _).mono s.out.size)⟩
     |true=>
      have ak:Op.bytesLess i.toList a.toList=true:=C;have k:inB low a i=true:=by simp[inB,r,C]
      clear z C r;by_cases J:j=0
      ·subst J;have d:kOk ks low a 0=true:=by rw[c.out];simp[k]
       have y:Hid _:=d;clear l c d k;go_upto_region 5 with fail
       go_quiet (fail)
       go_wp2_with fail;go_roundw
       case rel=>exact⟨1,rfl,uA,gx n.out _,fun m A=>(show m=0 by omega)▸y.out⟩
       case measure=>simp[intOf];omega
      ·obtain⟨t,rfl⟩:∃t,j=t+1:=⟨j-1,uA⟩;have af:=(O.out t uA).trans (C1 some (eh ks t uA));have an:t<ks.length:=uA;rw[Nat.add_sub_cancel]at c;generalize aT:ks.getD t (strOfNums [])=k0 at*;cases o:sl k0 i with
       |false=>
        have F:Op.bytesLess k0.toList i.toList=false:=o;have f:=l.out (by rw[c.out,o];simp);clear o l c k;go_upto_region 5 with fail
        go_quiet (fail)
        go_wp2_with fail;go_ret;exact⟨by rw[f];rfl,s.out.trans ((gx n.out _).mono s.out.size)⟩
       |true=>
        have F:Op.bytesLess k0.toList i.toList=true:=o;have d:kOk ks low a (t+1)=true:=by rw[c.out,o,k];simp
        have y:Hid _:=d;clear o l c k d;go_upto_region 5 with fail
        go_quiet (fail)
        go_wp2_with fail;go_roundw
        case rel=>exact⟨t+1+1,by go_num,uA,gx n.out _,fun m A=>by
         by_cases e:m=t+1
         ·subst e;exact y.out
         ·exact v.out m uA⟩
        case measure=>simp[intOf];omega
  ·have aS:j=ks.length:=uA;have Y:¬(j:Int)< (ks.length:Int):=uA;have f:W=true:=by
    rw[R.out,y4];intro m A;exact v.out m (by have:=xa.1 A;have:=E.out;omega)
   clear D aS;go_wp2_with fail;go_loopw [11] (fun x wr=>x= .int .i64 0/\wr=a5) (fun _ _=>0)
   case atStart=>exact⟨rfl,rfl⟩
   case round=>
    obtain⟨rfl,U⟩:=hrel;obtain rfl:=U.symm;clear U;go_wp2_with fail;go_ret;exact⟨by rw[f];rfl,s.out.trans (n.out.mono s.out.size)⟩
