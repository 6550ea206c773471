import Derived.Test.YtglbanolhhjjiaaGreatDoorFo10
namespace Go.Proofs.YtglbanolhhjjiaaGreatDoor
open Go.Proofs.Tryz
open Go.RowKit
set_option linter.unusedVariables false
set_option maxRecDepth 100000
set_option maxHeartbeats 32000000
def aW(i:Nat)(ls:List (ByteArray×Int))(kd:List Int):NdK:=⟨(i:Int),false,[],[],kd,ls.tail.map (fun x=>x.1)⟩
def d0:ByteArray×Int:=(strOfNums [],0)
def t0:ByteArray×Tr:=(strOfNums [],.nil)
structure LpI(P:Pg)(B0 g sb N:Nat)(rt:Int)(f steps i:Nat)(vs:Value)(w:World)(ns:List NdK)(nv:Nat->NdV)(na:Option Addr)(seen:List Int)(tall:Int)(nb:Nat)(v:NdV)(ls:List (ByteArray×Int))(j:Nat)(kd:List Int)(ms:List NdK)(nv1:Nat->NdV)(na1:Option Addr)(nc1:Nat)(seen1:List Int)(tall1:Int)(bad1:Bool)(wr:World):Prop where
 fr:Fr3 g sb na w wr
 st:TSt B0 g sb N rt wr (ns++ms) nv1 na1 nc1 seen1 tall1 bad1
 na:na1=na\/∃k,na1=some ⟨k,0,none⟩/\w.1.size<=k
 old:∀m,m<ns.length->nv1 m=nv m
 new:∀m k,ns.length<=m->m< (ns++ms).length->(nv1 m).da=some ⟨k,0,none⟩->w.1.size<=k
 le:(ns++ms).length+(steps+1)<=seen1.length
 le2:seen.length+1<=seen1.length
 blk:Blk wr 176 nb (ndc v (aW i ls kd))
 own:ONd w.1.size wr v (aW i ls kd)
 vw:Blk wr 136 w.1.size [vs]
 nan:na1≠some ⟨nb,0,none⟩
 sep:∀m,m< (ns++ms).length->∀k,v.da=some ⟨k,0,none⟩->(nv1 m).da≠some ⟨k,0,none⟩
 len:kd.length=ls.length
 rest:∀m,j<=m->kd.getD m 0=(ls.getD m d0).2
 res:(bad1=false/\∃ts:List (ByteArray×Tr),ts.length=j/\(∀m,m<j->(ts.getD m t0).1=(ls.getD m d0).1)/\rdK (rdT P f ((steps:Int)+1)) ls ⟨(i:Int)::seen,tall⟩=(rdK (rdT P f ((steps:Int)+1)) (ls.drop j) ⟨seen1,tall1⟩).map (fun y=>(fC ts y.1,y.2))/\∀m,m<j->isT (ts.getD m t0).2=true/\Rep (ns++ms) (ts.getD m t0).2 true [kd.getD m 0] [])\/
  (bad1=true/\rdK (rdT P f ((steps:Int)+1)) ls ⟨(i:Int)::seen,tall⟩=none)
theorem LpI.belowL{P B0 g sb N rt f steps i m w ns nv na seen tall nb v ls j kd ms l h k b c d wr wr'}(a:LpI P B0 g sb N rt f steps i m w ns nv na seen tall nb v ls j kd ms l h k b c d wr)(e:Below wr.1.size wr wr'):LpI P B0 g sb N rt f steps i m w ns nv na seen tall nb v ls j kd ms l h k b c d wr':=
 ⟨a.fr.trans (Fr3.ofBelow e) a.na,a.st.belowT e,a.na,a.old,a.new,a.le,a.le2,a.blk.below e,a.own.below e,a.vw.below e,a.nan,a.sep,a.len,a.rest,a.res⟩
theorem LpI.after{P B0 g sb N rt f steps i s w ns nv na seen tall nb v ls j kd ms r l q h k m wr c}(d:LpI P B0 g sb N rt f steps i s w ns nv na seen tall nb v ls j kd ms r l q h k m wr)(fr:Fr3 g sb l wr c):
 Blk c 176 nb (ndc v (aW i ls kd))/\ONd w.1.size c v (aW i ls kd)/\Blk c 136 w.1.size [s]:=by
 have o:nb≠g:=fun e=>by
  have b:=d.st.blk;have a:=d.blk;unfold Blk at b a;rw[e,b]at a;cases a
 have p:nb≠sb:=fun e=>by
  obtain⟨_,x,b⟩:=d.st.mks.blk;have a:=d.blk;unfold Blk at a;rw[e,b]at a;cases a
 have n:∀t,t≠116->t≠4->t≠176->KeepT t wr c:=fun t b a u=>fr.keepT d.st b a u;exact⟨(fr.block nb d.blk.lt o p d.nan).trans d.blk,d.own.keep (n _ uv uv uv) (n _ uv uv uv),d.vw.keepT (n _ uv uv uv)⟩
theorem DA{ls:List (ByteArray×Int)}{j}(a:j<ls.length):ls.drop j=((ls.getD j d0).1,(ls.getD j d0).2)::ls.drop (j+1):=by
 rw[x4 a];congr 1;simp[List.getD,List.getElem?_eq_getElem a]
theorem LpI.step{P B0 g sb N rt f steps i am w ns nv na seen tall nb v ls j kd ms Q L ag h l wr d}(c:LpI P B0 g sb N rt f steps i am w ns nv na seen tall nb v ls j kd ms Q L ag h l false wr)(ab:j<ls.length){s}(x:v.da=some ⟨s,0,none⟩)(a2:w.1.size<=nb){p y E M O z A C}(o:RdQ P B0 g sb N rt f (steps+1) (kd.getD j 0) wr (ns++ms) Q L h l d p y E M O z A C):
 LpI P B0 g sb N rt f steps i am w ns nv na seen tall nb v ls (j+1) (kd.set j p) (ms++y) E M O z A C (d.setCell ⟨s,j,none⟩ (.int .i64 p)):=by
 have ow:=c.own.kids;rw[x]at ow;obtain⟨ac,a0,r⟩:=ow.blk;have kI:KeepT 3 wr d:=o.fr.keepT c.st uv uv uv;have aA:KeepT 9 wr d:=o.fr.keepT c.st uv uv uv;have aB:KeepT 136 wr d:=o.fr.keepT c.st uv uv uv;have a1:=(vR.1 r).1;have u:=kI.block _ _ _ r;have ae:=c.blk.lt;have Z:nb≠g:=fun e=>by
  have b:=c.st.blk;have a:=c.blk;unfold Blk at b a;rw[e,b]at a;cases a
 have af:nb≠sb:=fun e=>by
  obtain⟨_,a3,b⟩:=c.st.mks.blk;have a:=c.blk;unfold Blk at a;rw[e,b]at a;cases a
 have ad:nb≠s:=fun e=>by
  have a:=c.blk;unfold Blk at a;rw[e,r]at a;cases a
 have aS:Blk d 176 nb (ndc v (aW i ls kd)):=(o.fr.block nb ae Z af c.nan).trans c.blk;have J:=ax d s j (.int .i64 p);have aT:=aS.only J ad;have H:∀t,3≠t->KeepT t d (d.setCell ⟨s,j,none⟩ (.int .i64 p)):=fun t ap=>cx J u ap;have an:ndc v (aW i ls kd)=ndc v (aW i ls (kd.set j p)):=by simp[ndc,aW]
 have G:∀m,m< (ns++(ms++y)).length->∀k,v.da=some ⟨k,0,none⟩->(E m).da≠some ⟨k,0,none⟩:=fun m n k W V=>by
  by_cases D:m< (ns++ms).length
  ·rw[o.old m D]at V;exact c.sep m D k W V
  ·have:=o.new m k t7 (by rw[vJ];exact n) V;rw[x]at W;cases W;omega
 have I:=c.own.keep aA kI;have ak:Own1 3 w.1.size (d.setCell ⟨s,j,none⟩ (.int .i64 p)) v.da (kd.set j p).length v.dc (on (kd.set j p)):=by
  have b:Own1 3 w.1.size d v.da kd.length v.dc (on kd):=I.kids;rw[x]at b ⊢;have a:=b.set j (.int .i64 p);rw[tS]at a;rw[A1];exact a
 refine⟨(c.fr.trans o.fr c.na).fresh J ac,?_,?_,fun m n=> ?_,fun m k b a q=> ?_,?_,u9 c.le2 o.le2,?_,⟨I.keys.keep (H _ uv),I.vals.keep (H _ uv),ak,I.signs.keep (H _ uv)⟩,(c.vw.keepT aB).keepT (H _ uv),?_,G,by rw[A1];exact c.len,fun m n=> ?_,?_⟩
 ·have:=o.st;rw[vJ]at this;exact this.other (xs:=[]) J ⟨_,u⟩ uv uv (u5 uv) uv (u4 (fun m n=>G m n s x))
 ·rcases o.na with D|⟨k,b,a⟩
  ·rw[D];exact c.na
  ·exact u4 ⟨k,b,u9 c.fr.size a⟩
 ·rw[o.old m (by rw[u7];omega)];exact c.old m n
 ·by_cases D:m< (ns++ms).length
  ·rw[o.old m D]at q;exact c.new m k b D q
  ·have:=o.new m k t7 (by rw[vJ];exact a) q;exact u9 c.fr.size this
 ·have:=o.le;rw[vJ]at this;exact this
 ·rw[<-an];exact aT
 ·rcases o.na with D|⟨k,b,a⟩
  ·rw[D];exact c.nan
  ·rw[b];intro e;cases e;omega
 ·rw[<-c.rest m t7];simp[List.getD,List.getElem?_set_ne (show j≠m by omega)]
 ·rcases c.res with⟨_,B,b,a,q,Y⟩|⟨D,_⟩
  ·have K:=c.rest j t1;rw[DA ab]at q;rcases o.res with⟨U,T,F,X,aX⟩|⟨U,F⟩
   ·refine u5 ⟨U,B++[((ls.getD j d0).1,T)],by simp[b],fun m n=> ?_,?_,fun m n=> ?_⟩
    ·by_cases e:m=j
     ·subst e;simp[List.getD,<-b]
     ·have:=a m t7;rw[<-this];simp[List.getD,List.getElem?_append_left (show m<B.length by omega)]
    ·rw[q];rw[K]at F;exact Cm F
    ·by_cases e:m=j
     ·subst e;have R:(B++[((ls.getD m d0).1,T)]).getD m t0=((ls.getD m d0).1,T):=by simp[List.getD,<-b]
      have S:(kd.set m p).getD m 0=p:=by simp[List.getD,c.len,ab]
      rw[R,S,<-vJ];exact⟨X,aX⟩
     ·have R:(B++[((ls.getD j d0).1,T)]).getD m t0=B.getD m t0:=by simp[List.getD,List.getElem?_append_left (show m<B.length by omega)]
      have S:(kd.set j p).getD m 0=kd.getD m 0:=by simp[List.getD,List.getElem?_set_ne (show j≠m by omega)]
      rw[R,S,<-vJ];exact⟨(Y m t7).1,(Y m t7).2.app y⟩
   ·refine u4 ⟨U,?_⟩;rw[q];rw[K]at F;have X:rdT P f ((steps:Int)+1) ⟨h,l⟩ (ls.getD j d0).2=none:=F;rw[Cl X]
    rfl
  ·cases D
theorem vH{P B0 g sb N rt f steps i M w ns nv na seen tall nb v ls j kd ms p A H b c a wr B}(t:LpI P B0 g sb N rt f steps i M w ns nv na seen tall nb v ls j kd ms p A H b c a wr)(hx:a=true\/j=ls.length){C}(u:inP C=some ls)(z:rdT P (f+1) steps ⟨seen,tall⟩ (i:Int)=((inP C).bind fun ls=>(rdK (rdT P f ((steps:Nat)+1)) ls ⟨(i:Int)::seen,tall⟩).map fun y=>(.node (i:Int) y.1,y.2))){l D}(I:TSt B0 g sb N rt B ((ns++ms)++[aW i ls kd]) (eA p (ns++ms).length v) (some ⟨l,0,none⟩) D b c a)(J:Fr3 g sb na w B)(F:A=some ⟨l,0,none⟩\/w.1.size<=l):
 RdQ P B0 g sb N rt (f+1) steps (i:Int) w ns nv na seen tall B ((ns++ms).length:Nat) (ms++[aW i ls kd]) (eA p (ns++ms).length v) (some ⟨l,0,none⟩) D b c a:=by
 have Q:(ns++ms).length=ns.length+ms.length:=u7;refine⟨J,by rw[<-vJ];exact I,?_,fun m o=> ?_,fun m k n q d=> ?_,?_,u9 (xa _) t.le2,?_⟩
 ·rcases F with h|h
  ·rw[<-h];exact t.na
  ·exact u4 ⟨l,rfl,h⟩
 ·rw[jB _ _ t7];exact t.old m o
 ·rw[<-vJ,u7]at q;have O:m< (ns++ms).length+1:=q;by_cases e:m=(ns++ms).length
  ·subst e;rw[jA]at d;have E:=t.own.kids;rw[d]at E;exact E.blk.1
  ·rw[jB _ _ t7]at d;exact t.new m k n t7 d
 ·rw[<-vJ,u7];have:=t.le;show(ns++ms).length+1+steps<=_;omega
 ·rcases t.res with⟨r,s,n,q,d,K⟩|⟨r,n⟩
  ·have L:j=ls.length:=by
    rcases hx with h|h
    ·rw[r]at h;cases h
    ·exact h
   subst L;rw[List.drop_length]at d;refine u5 ⟨r,.node (i:Int) (fC s .nil),?_,rfl,?_⟩
   ·rw[z,u];simp only[w7];rw[d]
    rfl
   ·rw[<-vJ,Rep];refine⟨(ns++ms).length,kd,ls.tail.map (fun x=>x.1),rfl,by simp[aW],?_⟩;have G:=uU (ns:=(ns++ms)++[aW i ls kd]) s true kd (by rw[t.len,n]) (fun m o=>(K m t7).2.app _);have e:s.tail.map (·.1)=ls.tail.map (fun x=>x.1):=by
     apply yc;intro m;simp only[y2,List.getElem?_tail];by_cases o:m+1<s.length
     ·have:=q (m+1) t7;simp only[List.getD,wy o,wy (show m+1<ls.length by omega),Option.getD_some]at this;rw[wy o,wy (show m+1<ls.length by omega)];simp[this]
     ·rw[xN t7,xN t7]
      rfl
    rw[BC rfl,e]at G;exact G
  ·refine u4 ⟨r,?_⟩;rw[z,u];simp only[w7];rw[n]
   rfl
theorem vI:∀(n:Nat)(l:List Int)(r:List (ByteArray×Int)),l.length<=n->lnP l=some r->r.length<=l.length
 |0,l,r,f,e=>by rw[gZ t7]at e;cases e;simp
 |n+1,l,r,f,e=>by
  by_cases b:l.length=0
  ·rw[gZ b]at e;cases e;simp
  ·cases a:eJ l with
   |false=>rw[ji b a]at e;cases e
   |true=>
    rw[j4 a]at e;obtain⟨d,c,rfl⟩:=xr.1 e;have g:=(gJ.1 a).2.2;have:=vI n (l.drop (5+lfK l)) d (by rw[vk];omega) c;rw[vk]at this;simp;omega
theorem qU{l ls}(a:inP l=some ls):ls.length<=l.length:=by
 unfold inP at a;by_cases b:4<=l.length
 ·rw[BC b]at a;obtain⟨r,c,rfl⟩:=xr.1 a;have:=vI _ _ r t1 c;rw[vk]at this;simp;omega
 ·rw[BX b]at a;cases a
def LpE(P:Pg)(B0 g sb N:Nat)(rt:Int)(f steps i:Nat)(vs:Value)(w:World)(ns:List NdK)(nv:Nat->NdV)(na:Option Addr)(seen:List Int)(tall:Int)(nb:Nat)(v:NdV)(ls:List (ByteArray×Int))(x:Value)(wr:World):Prop:=
 ∃j kd ms nv1 na1 nc1 seen1 tall1 bad1,x= .int .i64 ((j:Nat):Int)/\j<=ls.length/\LpI P B0 g sb N rt f steps i vs w ns nv na seen tall nb v ls j kd ms nv1 na1 nc1 seen1 tall1 bad1 wr
theorem DD(P N B0 g sb rt o w0)(cj:PgW P N)(dU:ma P o g w0)(cA:w0.1.size<=B0)(f)(fa:RdC P N B0 g sb rt o w0 f)(steps id ns nv na nc seen tall w)(eR:OnlyB g w0 w)(dF:TSt B0 g sb N rt w ns nv na nc seen tall false)(fD:ns.length+steps<=seen.length)(gt:N< (f+1)+seen.length)(H:P.ok id=true)(bP:2<=id)(b1:id∉seen)(bY:P.kd id=3):
 Calls prog 109 #[.pointer (some ⟨g,0,none⟩),.agg #[o],.int .i64 id,.int .i64 (steps:Nat)] w fun e w'=>RdP P B0 g sb N rt (f+1) steps id w ns nv na seen tall e w':=by
 have dS:Hid _:=fa;have fn:=cj.le;have dE:=bAl w (.cells #[o] 136);have e1:=aq w 136 #[o];have c2:=dF.belowT dE;have dd:Fr3 g sb na w (w.alloc (.cells #[o] 136)):=Fr3.ofBelow dE;have fZ:(w.alloc (.cells #[o] 136)).1.size=w.1.size+1:=by simp
 have e4:(prog.info? 136).map (·.size)=some (#[o]:Array Value).size:=uA;go_enter func109,ntmps109;go_upto_region 1 with fail
 change Code.wp _ _ _ _ (w.alloc (.cells #[o] 136));generalize w.alloc (.cells #[o] 136)=e7 at*;have f6:w.1.size<e7.1.size:=t7;clear fZ;have fs:=dd.onlyG dF cA eR;have bn:=dU e7 fs id;have cB:=cj.byte id;have f3:=cj.len id;have b2:=cj.ok id;have b8:Blk e7 136 w.1.size [o]:=e1;clear e1 dU;obtain⟨dp,fz⟩:=b2 H;have bk:Hid (rdT P (f+1) steps ⟨seen,tall⟩ id=((inP (P.bd id)).bind fun ls=>(rdK (rdT P f ((steps:Nat)+1)) ls ⟨id::seen,tall⟩).map fun y=>(.node id y.1,y.2))):=by
  show rdT P (f+1) steps ⟨seen,tall⟩ id= _;rw[rdT,BC (fO.2 ⟨H,bP,b1,u4 bY⟩),BX t7]
 rw[H,bY]at bn;clear b2 H bY;obtain⟨i,rfl⟩:=xb dp;have bW:i<N:=t7;generalize ex:P.bd (i:Int)=cl at*;clear ex;generalize f4:cl.length=c9 at*;go_wp2_with (refine BD rfl 136 _ rfl w.1.size rfl 136 #[o] (0,0) _ b8 underlying136 rfl e4 ?_);refine bn.mono ?_;rintro e w1 ⟨c8,da,rfl,bs,dD⟩;have cc:=c2.belowT bs;have f1:=dd.trans (Fr3.ofBelow bs) (u5 rfl);have cV:=b8.below bs;have bs1:=dD.bs cB;have d5:w1.cell? ⟨g,2,none⟩=some (.slice (some ⟨sb,0,none⟩) N N):=cc.blk.cell 2;have f7:=bs.size;have X:=t6 cc (u2 f1 (u2 cV (u2 bs1 dD)));clear bn cc f1 cV bs1 dD bs c2 dd b8 dE;have eB:w1.cell? ⟨sb,i,none⟩=some (.bool false):=by
  obtain⟨es,D,_,_,_,dl⟩:=X.out.1.mks.at_ t7;cases D;rw[dl i bW,go _ _ _ bW];cases eN:seen.contains (i:Int)with
  |false=>rfl
  |true=>exact absurd (w5.1 eN) b1
 have eC:=X.out.1.mks.free i;have a3:=ax w1 sb i (.bool true);have c3:=X.out.1.mark bW b1;have d8:=X.out.2.1.trans (Fr3.only a3 (u4 (u5 rfl))) (u5 rfl);obtain⟨_,fm,a2⟩:=X.out.1.mks.blk;have b9:∀t,4≠t->KeepT t w1 (w1.setCell ⟨sb,i,none⟩ (.bool true)):=fun t fV=>cx a3 a2 fV;have cW:=X.out.2.2.1.keepT (b9 _ uv);have e2:Own e7.1.size (w1.setCell ⟨sb,i,none⟩ (.bool true)) c8 c9 da cl:=cw X.out.2.2.2.2 (b9 _ uv);have bx:=e2.bs cB;have f8:=a3.size;have d1:=tX c8 c9 da cl _ bx t7;have bb:=t6 c3 (u2 d8 (u2 cW bx));clear X c3 d8 cW e2 bx b9 a2 a3;go_upto_region 6 with fail
 clear d5 eB eC;generalize w1.setCell ⟨sb,i,none⟩ (.bool true)=gj at*;go_wp2_with fail;refine d1.mono ?_;rintro e a1 ⟨v3,bl,gg,rfl,a9,fc,T⟩;clear T d1 fc;have ce:=bb.out.1.belowT a9;have d9:=bb.out.2.1.trans (Fr3.ofBelow a9) (u5 rfl);have cb:=bAl a1 (.cells (ndc v3 bl).toArray 176);have eW:=aq a1 176 (ndc v3 bl).toArray;have cf:=ce.belowT cb;have ea:=d9.trans (Fr3.ofBelow cb) (u5 rfl);have cX:=(bb.out.2.2.1.below a9).below cb;have cv:=(bb.out.2.2.2.below a9).below cb;have bZ:na≠some ⟨a1.1.size,0,none⟩:=fun e=>by
  have eK:=ce.nodes;rw[e]at eK;obtain⟨_,f0,dl⟩:=eK.blk;have:=(vR.1 dl).1;omega
 have f9:=a9.size;clear bb ce d9 cb a9;go_upto_region 7 with(refine bt rfl 176 _ _ rfl a1 (ndc aF nd0).toArray (ndc v3 bl).toArray 176 rfl rfl aD rfl (cy _ _) ?_)
 change Code.wp _ _ _ _ (a1.alloc (.cells (ndc v3 bl).toArray 176));generalize a1.alloc (.cells (ndc v3 bl).toArray 176)=ck at*;have b6:=eW;clear eW;generalize a1.1.size=nb at*;have aT:w.1.size<=nb:=t7;have cm:Hid (∀m,m<ns.length->∀k,(nv m).da=some ⟨k,0,none⟩->k<ck.1.size):=fun m S k e=>(cf.each m S).kids.lt e;have LI:=Ay c8 c9 da cl ck cv t7;go_wp2_with fail;refine LI.mono ?_;rintro e e5 ⟨a,a7,gi,rfl,bu,d2,T⟩;have bg:Hid _:=T;clear T LI cv;have c4:=cf.belowT bu;have eb:=ea.trans (Fr3.ofBelow bu) (u5 rfl);have M:=b6.below bu;have c0:=cX.below bu;have ba:=du e5 nb (ndc a a7).toArray;have cT:=M.setRow (ndc a a7);have c5:=c4.other (xs:=[]) ba ⟨_,M⟩ uv uv (u4 bZ) uv (u5 uv);have ef:=eb.fresh ba aT;have d3:=(d2.keep (aw ba M uv) (aw ba M uv));have c1:=c0.keepT (aw ba M uv);have f2:=b6.lt;have s:=t6 c5 (u2 ef (u2 d3 (u2 cT (u2 c1 bZ))));clear cf ea b6 cX c4 eb c0 ba c5 ef d3 cT c1 bZ d2 bu;go_upto_region 11 with(refine BO rfl 176 _ _ rfl nb (ndc a a7).toArray rfl rfl 176 _ M aD rfl (cy _ _) ?_)
 generalize e5.setRow nb (ndc a a7).toArray=J at*;clear M;have ab:J.cell? ⟨g,4,none⟩=some (.bool false):=s.out.1.blk.cell 4;have ek:=s.out.1.blk.free 4;have d4:J.cell? ⟨nb,0,none⟩=some (.int .i64 a7.page):=s.out.2.2.2.1.cell 0;have ej:=s.out.2.2.2.1.free 0;rcases bg.out with⟨H,ls,ak,b⟩|⟨H,ak⟩
 case inr=>
  subst H;have cS:rdT P (f+1) steps ⟨seen,tall⟩ (i:Int)=none:=by rw[bk.out,ak];rfl
  have b4:seen.length<=((i:Int)::seen).length:=by rw[wQ];omega
  have dI:Hid (RdQ P B0 g sb N rt (f+1) steps (i:Int) w ns nv na seen tall (J.setCell ⟨g,4,none⟩ (.bool true)) (-1) [] nv na nc ((i:Int)::seen) tall true):=
   nL (w1:=J) (-1) (s.out.2.1.trans (Fr3.only (ax J g 4 (.bool true)) (u5 rfl)) (u5 rfl)) (s.out.1.set 4 (.bool true) rfl) fD b4 cS
  clear cS b4 s;go_wp2_with fail;go_ret;exact fR dI.out
 case inl=>
 subst H;have cq:Hid _:=ak;have dr:ls.length<=1048576:=by have:=qU ak;omega
 have cn:=ax J nb 0 (.int .i64 (i:Int));have b7:=s.out.2.2.2.1.set 0 (.int .i64 (i:Int));have d7:(ndc a a7).set 0 (.int .i64 (i:Int))=ndc a (aW i ls (ls.map (fun x=>x.2))):=by rw[b];rfl
 rw[d7]at b7;have a5:∀t,176≠t->KeepT t J (J.setCell ⟨nb,0,none⟩ (.int .i64 (i:Int))):=fun t bP=>aw cn s.out.2.2.2.1 bP;have bS:LpI P B0 g sb N rt f steps i o w ns nv na seen tall nb a ls 0 (ls.map (fun x=>x.2)) [] nv na nc ((i:Int)::seen) tall false (J.setCell ⟨nb,0,none⟩ (.int .i64 (i:Int))):=by
  have a8:=s.out.2.2.1.keep (a5 _ uv) (a5 _ uv);rw[b]at a8;have ev:Own1 3 ck.1.size (J.setCell ⟨nb,0,none⟩ (.int .i64 (i:Int))) a.da (ls.map (fun x=>x.2)).length a.dc (on (ls.map (fun x=>x.2))):=a8.kids;have a4:w.1.size<=ck.1.size:=t7;refine⟨s.out.2.1.fresh cn aT,by rw[wi];exact s.out.1.other (xs:=[]) cn ⟨_,s.out.2.2.2.1⟩ uv uv (u4 s.out.2.2.2.2.2) uv (u5 uv),u5 rfl,fun _ _=>rfl,fun m k gp bP=>by rw[wi]at bP;omega,by rw[wi,wQ];omega,by rw[wQ];omega,b7,⟨a8.keys.mono a4,a8.vals.mono a4,ev.mono a4,a8.signs.mono a4⟩,s.out.2.2.2.2.1.keepT (a5 _ uv),s.out.2.2.2.2.2,fun m S k fB ft=> ?_,x7 _,fun m S=> ?_,u5 ⟨rfl,[],rfl,fun m S=>absurd S (w8 _),?_,fun m S=>absurd S (w8 _)⟩⟩
  ·rw[wi]at S;have gr:=cm.out m S k ft;have et:=a8.kids;rw[fB]at et;have gs:=et.blk.1;omega
  ·by_cases dk:m<ls.length
   ·simp[List.getD,List.getElem?_eq_getElem dk]
   ·simp[List.getD,List.getElem?_eq_none (show ls.length<=m by omega),d0]
  ·simp[fC]
 have cp:Hid _:=bS;clear bS a5 b7 d7 cn b;go_upto_region 17 with fail
 generalize J.setCell ⟨nb,0,none⟩ (.int .i64 (i:Int))=gm at*;clear ab ek d4 ej s bg ak;go_wp2_with fail;go_loopw [14] (fun x wr=>LpE P B0 g sb N rt f steps i o w ns nv na seen tall nb a ls x wr) (fun x _=>ls.length-(intOf x).toNat)
 case atStart=>exact⟨0,_,_,_,_,_,_,_,_,rfl,u6 _,cp.out⟩
 case round=>
  clear cp;obtain⟨j,kd,ms,ap,l,q,V,W,R,rfl,gv,cr⟩:=hrel;obtain⟨E,eU⟩:=aa wr;subst eU;have Z:E.cell? ⟨nb,4,none⟩=some (.slice a.da kd.length a.dc):=cr.blk.cell 4;have ab:E.cell? ⟨g,4,none⟩=some (.bool R):=cr.st.blk.cell 4;have cP:=cr.len;have d:Hid _:=cr;have fP:=cr.st.ok.le;have fM:=cr.le;have f5:kd.length<=1048576:=by rw[cr.len];exact dr
  clear cr;by_cases eM:j<ls.length
  ·have ds:(j:Int)< (kd.length:Int):=t7;clear cP;cases R with
   |true=>
    have dV:Hid (true=true\/j=ls.length):=u5 rfl;go_upto_region 21 with fail
    clear Z ab;have ac:=bDr E;obtain⟨c,F⟩:=aa (ns++ms);have A:TSt B0 g sb N rt E.drew c ap l q V W true:=by rw[F];exact d.out.st.belowT ac
    have b0:c.length<=1048576:=by rw[F];have:=d.out.le;have:=d.out.st.ok.le;omega
    have bd:Hid _:=F;clear F;have G:=d.out.blk.below ac;have bm:=d.out.own.below ac;have r:Hid (∀u:World,Blk u 176 nb (ndc a (aW i ls kd))->(Instr.loadAt 176 (.pointer (some ⟨nb,0,none⟩))).run prog u= .ok (.agg (ndc a (aW i ls kd)).toArray) u):=fun u b5=>by
     simp only[Instr.loadAt,Instr.sureAddr,B3,Ct,Result.andThen];exact C3 u nb 176 176 (ndc a (aW i ls kd)).toArray (0,0) _ b5 underlying176 rfl aD
    have bE:=d.out.fr.trans (Fr3.ofBelow (na:=l) ac) d.out.na;refine az (fun u=>u.cell? ⟨g,0,none⟩=some (.slice l c.length q)/\(Instr.loadAt 176 (.pointer (some ⟨nb,0,none⟩))).run prog u= .ok (.agg (ndc a (aW i ls kd)).toArray) u) (fun k=>decide (8<=k)) uA ?_;generalize E.drew=B at*;have cs:B.cell? ⟨g,0,none⟩=some (.slice l c.length q)/\(Instr.loadAt 176 (.pointer (some ⟨nb,0,none⟩))).run prog B= .ok (.agg (ndc a (aW i ls kd)).toArray) B:=⟨A.blk.cell 0,r.out _ G⟩;have U:=bAl B (.cells (ndc a (aW i ls kd)).toArray 176);have bB:(B.alloc (.cells (ndc a (aW i ls kd)).toArray 176)).cell? ⟨g,0,none⟩=some (.slice l c.length q)/\(Instr.loadAt 176 (.pointer (some ⟨nb,0,none⟩))).run prog (B.alloc (.cells (ndc a (aW i ls kd)).toArray 176))= .ok (.agg (ndc a (aW i ls kd)).toArray) (B.alloc (.cells (ndc a (aW i ls kd)).toArray 176)):=⟨(A.belowT U).blk.cell 0,r.out _ (G.below U)⟩;have bR:=A.gB;have h:=t6 A (u2 bE bm);have I:Hid _:=G.below U;clear A bE bm G U ac;refine aj 0 cs ?_;refine aj 1 cs ?_;refine aj 2 cs ?_;refine aj 3 cs ?_;refine aj 4 cs ?_;refine aM 5 (.agg (ndc a (aW i ls kd)).toArray) cs ?hyp5 ?_
    case hyp5=>exact fun u af=>bo (p:= .pointer (some ⟨nb,0,none⟩)) rfl rfl af.2
    refine ah 6 fun n b=> ?_;refine bU _ _ _ rfl (v:= .slice (some ⟨B.1.size,0,none⟩) 1 1) (w':=(B.alloc (.cells (ndc a (aW i ls kd)).toArray 176))) ?bsp ?_
    case bsp=>
     simp only[wa,vo,v6];exact fq eY t7 (.agg (ndc a (aW i ls kd)).toArray) (ndc a (aW i ls kd)) rfl rfl B
    refine ao b ?_;clear b n;refine ah 7 fun n b=> ?_;refine gW _ _ eY rfl B0 l c.length q (cd ap c) rfl h.out.1.nodes (ndc a (aW i ls kd)) rfl (eo _ _) rfl b0 t7 bR ?_;intro K aS O ca bv z Y;have an:Blk O 176 nb (ndc a (aW i ls kd)):=by
     refine(z.block nb (Blk.lt I.out) ?_).trans I.out;intro e;rcases h.out.1.nodes.2 with⟨D,_⟩|⟨es,db,dc,D,_⟩
     ·rw[D]at e;simp[Value.ownBlock]at e
     ·rw[D]at e;simp[Value.ownBlock]at e;simp only[DC]at D;subst e;exact d.out.nan D.1
    have aX:Blk O 116 g _:=h.out.1.blk.keepT ((aV (bAl _ _)).trans (bD (bQ h.out.1.nodes (bAl _ _)) z uv));have bz:O.cell? ⟨g,0,none⟩=some (.slice l c.length q):=aX.cell 0;have bF:=aX.free 0;refine b.out _ _ (fun _=>⟨bz,r.out _ an⟩) ?_;clear b n;have aA:=h.out.1.push (h.out.2.2.mono (u6 _)) ca bv z;have bC:Fr3 g sb na w (O.setCell ⟨g,0,none⟩ (.slice (some ⟨K,0,none⟩) (c.length+1) aS)):=h.out.2.1.trans (Fr3.push h.out.1.nodes z h.out.1.blk.lt) d.out.na;have ag:Hid (l=some ⟨K,0,none⟩\/w.1.size<=K):=by
     have:=h.out.2.1.size;rcases Y with dk|dk
     ·exact u5 dk
     ·exact u4 t7
    have Q:=t6 aA bC;clear aA bC aX ca bv z Y bB an I r;refine ah 8 fun n b=> ?_;go_wp2_with fail;refine ao b ?_;clear b n;refine ah 9 fun n b=> ?_;go_wp2_with fail;refine ao b ?_;clear b n;refine ah 10 fun n b=> ?_;go_wp2_with fail;refine ao b ?_;clear b n;refine bi ?_;clear bz bF cs;generalize O.setCell ⟨g,0,none⟩ (.slice (some ⟨K,0,none⟩) (c.length+1) aS)=aB at*;have b3:RdP P B0 g sb N rt (f+1) steps (i:Int) w ns nv na seen tall (.returned (.int .i64 (c.length:Nat))) aB:=by
     have br:=Q.out.1;rw[bd.out]at br ⊢;exact fR (vH d.out (u5 rfl) cq.out bk.out br Q.out.2 ag.out)
    have bf:Hid _:=b3;have fl:aB.cell? ⟨g,0,none⟩=some (.slice (some ⟨K,0,none⟩) (c.length+1) aS):=(Q.out.1.blk.cell 0).trans (by simp[trc]);clear b3 Q ag d;generalize c.length=L at*;go_wp2_with fail;go_ret
    first|exact bf.out|(refine(B8 (fun x=>RdP P B0 g sb N rt (f+1) steps (i:Int) w ns nv na seen tall (.returned (.int .i64 x)) aB) ?_).mp bf.out;simp)
   |false=>
    go_upto_region 20 with fail
    clear ab;have e3:=d.out.own.kids;have cR:0< (aW i ls kd).kids.length:=by show 0<kd.length;omega
    obtain⟨a0,bT,eL,dq,_,am⟩:=e3.at_ cR;have cM:=(am j (by show j<kd.length;omega)).trans (B8 some (cF kd j t7));have bc:Hid _:=bT;rw[bT]at Z;clear am e3 cR bT eL dq;have ae:=bDr E;have c6:=d.out.st.belowT ae;have cD:=(d.out.fr.onlyG dF cA eR).trans (Below.onlyB ae g);have c7:=dS.out (steps+1) (kd.getD j 0) (ns++ms) ap l q V W E.drew cD c6 (by have:=d.out.le2;omega) (by have:=d.out.le;omega);rw[show((steps+1:Nat):Int)=(steps:Int)+1 by omega]at c7;have r:Hid (∀u:World,Blk u 136 w.1.size [o]->(Instr.loadAt 136 (.pointer (some ⟨w.1.size,0,none⟩))).run prog u= .ok (.agg #[o]) u):=fun u b5=>by
     simp only[Instr.loadAt,Instr.sureAddr,B3,Ct,Result.andThen];exact C3 u w.1.size 136 136 #[o] (0,0) _ b5 underlying136 rfl e4
    refine az (fun u=>u.cell? ⟨nb,4,none⟩=some (.slice (some ⟨a0,0,none⟩) kd.length a.dc)/\u.cell? ⟨a0,j,none⟩=some (.int .i64 (kd.getD j 0))/\(Instr.loadAt 136 (.pointer (some ⟨w.1.size,0,none⟩))).run prog u= .ok (.agg #[o]) u) (fun k=>decide (13<=k)) uA ?_;have cs:E.drew.cell? ⟨nb,4,none⟩=some (.slice (some ⟨a0,0,none⟩) kd.length a.dc)/\E.drew.cell? ⟨a0,j,none⟩=some (.int .i64 (kd.getD j 0))/\(Instr.loadAt 136 (.pointer (some ⟨w.1.size,0,none⟩))).run prog E.drew= .ok (.agg #[o]) E.drew:=⟨Z,cM,r.out _ (d.out.vw.below ae)⟩;have dW:=d.out.belowL ae;clear d Z cM ae c6 cD;have d:Hid _:=dW;clear dW;generalize E.drew=gn at*;generalize bX:kd.getD j 0=eV at*;have em:IntKind.i64.wrap ((steps:Int)+1)=(steps:Int)+1:=by simp[IntKind.wrap,IntKind.bits,IntKind.signed];omega
    have en:(0:Int)<=(j:Int):=t7;refine au 0 cs ?_;refine au 1 cs ?_;refine au 2 cs ?_;refine au 3 cs ?_;refine aM 4 (.agg #[o]) cs ?hyz4 ?_
    case hyz4=>exact fun u af=>bo (p:= .pointer (some ⟨w.1.size,0,none⟩)) rfl rfl af.2.2
    refine au 5 cs ?_;refine au 6 cs ?_;refine au 7 cs ?_;refine au 8 cs ?_;refine au 9 cs ?_;refine au 10 cs ?_;refine au 11 cs ?_;clear em en;refine ah 12 fun n b=> ?_;go_wp2_with fail;refine c7.mono ?_;rintro e cg fo;obtain⟨p,ga,gf,gb,gc,e8,e9,fd,rfl,e6⟩:=fo;rw[<-bX]at e6;have ch:=d.out.after e6.fr;have a6:=ch.2.1.kids;rw[bc.out]at a6;obtain⟨_,D,_,_,_,am⟩:=a6.at_ (by show 0<kd.length;omega);cases D;have bA:=(am j (by show j<kd.length;omega)).trans (B8 some (cF kd j t7));have eq:=a6.free j;rw[bX]at bA;have cz:cg.cell? ⟨nb,4,none⟩=some (.slice (some ⟨a0,0,none⟩) kd.length a.dc):=by rw[<-bc.out];exact ch.1.cell 4
    have d6:cg.cell? ⟨nb,4,none⟩=some (.slice (some ⟨a0,0,none⟩) kd.length a.dc)/\cg.cell? ⟨a0,j,none⟩=some (.int .i64 eV)/\(Instr.loadAt 136 (.pointer (some ⟨w.1.size,0,none⟩))).run prog cg= .ok (.agg #[o]) cg:=⟨cz,bA,r.out _ ch.2.2⟩;have dX:=d.out.step eM bc.out aT e6;have dP:Hid _:=dX;clear dX e6 ch a6 am c7 d cz;go_wp2_with fail;refine ao b ?_;clear b n;refine ah 13 fun n b=> ?_;go_wp2_with fail;refine ao b ?_;clear b n;refine ah 14 fun n b=> ?_;go_wp2_with fail;refine ao b ?_;clear b n;refine bi ?_;clear cs d6 bA eq;go_wp2;go_roundw
    case rel=>exact⟨j+1,_,_,_,_,_,_,_,_,by go_num,t7,dP.out⟩
    case measure=>simp[intOf];omega
  ·have cL:j=ls.length:=t7;have ds:¬(j:Int)< (kd.length:Int):=t7;have dV:Hid (R=true\/j=ls.length):=u4 cL;clear cP cL;go_upto_region 21 with fail
   clear Z ab;have ad:=bDr E;obtain⟨c,F⟩:=aa (ns++ms);have A:TSt B0 g sb N rt E.drew c ap l q V W R:=by rw[F];exact d.out.st.belowT ad
   have b0:c.length<=1048576:=by rw[F];have:=d.out.le;have:=d.out.st.ok.le;omega
   have bd:Hid _:=F;clear F;have G:=d.out.blk.below ad;have bm:=d.out.own.below ad;have r:Hid (∀u:World,Blk u 176 nb (ndc a (aW i ls kd))->(Instr.loadAt 176 (.pointer (some ⟨nb,0,none⟩))).run prog u= .ok (.agg (ndc a (aW i ls kd)).toArray) u):=fun u b5=>by
    simp only[Instr.loadAt,Instr.sureAddr,B3,Ct,Result.andThen];exact C3 u nb 176 176 (ndc a (aW i ls kd)).toArray (0,0) _ b5 underlying176 rfl aD
   have bE:=d.out.fr.trans (Fr3.ofBelow (na:=l) ad) d.out.na;refine az (fun u=>u.cell? ⟨g,0,none⟩=some (.slice l c.length q)/\(Instr.loadAt 176 (.pointer (some ⟨nb,0,none⟩))).run prog u= .ok (.agg (ndc a (aW i ls kd)).toArray) u) (fun k=>decide (8<=k)) uA ?_;generalize E.drew=C at*;have cs:C.cell? ⟨g,0,none⟩=some (.slice l c.length q)/\(Instr.loadAt 176 (.pointer (some ⟨nb,0,none⟩))).run prog C= .ok (.agg (ndc a (aW i ls kd)).toArray) C:=⟨A.blk.cell 0,r.out _ G⟩;have U:=bAl C (.cells (ndc a (aW i ls kd)).toArray 176);have bB:(C.alloc (.cells (ndc a (aW i ls kd)).toArray 176)).cell? ⟨g,0,none⟩=some (.slice l c.length q)/\(Instr.loadAt 176 (.pointer (some ⟨nb,0,none⟩))).run prog (C.alloc (.cells (ndc a (aW i ls kd)).toArray 176))= .ok (.agg (ndc a (aW i ls kd)).toArray) (C.alloc (.cells (ndc a (aW i ls kd)).toArray 176)):=⟨(A.belowT U).blk.cell 0,r.out _ (G.below U)⟩;have bR:=A.gB;have h:=t6 A (u2 bE bm);have I:Hid _:=G.below U;clear A bE bm G U ad;refine aj 0 cs ?_;refine aj 1 cs ?_;refine aj 2 cs ?_;refine aj 3 cs ?_;refine aj 4 cs ?_;refine aM 5 (.agg (ndc a (aW i ls kd)).toArray) cs ?hyq5 ?_
   case hyq5=>exact fun u af=>bo (p:= .pointer (some ⟨nb,0,none⟩)) rfl rfl af.2
   refine ah 6 fun n b=> ?_;refine bU _ _ _ rfl (v:= .slice (some ⟨C.1.size,0,none⟩) 1 1) (w':=(C.alloc (.cells (ndc a (aW i ls kd)).toArray 176))) ?bsq ?_
   case bsq=>
    simp only[wa,vo,v6];exact fq eY t7 (.agg (ndc a (aW i ls kd)).toArray) (ndc a (aW i ls kd)) rfl rfl C
   refine ao b ?_;clear b n;refine ah 7 fun n b=> ?_;refine gW _ _ eY rfl B0 l c.length q (cd ap c) rfl h.out.1.nodes (ndc a (aW i ls kd)) rfl (eo _ _) rfl b0 t7 bR ?_;intro K aS O ca bv z Y;have an:Blk O 176 nb (ndc a (aW i ls kd)):=by
    refine(z.block nb (Blk.lt I.out) ?_).trans I.out;intro e;rcases h.out.1.nodes.2 with⟨D,_⟩|⟨es,db,dc,D,_⟩
    ·rw[D]at e;simp[Value.ownBlock]at e
    ·rw[D]at e;simp[Value.ownBlock]at e;simp only[DC]at D;subst e;exact d.out.nan D.1
   have aX:Blk O 116 g _:=h.out.1.blk.keepT ((aV (bAl _ _)).trans (bD (bQ h.out.1.nodes (bAl _ _)) z uv));have bz:O.cell? ⟨g,0,none⟩=some (.slice l c.length q):=aX.cell 0;have bF:=aX.free 0;refine b.out _ _ (fun _=>⟨bz,r.out _ an⟩) ?_;clear b n;have aA:=h.out.1.push (h.out.2.2.mono (u6 _)) ca bv z;have bC:Fr3 g sb na w (O.setCell ⟨g,0,none⟩ (.slice (some ⟨K,0,none⟩) (c.length+1) aS)):=h.out.2.1.trans (Fr3.push h.out.1.nodes z h.out.1.blk.lt) d.out.na;have ag:Hid (l=some ⟨K,0,none⟩\/w.1.size<=K):=by
    have:=h.out.2.1.size;rcases Y with dk|dk
    ·exact u5 dk
    ·exact u4 t7
   have Q:=t6 aA bC;clear aA bC aX ca bv z Y bB an I r;refine ah 8 fun n b=> ?_;go_wp2_with fail;refine ao b ?_;clear b n;refine ah 9 fun n b=> ?_;go_wp2_with fail;refine ao b ?_;clear b n;refine ah 10 fun n b=> ?_;go_wp2_with fail;refine ao b ?_;clear b n;refine bi ?_;clear bz bF cs;generalize O.setCell ⟨g,0,none⟩ (.slice (some ⟨K,0,none⟩) (c.length+1) aS)=aB at*;have b3:RdP P B0 g sb N rt (f+1) steps (i:Int) w ns nv na seen tall (.returned (.int .i64 (c.length:Nat))) aB:=by
    have br:=Q.out.1;rw[bd.out]at br ⊢;exact fR (vH d.out dV.out cq.out bk.out br Q.out.2 ag.out)
   have bf:Hid _:=b3;have fl:aB.cell? ⟨g,0,none⟩=some (.slice (some ⟨K,0,none⟩) (c.length+1) aS):=(Q.out.1.blk.cell 0).trans (by simp[trc]);clear b3 Q ag d;generalize c.length=L at*;go_wp2_with fail;go_ret
   first|exact bf.out|(refine(B8 (fun x=>RdP P B0 g sb N rt (f+1) steps (i:Int) w ns nv na seen tall (.returned (.int .i64 x)) aB) ?_).mp bf.out;simp)
theorem vM(P N B0 g sb rt b w0)(h:PgW P N)(e:ma P b g w0)(a:w0.1.size<=B0):∀f,RdC P N B0 g sb rt b w0 f
 |0=>fun steps id ns nv na nc seen tall w j d n i=>by
  have:=d.ok.le;omega
 |f+1=>fun steps id ns nv na nc seen tall w j d n i=>by
  cases o:dQ P ⟨seen,tall⟩ id with
  |false=>exact Co P N B0 g sb rt b w0 h e a f steps id ns nv na nc seen tall w j d i o
  |true=>
   obtain⟨k,l,m,c⟩:=fO.1 o;rcases c with c|c
   ·exact Cp P N B0 g sb rt b w0 h e a f steps id ns nv na nc seen tall w j d i k l m c
   ·exact DD P N B0 g sb rt b w0 h e a f (vM P N B0 g sb rt b w0 h e a f) steps id ns nv na nc seen tall w j d i n k l m c
def kOk(ks:List ByteArray)(low high:ByteArray)(m:Nat):Bool:=inB low high (ks.getD m (strOfNums []))&&(m==0||sl (ks.getD (m-1) (strOfNums [])) (ks.getD m (strOfNums [])))
theorem DE(low g):∀es:List (ByteArray×ByteArray),(es.all (fun e=>inB low g e.1)&&iQ es)=(List.range es.length).all (kOk (es.map (fun x=>x.1)) low g):=fun es=>by
 rw[Bool.eq_iff_iff,wz,qg,x9,x9];have f:∀m(k:m<es.length),(es.map (fun x=>x.1)).getD m (strOfNums [])=(es[m]).1:=fun m k=>by simp[List.getD,k]
 constructor
 ·rintro⟨c,l⟩ m h;have i:=wS.1 h;unfold kOk;rw[wz];refine⟨by rw[f m i];exact c _ (yb _),?_⟩;cases m with
  |zero=>rfl
  |succ m=>
   rw[Nat.add_sub_cancel,f m t7,f (m+1) i];have:=List.pairwise_iff_getElem.1 l m (m+1) (by simp;omega) (by simp;omega) t7;simpa using this
 ·intro k;refine⟨fun e p=> ?_,?_⟩
  ·obtain⟨m,h,rfl⟩:=List.getElem_of_mem p;have:=k m (wS.2 h);unfold kOk at this;rw[wz,f m h]at this;exact this.1
  ·have step:=fun m c=>by
    have:=k (m+1) (wS.2 c);unfold kOk at this;rw[wz,Nat.add_sub_cancel,f m t7,f (m+1) c]at this;simpa using this.2
   have j:∀(d a:Nat)(c:a+d+1<es.length),sl (es[a]).1 (es[a+d+1]).1=true:=by
    intro d;induction d with
    |zero=>intro a c;exact step a c
    |succ d ih=>intro a c;exact iq (ih a t7) (step (a+d+1) t7)
   rw[List.pairwise_iff_getElem];intro a b n o q;simp only[x7]at n o;have:=j (b-a-1) a t7;have e:a+(b-a-1)+1=b:=t7;simp only[e]at this;simpa using this
theorem nY(b:ByteArray):(b.toList==([]:List UInt8))=(b.size==0):=by
 rw[ByteArray.toList_eq];obtain⟨⟨x⟩⟩:=b;cases x with
 |nil=>rfl
 |cons a x=>simp[ByteArray.size]
theorem gx{B w w'}(a:Below B w w')(n):Below B w (w'.drewN n):=⟨a.os,a.tape,a.output,a.size,a.block⟩
theorem qV{B0 g sb N rt w ns nv na nc seen tall bad}(k:TSt B0 g sb N rt w ns nv na nc seen tall bad){p K}(h:ns[p]?=some K):
 ∃b,na=some ⟨b,0,none⟩/\(∀j v,(ndc (nv p) K)[j]?=some v->w.cell? ⟨b,p*6+j,none⟩=some v)/\ONd 0 w (nv p) K/\p<ns.length:=by
 have a:=(wb.1 h).1;have f:IsRow 6 (cd nv ns) ns.length:=⟨fun _ _=>rfl,fun i _=>eo _ _⟩;have R:=k.nodes.reads f;have d:ns.getD p nd0=K:=by rw[List.getD,h];rfl
 rcases k.nodes.2 with⟨_,o⟩|⟨b,m,n,e,_⟩
 ·omega
 ·simp only[DC]at e;have c:=e.1;rw[c]at R;refine⟨b,c,fun j v l=>by have:=R.cells p a j v (by unfold cd;rw[d];exact l);rwa [wg]at this,?_,a⟩;have:=k.each p a;rw[d]at this;exact this
def OrC(B0 g sb N:Nat)(rt:Int)(ns:List NdK)(nv:Nat->NdV)(na:Option Addr)(nc:Nat)(seen:List Int)(tall:Int)(bad:Bool)(t:Tr):Prop:= ∀(p:Int)(low high:ByteArray)(w:World),TSt B0 g sb N rt w ns nv na nc seen tall bad->Rep ns t true [p] []->
 Calls prog 110 #[.pointer (some ⟨g,0,none⟩),.int .i64 p,.string low,.string high] w fun e w'=>e= .returned (.bool (okT t true low high))/\Below w.1.size w w'
theorem DF{B0 g sb N rt ns nv na nc seen tall bad}(id es)(aA:es.length<=1048576)(a9:ns.length<=1048576):OrC B0 g sb N rt ns nv na nc seen tall bad (.leaf id es):=by
 intro p low a w Z aT;rw[Rep]at aT;obtain⟨q,a7,an⟩:=aT;cases a7;have Q:Hid (okT (.leaf id es) true low a=(List.range es.length).all (kOk (es.map (fun x=>x.1)) low a)):=by
  show okT _ _ _ _= _;rw[okT];exact DE low a es
 generalize okT (.leaf id es) true low a=V at*;obtain⟨b,rfl,A,ap,ba⟩:=qV Z an;have ad:w.cell? ⟨g,0,none⟩=some (.slice (some ⟨b,0,none⟩) ns.length nc):=Z.blk.cell 0;generalize R:es.map (fun x=>x.1)=ks at*;have D:Hid (ks.length=es.length):=by show ks.length=es.length;rw[<-R,x7]
 have a6:ks.length<=1048576:=by rw[D.out];exact aA
 generalize es.map (fun x=>x.2)=a3 at*;generalize F:(⟨id,true,ks,a3,[],[]⟩:NdK)=K at*;have P:K.keys=ks:=by rw[<-F]
 have O:K.kids=[]:=by rw[<-F]
 have Y:=bAl w (.cells (ndc (nv q) K).toArray 176);have a1:=aq w 176 (ndc (nv q) K).toArray;have ab:=ap.below Y;have a2:(prog.info? 176).map (·.size)=some (ndc (nv q) K).length:=aD;go_enter func110,ntmps110;go_upto_region 2 with(first|(refine dG rfl 176 _ rfl b (q*6) rfl (ndc (nv q) K) _ A underlying176 rfl a2 ?_)|(refine bt rfl 176 _ _ rfl w (ndc aF nd0).toArray (ndc (nv q) K).toArray 176 rfl rfl aD rfl (cy _ _) ?_))
 change Code.wp _ _ _ _ (w.alloc (.cells (ndc (nv q) K).toArray 176));generalize w.alloc (.cells (ndc (nv q) K).toArray 176)=ac at*;have U:Blk ac 176 w.1.size (ndc (nv q) K):=a1;have a5:Hid (∀u,Below ac.1.size ac u->u.cell? ⟨w.1.size,2,none⟩=some (.slice (nv q).ka ks.length (nv q).kc)/\u.cell? ⟨w.1.size,4,none⟩=some (.slice (nv q).da 0 (nv q).dc)/\Own1 9 0 u (nv q).ka ks.length (nv q).kc (os ks)):=fun u aX=>by
  have h:=U.below aX;have C:=(ab.below aX).keys;have W:u.cell? ⟨w.1.size,2,none⟩=some (.slice (nv q).ka K.keys.length (nv q).kc):=h.cell 2;have L:u.cell? ⟨w.1.size,4,none⟩=some (.slice (nv q).da K.kids.length (nv q).dc):=h.cell 4;rw[P]at C W;rw[O]at L;exact⟨W,L,C⟩
 have r:Hid _:=Y;clear a1 U ab ap Y A ad Z an F P O a2 R;generalize (nv q).ka=bk at*;generalize (nv q).kc=bm at*;generalize (nv q).da=bc at*;generalize (nv q).dc=bd at*;go_wp2_with fail;go_loopw [10] (fun x wr=> ∃j:Nat,x= .int .i64 (j:Nat)/\j<=ks.length/\Below ac.1.size ac wr/\∀m,m<j->kOk ks low a m=true) (fun x _=>ks.length-(intOf x).toNat)
 case atStart=>exact⟨0,rfl,u6 _,t2,fun m z=>absurd z (w8 _)⟩
 case round=>
  obtain⟨j,rfl,bg,H,G⟩:=hrel;obtain⟨a4,a0⟩:=aa wr;subst a0;obtain⟨W,L,C⟩:=a5.out a4 H;have l:Hid _:=H;have t:Hid _:=G;clear H G;by_cases S:j<ks.length
  ·have X:(j:Int)< (ks.length:Int):=t7;obtain⟨bl,rfl,_,_,_,J⟩:=C.at_ t7;have bb:=(J j S).trans (B8 some (eh ks j S));have M:Hid _:=J;clear J C L;have k:Hid (kOk ks low a j=false->V=false):=fun bf=>by
    rw[Q.out];rw[List.all_eq_false];exact⟨j,wS.2 (by have:=D.out;omega),by rw[bf];decide⟩
   have c:Hid (kOk ks low a j=(inB low a (ks.getD j (strOfNums []))&&(j==0||sl (ks.getD (j-1) (strOfNums [])) (ks.getD j (strOfNums []))))):=rfl;generalize a8:ks.getD j (strOfNums [])=h at*;cases hA:sl h low with
   |true=>
    have af:Op.bytesLess h.toList low.toList=true:=hA;have f:=k.out (by rw[c.out];simp[inB,sle,hA]);clear hA;go_upto_region 5 with fail
    go_quiet (fail)
    go_wp2_with fail;go_ret;exact⟨by rw[f];rfl,r.out.trans ((gx l.out _).mono r.out.size)⟩
   |false=>
    have af:Op.bytesLess h.toList low.toList=false:=hA;have o:sle low h=true:=by unfold sle;rw[hA];rfl
    clear hA;cases y:(a.size==0)with
    |true=>
     have ak:(a.toList==([]:List UInt8))=true:=by rw[nY];exact y
     have i:inB low a h=true:=by simp[inB,o,y]
     clear y o;by_cases I:j=0
     ·subst I;have d:kOk ks low a 0=true:=by rw[c.out];simp[i]
      have v:Hid _:=d;clear k c d i;go_upto_region 5 with fail
      go_quiet (fail)
      go_wp2_with fail;go_roundw
      case rel=>exact⟨1,rfl,t7,gx l.out _,fun m z=>(show m=0 by omega)▸v.out⟩
      case measure=>simp[intOf];omega
     ·obtain⟨s,rfl⟩:∃s,j=s+1:=⟨j-1,t7⟩;have ae:=(M.out s t7).trans (B8 some (eh ks s t7));have am:s<ks.length:=t7;rw[Nat.add_sub_cancel]at c;generalize aS:ks.getD s (strOfNums [])=k0 at*;cases n:sl k0 h with
      |false=>
       have E:Op.bytesLess k0.toList h.toList=false:=n;have f:=k.out (by rw[c.out,n];simp);clear n k c i;go_upto_region 5 with fail
       go_quiet (fail)
       go_wp2_with fail;go_ret;exact⟨by rw[f];rfl,r.out.trans ((gx l.out _).mono r.out.size)⟩
      |true=>
       have E:Op.bytesLess k0.toList h.toList=true:=n;have d:kOk ks low a (s+1)=true:=by rw[c.out,n,i];simp
       have v:Hid _:=d;clear n k c i d;go_upto_region 5 with fail
       go_quiet (fail)
       go_wp2_with fail;go_roundw
       case rel=>exact⟨s+1+1,by go_num,t7,gx l.out _,fun m z=>by
        by_cases e:m=s+1
        ·subst e;exact v.out
        ·exact t.out m t7⟩
       case measure=>simp[intOf];omega
    |false=>
     have ak:(a.toList==([]:List UInt8))=false:=by rw[nY];exact y
     cases B:sl h a with
     |false=>
      have ag:Op.bytesLess h.toList a.toList=false:=B;have f:=k.out (by rw[c.out];simp[inB,B,y]);clear B y k c o;go_upto_region 5 with fail
      go_quiet (fail)
      go_wp2_with fail;go_ret;exact⟨by rw[f];rfl,r.out.trans ((gx l.out _).mono r.out.size)⟩
     |true=>
      have ag:Op.bytesLess h.toList a.toList=true:=B;have i:inB low a h=true:=by simp[inB,o,B]
      clear y B o;by_cases I:j=0
      ·subst I;have d:kOk ks low a 0=true:=by rw[c.out];simp[i]
       have v:Hid _:=d;clear k c d i;go_upto_region 5 with fail
       go_quiet (fail)
       go_wp2_with fail;go_roundw
       case rel=>exact⟨1,rfl,t7,gx l.out _,fun m z=>(show m=0 by omega)▸v.out⟩
       case measure=>simp[intOf];omega
      ·obtain⟨s,rfl⟩:∃s,j=s+1:=⟨j-1,t7⟩;have ae:=(M.out s t7).trans (B8 some (eh ks s t7));have am:s<ks.length:=t7;rw[Nat.add_sub_cancel]at c;generalize aS:ks.getD s (strOfNums [])=k0 at*;cases n:sl k0 h with
       |false=>
        have E:Op.bytesLess k0.toList h.toList=false:=n;have f:=k.out (by rw[c.out,n];simp);clear n k c i;go_upto_region 5 with fail
        go_quiet (fail)
        go_wp2_with fail;go_ret;exact⟨by rw[f];rfl,r.out.trans ((gx l.out _).mono r.out.size)⟩
       |true=>
        have E:Op.bytesLess k0.toList h.toList=true:=n;have d:kOk ks low a (s+1)=true:=by rw[c.out,n,i];simp
        have v:Hid _:=d;clear n k c i d;go_upto_region 5 with fail
        go_quiet (fail)
        go_wp2_with fail;go_roundw
        case rel=>exact⟨s+1+1,by go_num,t7,gx l.out _,fun m z=>by
         by_cases e:m=s+1
         ·subst e;exact v.out
         ·exact t.out m t7⟩
        case measure=>simp[intOf];omega
  ·have aB:j=ks.length:=t7;have X:¬(j:Int)< (ks.length:Int):=t7;have f:V=true:=by
    rw[Q.out,x9];intro m z;exact t.out m (by have:=wS.1 z;have:=D.out;omega)
   clear C aB;go_wp2_with fail;go_loopw [11] (fun x wr=>x= .int .i64 0/\wr=a4) (fun _ _=>0)
   case atStart=>exact⟨rfl,rfl⟩
   case round=>
    obtain⟨rfl,T⟩:=hrel;obtain rfl:=T.symm;clear T;go_wp2_with fail;go_ret;exact⟨by rw[f];rfl,r.out.trans (l.out.mono r.out.size)⟩
