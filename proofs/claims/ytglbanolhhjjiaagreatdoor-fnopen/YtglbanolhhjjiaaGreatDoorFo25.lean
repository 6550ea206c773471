import Derived.Test.YtglbanolhhjjiaaGreatDoorFo24
import Derived.Lib.AppendZeros
import Derived.Shelf.SortM.Plain
import Derived.Shelf.SortM.SortNone
import Derived.Sort.OwnSortedInts
namespace Go.Proofs.YtglbanolhhjjiaaGreatDoor
open Go.Proofs.Tryz
open Go.RowKit
set_option linter.unusedVariables false
set_option maxRecDepth 100000
set_option maxHeartbeats 32000000
section
theorem EX{t:Nat}{Z w w'}(b:OnlyS Z w w')(c:∀k,Z k->∀cs fr,w.heap[k]?≠some (.cells cs t fr)):KeepT t w w':=
 ⟨b.size,fun k cs fr a=>by
  rw[b.block k (vR.1 a).1 (fun e=>c k e cs fr a)];exact a⟩
theorem Blk.notT{w t g a xs}(c:Blk w t g xs)(b:t≠a):∀cs fr,w.heap[g]?≠some (.cells cs a fr):=by
 intro cs fr e;unfold Blk at c;rw[c]at e;cases e;exact b rfl
theorem SetI.putd{w w':World}{m seen id}{D:DataW Nat}(b:w.ownsMap prog 3 unitElem m seen.length D)(c:∀i:Int,Maps.has D (.int .i64 i)=seen.contains i)(d:w'.ownsMap prog 3 unitElem m (seen.length+1) (D.put (.int .i64 id) (.agg []))):SetI w' m (id::seen):=
 ⟨_,d,fun i=>by
  by_cases a:i=id
  ·subst a;rw[Maps.has_put_same b.isMap (by trivial)];simp
  ·rw[Maps.has_put_other (by intro e;cases e;exact a rfl),c];simp[a]⟩
theorem EY(w):(zeroValue 220).run prog w= .ok (.agg #[]) w:=uA
theorem xl:Maps.Keyed prog 3:=Maps.int_keyed CH
theorem xm(id):prog.built 225 [(0,.int .i64 id)]=some #[.int .i64 id]:=uA
theorem xn{P f steps a x id l}(b:dQ P a id=true)(d:P.kd id≠2)(c:P.bd id=l):wkT P (f+1) (steps:Nat) a x id=((inP l).bind fun ls=>wkK (wkT P f ((steps+1:Nat):Int)) ls true ⟨id::a.seen,a.tall⟩ x).map fun y=>(.node id y.1,y.2.1,y.2.2):=by
 rw[AM b d,c];cases inP l with
 |none=>rfl
 |some ls=>rfl
theorem xp(a n c):prog.built 192 [(0,.slice a n c)]=some #[.slice a n c]:=uA
theorem EZ(id a n c):prog.built 263 [(0,.agg #[.int .i64 id]),(1,.slice a n c)]=some #[.int .i64 id,.slice a n c]:=uA
theorem E6(id a n c):prog.built 228 [(0,.agg #[.int .i64 id]),(1,.slice a n c)]=some #[.int .i64 id,.slice a n c]:=uA
theorem Bs.blt{w a n c l}(k:Bs w a n c l):∀b d,0<n->a=some ⟨b,d,none⟩->b<w.1.size:=by
 intro b d h e;obtain⟨j,i,f,g,_⟩:=k.at_ h;rw[f]at e;cases e;exact g
variable {S:World->Prop} {X:Nat->Prop} {B0 g m N ty fn:Nat} {src v:Value} {P:Pg} {st:St} {x z:LSg} {w w':World}
theorem Wk.srcPut(d:Src P B0 ty fn v S X)(a:Wk S B0 g m N src w st x)(b:w.grownBy w' (some m)):S w':=by
 obtain⟨es,c,f⟩:=a.set.obj;have h:=OnlyS.ofGrown b;exact d.keep w w' a.src (h.below (by have:=a.blk.lt;have:=a.gB;omega) (fun k e=>by cases e;exact a.mB)) (xh b f)
theorem Wk.wrote(i:Src P B0 ty fn v S X)(a:Wk S B0 g m N src w st x){b t xs}(c:OnlyS (fun k=>k=g\/k=b) w w')(h:Blk w t b xs)(l:t≠5)(d:B0<=b)(f:b≠m)(j:Blk w' 234 g (wkc src m st.tall z)):Wk S B0 g m N src w' st z:=
 ⟨j,a.set.same (c.block m a.set.lt (fun e=>by rcases e with e|e;exact a.gm e.symm;exact f e.symm)),i.keep w w' a.src (c.below (by have:=a.blk.lt;have:=a.gB;omega) (fun k e=>by rcases e with rfl|rfl;exact a.gB;exact d)) (EX c (fun k e=>by rcases e with rfl|rfl;exact a.blk.notT uv;exact h.notT l)),a.gB,a.mB,a.ok⟩
theorem E7(bu:PgW P N)(o:Src P B0 ty fn v S X)(f)(cf:NdC P S X B0 g m N (.iface ty v) f):NdC P S X B0 g m N (.iface ty v) (f+1):=by
 intro steps id a x w b c0 c2 b8 T;have cz:=b.ok.le;have ch:=bu.le;have c1:=b.blk.lt;have cA:=b.set.lt;have b5:=b.gm;have cs:=b.gB;obtain⟨D,bz,am⟩:=b.set;have a0:=am id;have L:keyOf prog 3 (.int .i64 id)=some (.int .i64 id):=Maps.keyOf_int_mk CH (by have cV:IntKind.i64.min= -9223372036854775808:=rfl;have cW:IntKind.i64.max=9223372036854775807:=rfl;simp only[Lit.wf,wz,DB];omega);have bx:w.cell? ⟨g,1,none⟩=some (.map (some m)):=b.blk.cell 1;have cR:Hid (Wk S B0 g m N (.iface ty v) w a x):=b;have bf:Hid _:=am;have bc:=bAl w (.cells #[] 220);have ae:=b.below o bc;have U:=bz.alloc (.cells #[] 220);have C:Hid (∀w',OnlyS (fun k=>X k\/k=g\/k=m) w w'->dQ P a id=false->NdP P S X B0 g m N (.iface ty v) (f+1) steps a x id w (.panicked bI) w'):=fun w' cn E=>⟨cn,u4 ⟨AK E,rfl⟩⟩;have bC:Hid (Maps.has D (.int .i64 id)=a.seen.contains id):=a0;clear b am a0;go_enter func144,ntmps144;go_upto_region 2 with(first|(at_lookup;refine wpList_lookup_own_unit _ rfl _ _ 232 rfl 3 220 xl underlying232 (EY _) m _ D rfl bz _ _ rfl L ?_)|fail)
 change Code.wp _ _ _ _ (w.alloc (.cells #[] 220));have bE:Hid _:=bc;have cL:w.1.size<=(w.alloc (.cells #[] 220)).1.size:=bc.size;generalize w.alloc (.cells #[] 220)=bv at*;have y:SetI bv m a.seen:=⟨D,U,bf.out⟩;have bd:OnlyS (fun k=>X k\/k=g\/k=m) w bv:=OnlyS.ofBelow bE.out;clear bz bx bc;generalize Maps.has D (.int .i64 id)=cg at*;cases cg with
 |true=>
  have E:dQ P a id=false:=by
   rw[<-w6,fO];intro G;exact G.2.2.1 (w5.1 bC.out.symm)
  clear U ae y;go_wp2_with fail
  all_goals (refine(fi _).mono ?_;rintro e w' ⟨rfl,rfl⟩;go_wp2;exact⟨rfl,C.out _ bd E⟩)
 |false=>
  have aT:id∉a.seen:=fun G=>by have:=bC.out;rw[w5.2 G]at this;cases this
  by_cases a9:2<=id
  ·have bx:bv.cell? ⟨g,1,none⟩=some (.map (some m)):=ae.blk.cell 1;have Q:=t6 ae y;have bn:a.seen.length<maxLen:=by unfold maxLen;omega
   clear ae y;go_wp2_with fail;refine(ez _).mono ?_;rintro e w' ⟨rfl,rfl⟩;go_upto_region 4 with(first|(at_mapUpdate;refine wpList_mapUpdate_own _ rfl _ _ _ 232 rfl 3 220 xl underlying232 (unitElem (H:=Nat)) m _ D rfl U bn _ _ _ rfl rfl L _ [] unitElem_mk ?_;intro a6 bB ak)|fail)
   have bW:=Q.out.1.srcPut o ak;have a3:=SetI.putd U bf.out bB;have ca:OnlyS (fun k=>X k\/k=g\/k=m) w a6:=bd.transN (OnlyS.ofGrown ak) (fun k _ e=>by cases e;exact u4 (u4 rfl));have bs:=Q.out.1.blk.onlyS (OnlyS.ofGrown ak) (fun e=>by cases e;exact b5 rfl);have cT:a6.cell? ⟨g,0,none⟩=some (.iface ty v):=bs.cell 0;have bT:=o.page a6 id bW b8 T;have cm:=o.meth;have cj:=o.ent;have ac:=t6 a3 (u2 ca ak);clear a3 ca ak bs bx bB U L bn bW bd;go_wp2_with fail;refine bT.mono ?_;clear bT;rintro e c ⟨cb,ba,⟨aX,ab,j,rfl,ap⟩|⟨s,c3,ab,nb,j,cS,rfl⟩⟩
   rotate_left
   ·have E:dQ P a id=false:=by
     rw[<-w6,fO,s];intro G;exact absurd G.1 uv
    have J:OnlyS (fun k=>X k\/k=g\/k=m) w c:=ac.out.2.1.transN ba (fun k _ e=>u5 e);go_wp2_with fail;refine(fi _).mono ?_;rintro e w' ⟨rfl,rfl⟩;go_wp2;exact⟨rfl,C.out _ J E⟩
   ·obtain⟨cv,b6⟩:=bu.ok id aX;have bP:Wk S B0 g m N (.iface ty v) a6 ⟨id::a.seen,a.tall⟩ x:=Q.out.1.see o t7 b6 aT ac.out.1 ac.out.2.2;have a5:=bP.ofPage cb ba o.low;have J:OnlyS (fun k=>X k\/k=g\/k=m) w c:=ac.out.2.1.transN ba (fun k _ e=>u5 e);have an:=bu.len id;have bY:c.cell? ⟨g,2,none⟩=some (.int .i64 a.tall):=a5.blk.cell 2;have bZ:=a5.blk.free 2;have cM:=J.size;generalize b7:P.bd id=l at ap an ⊢;generalize bk:P.kd id=kd at ⊢;have a4:Hid (P.bd id=l):=b7;have q:Hid (P.kd id=kd):=bk;have d:=t6 a5 (u2 ap J);clear b7 bk a5 ap J bP Q ac ba cb;by_cases aA:kd=2
    ·subst aA;have I:Hid (dQ P a id=true):=fO.2 ⟨aX,a9,aT,u5 q.out⟩;by_cases F:a.tall<0\/a.tall=(steps:Nat)
     ·have bF:Hid _:=F;rcases F with a1|br
      rotate_left
      have a1:¬a.tall<0:=t7
      all_goals
       go_wp2_with fail;refine(ez _).mono ?_;rintro e w' ⟨rfl,b⟩;obtain rfl:=b.symm;clear b;go_wp2_with fail;refine(ez _).mono ?_;rintro e w' ⟨rfl,b⟩;obtain rfl:=b.symm;clear b;have bb:=ax c g 2 (.int .i64 (steps:Nat));have bR:Wk S B0 g m N (.iface ty v) (c.setCell ⟨g,2,none⟩ (.int .i64 (steps:Nat))) ⟨id::a.seen,(steps:Nat)⟩ x:=d.out.1.put o bb (d.out.1.blk.set 2 _) rfl;have ce:=d.out.2.1.keep (aw bb d.out.1.blk uv);have bA:=d.out.2.2.transN (OnlyS.ofB bb) (fun k _ e=>u4 (u5 e));have cP:=bA.size;have V:=t6 bR (u2 ce bA);clear bR ce bA bb d;go_upto_region 9 with fail
       generalize c.setCell ⟨g,2,none⟩ (.int .i64 (steps:Nat))=K at*;clear bY bZ;have z:=bAl K (.cells #[.slice ab l.length j] 192);have W:=V.out.1.below o z;have Z:=aq K 192 #[.slice ab l.length j];have r:Cur (K.alloc (.cells #[.slice ab l.length j] 192)) K.1.size K.1.size l:=⟨ab,l.length,j,⟨Z,V.out.2.1.bs.below z,V.out.2.1.bs.blt⟩⟩;have bX:=Es g K.1.size K.1.size l (.iface ty v) m (steps:Nat) x _ W.blk r z.size an t7;have b2:=xm id;have b3:=xp ab l.length j;have b4:=EZ id;have ad:=t6 W (u2 Z z);clear W Z r z;go_wp2_with fail;refine bX.mono ?_;clear bX;rintro e h ⟨A,⟨es,Y,a7,cp,aS,rfl,hrow,R⟩|⟨s,rfl⟩⟩
       rotate_left
       ·have p:OnlyS (fun k=>X k\/k=g\/k=m) w h:=(V.out.2.2.trans (OnlyS.ofBelow ad.out.2.2)).transN A (fun k n e=>by rcases e with e|e;exact u4 (u5 e);omega);have i:Hid (NdP P S X B0 g m N (.iface ty v) (f+1) steps a x id w (.panicked bI) h):=⟨p,u4 ⟨by rw[ud I.out q.out bF.out,a4.out,s];rfl,rfl⟩⟩;clear A s p;go_wp2;exact⟨rfl,i.out⟩
       have af:=ad.out.1.wrote o A ad.out.2.1 uv t7 t7 R;have p:OnlyS (fun k=>X k\/k=g\/k=m) w h:=(V.out.2.2.trans (OnlyS.ofBelow ad.out.2.2)).transN A (fun k n e=>by rcases e with e|e;exact u4 (u5 e);omega);have B:=bAl h (.cells #[.int .i64 id,.slice Y es.length a7] 263);have a2:=aq h 263 #[.int .i64 id,.slice Y es.length a7];have b9:=p.size;have u:=cE hrow;have i:Hid (NdP P S X B0 g m N (.iface ty v) (f+1) steps a x id w (.returned (lfI h.1.size)) (h.alloc (.cells #[.int .i64 id,.slice Y es.length a7] 263))):=by
        refine⟨p.trans (OnlyS.ofBelow B),u5 ⟨.leaf id es,⟨id::a.seen,(steps:Nat)⟩,cp,h.1.size::rb Y,_,_,by rw[ud I.out q.out bF.out,a4.out,aS];rfl,rfl,?_,?_,?_,af.below o B,uB⟩⟩
        ·rw[IRep];exact⟨h.1.size,Y,a7,rfl,rfl,a2,(hrow.below B).mono (u6 _)⟩
        ·rw[y1];exact⟨fun M=>by have:=(u _ M).2;omega,by cases Y<;>simp[rb]⟩
        ·intro k n;rcases wA.1 n with rfl|n
         ·omega
         ·have b0:=(u k n).1;have a9:=V.out.2.2.size;have cX:=ad.out.2.2.size;omega
       clear af p B a2 u A hrow R aS;go_wp2_with fail;go_ret;exact i.out
     ·have a1:¬a.tall<0:=fun G=>F (u5 G);have br:¬a.tall=(steps:Nat):=fun G=>F (u4 G);clear F;have cD:(a.tall==(steps:Nat))=false:=by simp[br]
      have i:Hid (NdP P S X B0 g m N (.iface ty v) (f+1) steps a x id w (.panicked bI) c):=⟨d.out.2.2,u4 ⟨AL q.out t7,rfl⟩⟩;go_wp2_with fail;refine(ez _).mono ?_;rintro e w' ⟨rfl,b⟩;obtain rfl:=b.symm;clear b;go_wp2_with fail;rw[show decide (a.tall<0)=false by simp[a1]];refine(fi _).mono ?_;rintro e w' ⟨rfl,b⟩;obtain rfl:=b.symm;clear b;go_wp2;exact⟨rfl,i.out⟩
    ·have ck:(kd==2)=false:=by simp[aA]
     by_cases aB:kd=3
     ·subst aB;have I:Hid (dQ P a id=true):=fO.2 ⟨aX,a9,aT,u4 q.out⟩;have z:=bAl c (.cells #[.slice ab l.length j] 192);have W:=d.out.1.below o z;have Z:=aq c 192 #[.slice ab l.length j];have r:Cur (c.alloc (.cells #[.slice ab l.length j] 192)) c.1.size c.1.size l:=⟨ab,l.length,j,⟨Z,d.out.2.1.bs.below z,d.out.2.1.bs.blt⟩⟩;have bS:Calls prog 167 #[.pointer (some ⟨g,0,none⟩),.pointer (some ⟨c.1.size,0,none⟩),.int .i64 ((steps:Int)+1)] (c.alloc (.cells #[.slice ab l.length j] 192)) (KdP P S X B0 g m N (.iface ty v) f (steps+1) l ⟨id::a.seen,a.tall⟩ x c.1.size (c.alloc (.cells #[.slice ab l.length j] 192))):=
       EW P B0 ty fn v S X o g m N (.iface ty v) f cf (steps+1) l c.1.size c.1.size ⟨id::a.seen,a.tall⟩ x _ W r z.size an t7 t7 t7 (by simp only[wQ];omega) (by simp only[wQ];omega)
      have b2:=xm id;have b3:=xp ab l.length j;have b4:=E6 id;have bg:Hid _:=z;have cB:(steps:Int)+1<=1025:=t7;have cq:Hid ((c.alloc (.cells #[.slice ab l.length j] 192)).1.size=c.1.size+1):=by show(c.alloc (.cells #[.slice ab l.length j] 192)).1.size=c.1.size+1;simp
      clear W Z r z bY bZ;go_wp2_with fail;refine(ez _).mono ?_;rintro e w' ⟨rfl,b⟩;obtain rfl:=b.symm;clear b;go_wp2_with fail;refine bS.mono ?_;clear bS;rintro e h ⟨A,⟨t,cc,cp,cr,us,ag,a8,bl,rfl,hrow,O,bm,T,af,y⟩|⟨s,rfl⟩⟩
      rotate_left
      ·have p:OnlyS (fun k=>X k\/k=g\/k=m) w h:=(d.out.2.2.trans (OnlyS.ofBelow bg.out)).transN A (fun k n e=>by rcases e with e|e|e|e;exact u5 e;exact u4 (u5 e);exact u4 (u4 e);omega);have i:Hid (NdP P S X B0 g m N (.iface ty v) (f+1) steps a x id w (.panicked bI) h):=⟨p,u4 ⟨(xn I.out (by rw[q.out];decide) a4.out).trans (by rw[s];rfl),rfl⟩⟩;clear A s p;go_wp2;exact⟨rfl,i.out⟩
      have p:OnlyS (fun k=>X k\/k=g\/k=m) w h:=(d.out.2.2.trans (OnlyS.ofBelow bg.out)).transN A (fun k n e=>by rcases e with e|e|e|e;exact u5 e;exact u4 (u5 e);exact u4 (u4 e);omega);have B:=bAl h (.cells #[.int .i64 id,.slice ag us.length a8] 228);have a2:=aq h 228 #[.int .i64 id,.slice ag us.length a8];have b9:=p.size;have u:=cE hrow;have i:Hid (NdP P S X B0 g m N (.iface ty v) (f+1) steps a x id w (.returned (inI h.1.size)) (h.alloc (.cells #[.int .i64 id,.slice ag us.length a8] 228))):=by
       refine⟨p.trans (OnlyS.ofBelow B),u5 ⟨.node id t,cc,cp,h.1.size::(rb ag++cr),_,_,(xn I.out (by rw[q.out];decide) a4.out).trans (by rw[bl];rfl),rfl,?_,?_,?_,af.below o B,by have b1:=y;simp only[wQ]at b1;omega⟩⟩
       ·rw[IRep];exact⟨h.1.size,ag,a8,us,cr,rfl,rfl,a2,(hrow.below B).mono (u6 _),O.below B⟩
       ·rw[y1];refine⟨fun M=> ?_,bm⟩;rcases wE.1 M with M|M
        ·have:=(u _ M).2;omega
        ·have:=O.lt _ M;omega
       ·intro k n;have b1:=cq.out;rcases wA.1 n with rfl|n
        ·omega
        ·rcases wE.1 n with n|n
         ·have b0:=(u k n).1;omega
         ·have b0:=T k n;omega
      clear af p B a2 u A hrow bl O bm T y;go_wp2_with fail;go_ret;exact i.out
     ·have cl:(kd==3)=false:=by simp[aB]
      have E:dQ P a id=false:=by
       rw[<-w6,fO,q.out];intro G;rcases G.2.2.2 with G|G;exact aA G;exact aB G
      have i:Hid (NdP P S X B0 g m N (.iface ty v) (f+1) steps a x id w (.panicked bI) c):=C.out _ d.out.2.2 E;go_wp2_with fail;refine(fi _).mono ?_;rintro e w' ⟨rfl,b⟩;obtain rfl:=b.symm;clear b;go_wp2;exact⟨rfl,i.out⟩
  ·have E:dQ P a id=false:=by
    rw[<-w6,fO];intro G;exact a9 G.2.1
   clear U ae y;go_wp2_with fail;refine(fi _).mono ?_;rintro e w' ⟨rfl,rfl⟩;go_wp2;exact⟨rfl,C.out _ bd E⟩
theorem xq(b:PgW P N)(a:Src P B0 ty fn v S X):∀f:Nat,NdC P S X B0 g m N (.iface ty v) f
 |0=>fun steps id e x w d c _ _ _=>absurd c (by have:=d.ok.le;omega)
 |f+1=>E7 b a f (xq b a f)
end
theorem xt:(prog.info? 3).map (fun i=>(i.zero,i.size,i.bytes))=some (some (.int .i64 0),1,8):=uA
theorem E9(l):∀u∈on l,u.oneCell'=true:=ints_oneCell .i64 l
theorem Own1.belowW{e w w' a n c xs}(d:Own1 e 0 w a n c xs)(b:Below w.1.size w w'):Own1 e 0 w' a n c xs:=d.below b
theorem Fa{w z rest o h V}(v:o.guard=none)(s x)(K:o.op= .call {callee:= .builtin .append,args:=#[s,x],argTypes:=#[100,100]})(B a n c xs)(L:h.eval s= .slice a n c)(f:Own1 3 B w a n c (on xs))(b m d l)(hx:h.eval x= .slice b m d)(C:Own1 3 0 w b m d (on l))(S:n+m<=1048576)(G:B<=w.1.size)(W:∀p q w',Own1 3 B w' p (n+m) q (on (xs++l))->Below B w w'->w.grownBy w' (Value.slice a n c).ownBlock->wpList prog z V rest (h.put o.dst (.slice p (n+m) q)) w'):wpList prog z V (o::rest) h w:=by
 obtain⟨i,H,M,N,O⟩:=CT xt;have y:l.length=m:=by have:=C.len;rwa [lP]at this
 cases b with
 |none=>
  have T:m=0/\d=0:=by
   rcases C.2 with⟨A,F⟩|⟨g,D,E,A,_⟩
   ·cases A;exact⟨rfl,rfl⟩
   ·cases A
  obtain⟨rfl,rfl⟩:=T;have J:=x8 y;subst J;refine wpList_append_own_none v s x _ K B 3 i 1 underlying100 H _ n (on xs) L f hx ?_;exact W a c w (by simpa using f) t2 ⟨rfl,rfl,rfl,t1,fun _ _ _=>rfl⟩
 |some P=>
  refine wpList_append_own w v s x _ K B 3 i _ 1 8 underlying100 H M N O rfl t7 _ n (on xs) L f P m d (on l) hx (by rw[lP,y];omega) ?_ (E9 l) (by unfold maxLen;omega) t7 G ?_
  ·intro j u I;have X:j<l.length:=by have:=(wb.1 I).1;rwa [lP]at this
   obtain⟨g,e,_,_,_,Q⟩:=C.at_ t7;cases e;rw[CR,wg,Q j t7];rw[List.getD,I]
   rfl
  ·intro v' w' r t _;rw[fv]at r;have U:∃p q,v'= .slice p (n+m) q:=by
    rcases r.2 with⟨rfl,F⟩|⟨g,D,E,rfl,_⟩
    ·exact⟨none,0,by rw[F]⟩
    ·exact⟨_,_,rfl⟩
   obtain⟨p,q,rfl⟩:=U;exact W p q w' r (t2.grown t G (fun k R=>(BS f k R).1)) t
theorem Fb(n:Nat)(w)(p:n<=1048576):
 Calls prog 151 #[.slice none 0 0,.int .i64 n] w fun e w'=> ∃a c,e= .returned (.slice a 0 c)/\Below w.1.size w w'/\Own1 3 w.1.size w' a 0 c []:=by
 by_cases g:0<n
 ·obtain⟨i,h,d,o,f⟩:=CT xt;have j:=fun k l=>Lib.run_append_nil_zeros (P:=prog) l 100 3 k 3 i _ .i64 .i64 underlying100 CH h d n g t7 t7 (by rw[f];omega);go_enter func151,ntmps151;go_wp2_with (at_builtin;refine Lib.wpList_append_run _ rfl _ _ _ _ rfl _ _ rfl rfl _ _ (j _ _) ?_);go_ret;have m:=grownCap_ge w n 0 3;have b:=grownCap_le_maxLen w n 0 3 (by unfold maxLen;omega);refine⟨_,_,rfl,(bAl _ _).drew,?_⟩;refine World.ownsRow_made (size:=1) w _ _ t1 b ?_;simp[size_zeroCells];omega
 ·have e:n=0:=t7;subst e;go_enter func151,ntmps151;go_wp2;go_ret;exact⟨none,0,rfl,t2,cQ _ _ _⟩
def dg(L:Nat->List Int):Nat->List Int
 |0=>[]
 |k+1=>dg L k++L k
theorem ry(L){j k}(a:j<=k):(dg L j).length<=(dg L k).length:=by
 induction k with
 |zero=>have:j=0:=t7;subst this;exact t1
 |succ k ih=>
  by_cases e:j=k+1
  ·subst e;exact t1
  ·have:=ih t7;simp[dg];omega
theorem Fc(b g n C)(E:Nat->Option Addr)(N F:Nat->Nat)(L w)(M:b<w.1.size)(W:n<=1048576)(r:∀i,i<n->w.cell? ⟨b,g+i,none⟩=some (.slice (E i) (N i) (F i)))(s:∀i,i<n->Own1 3 0 w (E i) (N i) (F i) (on (L i)))(Q:(dg L n).length<=1048576):
 Calls prog 118 #[.slice (some ⟨b,g,none⟩) n C] w fun e w'=> ∃a c,e= .returned (.slice a (dg L n).length c)/\Below w.1.size w w'/\Own1 3 w.1.size w' a (dg L n).length c (on (dg L n)):=by
 go_enter func118,ntmps118;go_wp2
 go_loop [3,11] (fun x i=> ∃k:Nat,k<=n/\i= .int .i64 k/\x= .int .i64 ((dg L k).length:Nat)) (fun _ i=>n-(intOf i).toNat)
 case atStart=>exact⟨0,u6 _,rfl,rfl⟩
 case round=>
  obtain⟨k,O,rfl,rfl⟩:=hrel;have V:=ry L O;by_cases d:k<n
  ·have v:=r k d;have A:=s k d;have h:Hid ((dg L (k+1)).length=(dg L k).length+N k):=by
    show(dg L k++L k).length= _;rw[u7,(show(L k).length=N k by have:=A.len;rwa [lP]at this)]
   have l:=ry L (show k+1<=n from d);rw[h.out]at l;generalize (dg L k).length=S at*;generalize N k=T at*;have P:¬((S:Int)+(T:Int)<0):=t7;clear r s A;go_wp2
   go_round
   case rel=>exact⟨k+1,t7,by go_num,by rw[h.out];go_num⟩
   case measure=>simp[intOf];omega
  ·have e:k=n:=t7;subst e;go_wp2_with fail;refine(Fb (dg L k).length _ Q).mono ?_;rintro e w1 ⟨I,K,rfl,u,z⟩;go_wp2_with fail;go_loopw [6,27] (fun o i wr=> ∃j a c,j<=k/\i= .int .i64 (j:Nat)/\o= .slice a (dg L j).length c/\Below w.1.size w wr/\Own1 3 w.1.size wr a (dg L j).length c (on (dg L j))) (fun _ i _=>k-(intOf i).toNat)
   case atStart=>exact⟨0,I,K,u6 _,rfl,rfl,u,z⟩
   case round=>
    obtain⟨j,a,c,U,rfl,rfl,f,m⟩:=hrel;by_cases d:j<k
    ·have v:wr.cell? ⟨b,g+j,none⟩=some (.slice (E j) (N j) (F j)):=by rw[f.cell (p:=⟨b,g+j,none⟩) M];exact r j d
     have q:=(s j d).belowW f;have l:=ry L (show j+1<=k from d);have h:Hid ((dg L (j+1)).length=(dg L j).length+N j):=by
      show(dg L j++L j).length= _;rw[u7,(show(L j).length=N j by have:=q.len;rwa [lP]at this)]
     rw[h.out]at l;have G:Hid (dg L (j+1)=dg L j++L j):=rfl;have R:=f.size;clear r s z u;go_wp2_with (at_builtin;refine Fa rfl _ _ rfl w.1.size a _ c (dg L j) rfl ?own (E j) (N j) (F j) (L j) rfl ?bs ?len ?B ?_)
     case own=>exact m
     case bs=>exact q
     case len=>omega
     case B=>exact R
     intro H J w' y t _;have D:=f.trans t;rw[<-h.out,<-G.out]at y;rw[<-h.out];clear m f t q v;go_wp2;go_roundw
     case rel=>exact⟨j+1,H,J,t7,by go_num,rfl,D,y⟩
     case measure=>simp[intOf];omega
    ·have e:j=k:=t7;subst e;go_wp2;go_ret;exact⟨a,c,rfl,f,m⟩
theorem xu{e B w w' a n c xs}(d:Own1 e B w a n c xs)(b:∀k∈rb a,w'.heap[k]?=w.heap[k]?):Own1 e B w' a n c xs:=by
 refine⟨d.1,?_⟩;rcases d.2 with h2|⟨g,cap,cur,e1,hB,hh,r⟩
 ·exact u5 h2
 ·cases e1;exact u4 ⟨g,_,cur,rfl,hB,(b g (by simp[rb])).trans hh,r⟩
theorem ld{e B w a n c xs}(l:Own1 e B w a n c xs):∀k∈rb a,B<=k/\k<w.1.size:=by
 intro k d;rcases l.2 with⟨b,_⟩|⟨g,i,j,b,f,h,r⟩
 ·cases b;simp[rb]at d
 ·cases b;simp[rb]at d;subst d;exact⟨f,(vR.1 h).1⟩
theorem rD(l i)(a:i<l.length):(on l).getD i undef= .int .i64 (l.getD i 0):=by
 simp[on,List.getD,a]
theorem Fd(B a c l x w)(q:Own1 3 B w a l.length c (on l))(F:l.length<=1048576):
 Calls prog 168 #[.slice a l.length c,.int .i64 x] w fun e w'=> ∃i:Int,e= .returned (.int .i64 i)/\(0<=i↔x∈l)/\w'=w:=by
 have b:∀i,i<l.length->∃g,a=some ⟨g,0,none⟩/\w.cell? ⟨g,i,none⟩=some (.int .i64 (l.getD i 0)):=fun i r=>by
  obtain⟨g,e,_,_,_,b⟩:=q.at_ t7;exact⟨g,e,by rw[b i r,rD l i r]⟩
 have v:Hid _:=b;clear b q;go_enter func168,ntmps168;go_wp2
 go_loop [8] (fun s=> ∃k:Nat,k<=l.length/\s= .int .i64 (k:Nat)/\∀j,j<k->l.getD j 0≠x) (fun s=>l.length-(intOf s).toNat)
 case atStart=>exact⟨0,u6 _,rfl,fun j d=>absurd d (w8 _)⟩
 case round=>
  obtain⟨k,E,rfl,m⟩:=hrel;have f:Hid _:=m;clear m;by_cases h:k<l.length
  ·obtain⟨g,rfl,C⟩:=v.out k h;have o:Hid (l.getD k 0∈l):=by show l.getD k 0∈l;rw[List.getD,wy h];exact yb _
   generalize u:l.getD k 0=y at*;have z:Hid _:=u;clear u;by_cases p:x=y
   ·subst p;go_wp2;go_ret;exact⟨(k:Int),rfl,⟨fun _=>o.out,fun _=>by omega⟩,rfl⟩
   ·have D:(x==y)=false:=by simp[p]
    go_wp2
    go_round
    case rel=>
     refine⟨k+1,t7,by go_num,fun j d=> ?_⟩;by_cases t:j=k
     ·subst t;rw[z.out];exact fun e=>p e.symm
     ·exact f.out j t7
    case measure=>simp[intOf];omega
  ·have n:Hid (x∉l):=fun A=>by
    obtain⟨j,d,e⟩:=List.mem_iff_getElem.1 A;exact f.out j t7 (by rw[List.getD,wy d];exact e)
   go_wp2;go_ret;exact⟨-1,rfl,⟨fun q=>by omega,fun q=>absurd q n.out⟩,rfl⟩
theorem Fe(B a c l x w)(j:Own1 3 B w a l.length c (on l))(g:l.length<=1048576):
 Calls prog 146 #[.slice a l.length c,.int .i64 x] w fun e w'=>(∃i:Int,e= .returned (.bool (decide (0<=i)))/\(0<=i↔x∈l))/\w'=w:=by
 have h:=Fd B a c l x w j g;clear j;go_enter func146,ntmps146;go_wp2_with fail;refine h.mono ?_;rintro e w1 ⟨i,rfl,b,d⟩;obtain rfl:=d.symm;have f:Hid _:=b;clear h b d;go_wp2;go_ret;exact⟨⟨i,rfl,f.out⟩,rfl⟩
theorem Ff(B a c l x w)(g:Own1 3 B w a l.length c (on l))(f:l.length<=1048576):
 Calls prog 146 #[.slice a l.length c,.int .i64 x] w fun e w'=>e= .returned (.bool (l.contains x))/\w'=w:=by
 refine(Fe B a c l x w g f).mono ?_;rintro e w1 ⟨⟨i,rfl,d⟩,rfl⟩;have b:l.contains x=decide (0<=i):=by
  rw[Bool.eq_iff_iff,DB,d,w5]
 rw[b];exact⟨rfl,rfl⟩
def pgN:Tr->List Int
 | .leaf id _=>[id]
 | .node id ks=>pgN ks++[id]
 | .nil=>[]
 | .cons _ t ks=>pgN t++pgN ks
theorem lg:∀t:Tr,(pgN t).Perm (ar t)
 | .leaf _ _=>List.Perm.refl _
 | .node id ks=>by
  rw[pgN,ar];exact(List.perm_append_comm).trans ((lg ks).cons id)
 | .nil=>List.Perm.refl _
 | .cons _ t ks=>by
  rw[pgN,ar];exact(lg t).append (lg ks)
def dO(L:List (ByteArray×Tr)):List Int:=L.flatMap (fun x=>pgN x.2)
theorem rE:∀ks:Tr,isT ks=false->∀b,full ks b->pgN ks=dO (aC ks)
 | .leaf _ _,c,_,_=>by simp[isT]at c
 | .node _ _,c,_,_=>by simp[isT]at c
 | .nil,_,_,_=>by simp[pgN,dO,aC]
 | .cons s t ks,_,b,a=>by
  rw[full]at a;rw[pgN,aC,rE ks a.2.2.1 false a.2.2.2.2];simp[dO]
theorem oJ(L:List (ByteArray×Tr))(i)(a:i<L.length):dO (L.take (i+1))=dO (L.take i)++pgN (L.getD i t0).2:=by
 unfold dO;rw[xd a,List.flatMap_append];simp[List.getD,List.getElem?_eq_getElem a]
def NVal(w:World)(v:Value)(id:Int):Prop:= ∃b ys,(v=lfI b/\Blk w 263 b (.int .i64 id::ys))\/(v=inI b/\Blk w 228 b (.int .i64 id::ys))
theorem NVal.keep{w w' v id}(a:NVal w v id)(c:∀t,t≠236->KeepT t w w'):NVal w' v id:=by
 obtain⟨b,d,⟨e,a⟩|⟨e,a⟩⟩:=a
 ·exact⟨b,d,u5 ⟨e,a.keepT (c _ uv)⟩⟩
 ·exact⟨b,d,u4 ⟨e,a.keepT (c _ uv)⟩⟩
theorem xv{e s B w a n c f}(m:ORow e s B w a n c f):∀k∈rb a,∃cs,w.heap[k]?=some (.cells cs e (0,0)):=by
 intro k d;rcases m.2 with⟨b,_⟩|⟨l,h,i,b,j,g,_⟩
 ·cases b;simp[rb]at d
 ·cases b;simp[rb]at d;subst d;exact⟨_,g⟩
theorem IRep.typed{w}:∀{t:Tr}{i:List Nat}{f:List (ByteArray×Value)},IRep w t i f->∀k∈i,∃cs j,j≠236/\w.heap[k]?=some (.cells cs j (0,0))
 | .leaf id es,i,f,e=>by
  rw[IRep]at e;obtain⟨b,a,c,rfl,_,g,h⟩:=e;intro k d;rcases wA.1 d with rfl|d
  ·exact⟨_,_,uv,g⟩
  ·obtain⟨cs,e⟩:=xv h k d;exact⟨cs,_,uv,e⟩
 | .node id ks,i,f,e=>by
  rw[IRep]at e;obtain⟨b,a,c,us,G,rfl,_,g,h,n⟩:=e;intro k d;rcases wA.1 d with rfl|d
  ·exact⟨_,_,uv,g⟩
  ·rcases wE.1 d with d|d
   ·obtain⟨cs,e⟩:=xv h k d;exact⟨cs,_,uv,e⟩
   ·exact n.typed k d
 | .nil,i,f,e=>by
  rw[IRep]at e;obtain⟨rfl,_⟩:=e;intro k d;cases d
 | .cons s t ks,i,f,e=>by
  rw[IRep]at e;obtain⟨v,us,o,p,rfl,_,l,m⟩:=e;intro k d;rcases wE.1 d with d|d
  ·exact l.typed k d
  ·exact m.typed k d
theorem IRep.keepN{w w' t g d}(h:IRep w t g d)(e:∀t,t≠236->KeepT t w w'):IRep w' t g d:=
 h.keep (fun k b=>by
  obtain⟨cs,f,c,a⟩:=h.typed k b;rw[(e f c).block k cs _ a,a])
theorem IRep.kid{w}:∀(ks:Tr),isT ks=false->∀b,full ks b->∀(G:List Nat)(us:List (ByteArray×Value)),IRep w ks G us->us.length=(aC ks).length/\∀i,i<us.length->∃g,IRep w ((aC ks).getD i t0).2 g [(strOfNums [],(us.getD i k0).2)]
 | .leaf _ _,a,_,_,_,_,_=>by simp[isT]at a
 | .node _ _,a,_,_,_,_,_=>by simp[isT]at a
 | .nil,_,_,_,G,us,a=>by
  rw[IRep]at a;obtain⟨_,rfl⟩:=a;exact⟨rfl,fun i d=>absurd d (w8 _)⟩
 | .cons s t ks,_,b,c,G,us,a=>by
  rw[full]at c;rw[IRep]at a;obtain⟨v,m,e,f,_,rfl,h,j⟩:=a;obtain⟨l,k⟩:=IRep.kid ks c.2.2.1 false c.2.2.2.2 f m j;refine⟨by simp[aC,l],fun i d=> ?_⟩;cases i with
  |zero=>exact⟨e,h⟩
  |succ i=>exact k i (by simpa using d)
theorem xw:ElT 242 236 1 .nilIface 16:=⟨underlying242,uA,rfl,t7⟩
theorem Fg(p w):(Go.method 428 260 p "loop.example/s01906/impl.nodes").run prog w= .ok (225,p) w:=uA
theorem Fh(p w):(Go.method 428 223 p "loop.example/s01906/impl.nodes").run prog w= .ok (216,p) w:=uA
theorem xx:(prog.info? 239).map (·.size)=some 2:=uA
theorem oL{b:Type}{l m:List b}{i d}(a:i<l.length):(l++m).getD i d=l.getD i d:=by simp[List.getD,List.getElem?_append_left a]
structure NsQ(B:Nat)(w:World)(a:Option Addr)(n:Nat)(xs:List Value)(ids:List Int)(a':Option Addr)(c':Nat)(vals:List Value)(w':World):Prop where
 own:Own1 236 B w' a' (n+vals.length) c' (xs++vals)
 fr:OnlyS (fun k=>k∈rb a) w w'
 low:∀k∈rb a',k<w.1.size->k∈rb a
 keep:∀t,t≠236->KeepT t w w'
 len:vals.length=ids.length
 nv:∀i,i<vals.length->NVal w' (vals.getD i undef) (ids.getD i 0)
def NsP(B:Nat)(w:World)(a:Option Addr)(n:Nat)(xs:List Value)(ids:List Int)(e:Ending)(w':World):Prop:=
 ∃a' c' vals,e= .returned (.slice a' (n+vals.length) c')/\NsQ B w a n xs ids a' c' vals w'
def NsC(t:Tr):Prop:= ∀(v:Value)(G:List Nat)(w:World)(B:Nat)(a:Option Addr)(n c:Nat)(xs:List Value),IRep w t G [(strOfNums [],v)]->Own1 236 B w a n c xs->B<=w.1.size->n+(pgN t).length<=1048576->
 ∃ty p fn,v= .iface ty (.pointer p)/\(∀u,(Go.method 428 ty (.pointer p) "loop.example/s01906/impl.nodes").run prog u= .ok (fn,.pointer p) u)/\(∀args u,(callFunc fn args).run prog u= .ok (.enter fn args) u)/\Calls prog fn #[.pointer p,.slice a n c] w (NsP B w a n xs (pgN t))
theorem NsQ.one{B w wr a m n o xs b l}(f:NsQ B w a n xs l m o b wr){v id}(z:NVal wr v id){g p w'}(y:Own1 236 B w' (some ⟨g,0,none⟩) (n+b.length+1) p (xs++b++[v]))(s:(wr.alloc (.cells #[v] 236)).grownBy w' (Value.slice m (n+b.length) o).ownBlock)(r:m=some ⟨g,0,none⟩\/wr.1.size<g):NsQ B w a n xs (l++[id]) (some ⟨g,0,none⟩) p (b++[v]) w':=by
 have q:=bAl wr (.cells #[v] 236);have c:∀t,t≠236->KeepT t wr w':=fun t h=>(aV q).trans (bD (bQ f.own q) s (DX h));have A:=f.fr.size;refine⟨?_,(f.fr.trans (OnlyS.ofBelow q)).transN (OnlyS.ofGrown s) (fun k c e=>f.low k (xk k e) c),?_,fun t h=>(f.keep t h).trans (c t h),by simp[f.len],?_⟩
 ·rw[u7,<-vJ];exact y
 ·intro k j x;simp[rb]at j;subst j;rcases r with e|e
  ·exact f.low _ (by rw[e];simp[rb]) x
  ·omega
 ·intro i u;by_cases d:i<b.length
  ·have:=(f.nv i d).keep c;rw[oL d,oL (by rw[<-f.len];exact d)];exact this
  ·have e:i=b.length:=by rw[u7]at u;simp at u;omega
   subst e;have:=z.keep c;simpa [List.getD,f.len]using this
theorem Fi(id es):NsC (.leaf id es):=by
 intro v G w B a n c xs o m s x;rw[IRep]at o;obtain⟨b,ab,C,rfl,p,d,_⟩:=o;have q:v=lfI b:=by simpa using p
 subst q;refine⟨_,_,225,rfl,Fg _,fun _ _=>rfl,?_⟩;have e:NVal w (lfI b) id:=⟨b,_,u5 ⟨rfl,d⟩⟩;have j:NsQ B w a n xs [] a c [] w:=⟨by simpa using m,OnlyS.refl _ _,fun k u _=>u,fun _ _=>KeepT.refl _ _,rfl,fun i t=>absurd t (w8 _)⟩;have f:=t6 j e;have l:n<=1048576:=t7;clear j e x d p;go_enter func225,ntmps225;go_wp2_with (at_builtin;refine iF rfl _ _ xw rfl B a n c xs rfl m (lfI b) rfl rfl l t7 s ?_);intro g A D y z r h;go_wp2;go_ret;exact⟨_,_,[lfI b],rfl,f.out.1.one f.out.2 (by simpa using y) r h⟩
theorem xy(us n)(c:∀i,i<n->(us.getD i k0).2.oneCell'=true):IsRow 2 (kdF us) n:=⟨fun _ _=>rfl,fun i b u a=>by simp[kdF]at a;rcases a with rfl|rfl;rfl;exact c i b⟩
theorem Fj:∀t:Tr,isT t=true->1<=(pgN t).length
 | .leaf _ _,_=>by simp[pgN]
 | .node _ _,_=>by simp[pgN]
 | .nil,a=>by simp[isT]at a
 | .cons _ _ _,a=>by simp[isT]at a
theorem xz:∀ks:Tr,isT ks=false->∀b,full ks b->(aC ks).length<=(pgN ks).length
 | .leaf _ _,c,_,_=>by simp[isT]at c
 | .node _ _,c,_,_=>by simp[isT]at c
 | .nil,_,_,_=>by simp[aC]
 | .cons s t ks,_,b,a=>by
  rw[full]at a;have d:=Fj t a.2.1;have e:=xz ks a.2.2.1 false a.2.2.2.2;rw[pgN,aC,u7,wQ];omega
theorem lh(L i):(dO (L.take i)).length<=(dO L).length:=by
 have e:dO L=dO (L.take i)++dO (L.drop i):=by
  unfold dO;rw[<-List.flatMap_append,z8]
 rw[e,u7];omega
theorem NsQ.trans{B w wr m w' a o p n v r xs b c h d}(j:NsQ B w a n xs h o v b wr)(q:Below wr.1.size wr m)(f:NsQ B m o (n+b.length) (xs++b) d p r c w'):NsQ B w a n xs (h++d) p r (b++c) w':=by
 have D:=j.fr.size;have C:=q.size;refine⟨?_,(j.fr.trans (OnlyS.ofBelow q)).transN f.fr (fun k l e=>j.low k e l),fun k l s=>j.low k (f.low k l t7) s,fun t u=>((j.keep t u).trans (aV q)).trans (f.keep t u),by rw[u7,u7,j.len,f.len],?_⟩
 ·rw[u7,<-vJ,<-Nat.add_assoc];exact f.own
 ·intro i A;by_cases g:i<b.length
  ·have:=((j.nv i g).keep (fun t _=>aV q)).keep f.keep;rw[oL g,oL (by rw[<-j.len];exact g)];exact this
  ·have z:=f.nv (i-b.length) (by rw[u7]at A;omega);have x:(b++c).getD i undef=c.getD (i-b.length) undef:=by simp[List.getD,List.getElem?_append_right (Nat.le_of_not_lt g)]
   have y:(h++d).getD i 0=d.getD (i-b.length) 0:=by rw[j.len];simp[List.getD,List.getElem?_append_right (show h.length<=i by have:=j.len;omega)]
   rw[x,y];exact z
theorem Fk(id ks)(K:isT ks=false)(A)(M:full ks A)(Z:∀i,i< (aC ks).length->NsC ((aC ks).getD i t0).2):NsC (.node id ks):=by
 intro v G w B a n c xs a0 aS bP aB;rw[IRep]at a0;obtain⟨b,ad,ak,us,a8,rfl,O,l,hrow,H⟩:=a0;have a1:v=inI b:=by simpa using O
 subst a1;obtain⟨bz,m⟩:=H.kid ks K A M a8 us;refine⟨_,_,216,rfl,Fh _,fun _ _=>rfl,?_⟩;have X:pgN (.node id ks)=dO (aC ks)++[id]:=by rw[pgN,rE ks K A M]
 rw[X]at aB ⊢;rw[u7,x2]at aB;have am:=xz ks K A M;rw[rE ks K A M]at am;generalize aC ks=L at*;have bB:w.cell? ⟨b,1,none⟩=some (.slice ad us.length ak):=l.cell 1;have an:NsQ B w a n xs (dO (L.take 0)) a c [] w:=⟨by simpa using aS,OnlyS.refl _ _,fun k bm _=>bm,fun _ _=>KeepT.refl _ _,rfl,fun i N=>absurd N (w8 _)⟩;have a9:Hid _:=an;have C:∀i,i<us.length->(us.getD i k0).2.oneCell'=true:=fun i N=>by
  obtain⟨Y,bF⟩:=m i N;obtain⟨o,p,bg,e,_⟩:=Z i t7 _ Y w 0 none 0 0 [] bF (cQ _ _ _) (u6 _) (by have:=oJ L i t7;have bk:=lh L (i+1);rw[this,u7]at bk;omega);rw[e]
  rfl
 have h:=t6 l (u2 hrow (u2 m (u2 Z C)));have bs:us.length<=1048576:=t7;clear an l hrow m Z aS O X H C;go_enter func216,ntmps216;go_wp2_with fail;go_loopw [1,12] (fun bu a6 wr=> ∃(i:Nat)(x:Option Addr)(y:Nat)(d:List Value),bu= .slice x (n+d.length) y/\a6= .int .i64 (i:Nat)/\i<=us.length/\NsQ B w a n xs (dO (L.take i)) x y d wr) (fun _ s _=>us.length-(intOf s).toNat)
 case atStart=>exact⟨0,a,c,[],rfl,rfl,u6 _,a9.out⟩
 case round=>
  obtain⟨i,x,y,d,rfl,rfl,N,g⟩:=hrel;obtain⟨f,a2⟩:=aa wr;subst a2;have I:=g.len;have bA:=g.fr.size;by_cases W:i<us.length
  ·have bn:(i:Int)< (us.length:Int):=t7;have E:=oJ L i t7;have aT:=lh L (i+1);have aX:=lh L i;rw[E,u7]at aT;have F:ORow 239 2 0 f ad us.length ak (kdF us):=cw h.out.2.1 (g.keep _ uv);obtain⟨a4,rfl,_,bx⟩:=oy F t7;have r:=fun j v O=>(F.reads (xy us _ h.out.2.2.2.2)).cells i W j v O;rw[show kdF us i=[.string (us.getD i k0).1,(us.getD i k0).2]from rfl]at r;obtain⟨Y,T⟩:=h.out.2.2.1 i W;have Q:=h.out.2.2.2.1 i t7;generalize us.getD i k0=bf at*;obtain⟨sg,u⟩:=bf;have J:=bAl f (.cells #[.string sg,u] 239);obtain⟨o,p,bg,br,a7,bl,q⟩:=Q u Y (f.alloc (.cells #[.string sg,u] 239)) B x (n+d.length) y (xs++d) ((T.keepN g.keep).below J) (g.own.below J) (by have:=J.size;omega) (by rw[I];omega);subst br;have af:f.cell? ⟨a4,i*2,none⟩=some (.string sg):=by have:=r 0 _ rfl;simpa using this
   have ag:f.cell? ⟨a4,i*2+1,none⟩=some (.iface o (.pointer p)):=by have:=r 1 _ rfl;simpa using this
   have a3:=aq f 239 #[.string sg,.iface o (.pointer p)];have t:=t6 g (u2 J E);clear r T Q F g J E h I;go_upto_region 4 with(first|(refine bt rfl 239 _ _ rfl f #[.string (strOfNums []),.nilIface] #[.string sg,.iface o (.pointer p)] 239 rfl rfl xx rfl rfl ?_))
   change Code.wp _ _ _ _ (f.alloc (.cells #[.string sg,.iface o (.pointer p)] 239));generalize f.alloc (.cells #[.string sg,.iface o (.pointer p)] 239)=ba at*;generalize ap:f.1.size=bd at*;have bC:ba.cell? ⟨bd,1,none⟩=some (.iface o (.pointer p)):=Blk.cell a3 1;clear a3 af ag;go_wp2_with fail;refine q.mono ?_;rintro e bv ⟨bb,ae,P,rfl,V⟩;have ab:=t.out.1.trans (by rw[ap];exact t.out.2.1) V;rw[<-t.out.2.2]at ab;have z:Hid _:=ab;clear q V ab;go_wp2_with fail;go_roundw
   case rel=>exact⟨i+1,bb,ae,d++P,by rw[u7,Nat.add_assoc],by go_num,t7,z.out⟩
   case measure=>simp[intOf];omega
  ·have aA:i=L.length:=t7;have D:=g.own;have U:NVal f (inI b) id:=⟨b,_,u4 ⟨rfl,h.out.1.keepT (g.keep _ uv)⟩⟩;have t:Hid (NsQ B w a n xs (dO L) x y d f/\NVal f (inI b) id):=⟨by have:=g;rw[aA,x0]at this;exact this,U⟩;have aX:=lh L i;have ac:n+d.length<=1048576:=t7;clear g U h I;go_wp2_with (at_builtin;refine iF rfl _ _ xw rfl B x (n+d.length) y (xs++d) rfl D (inI b) rfl rfl ac t7 t7 ?_);intro bE ae bv a5 bc S R;have z:Hid _:=t.out.1.one t.out.2 (by rw[vJ];exact a5) S R;clear a5 bc S R D;go_wp2_with fail;go_ret;exact⟨_,_,d++[inI b],by rw[u7];rfl,z.out⟩
theorem oP:∀t:Tr,(isT t=true->full t true->NsC t)/\(isT t=false->∀b,full t b->∀i,i< (aC t).length->NsC ((aC t).getD i t0).2)
 | .leaf id es=>⟨fun _ _=>Fi id es,fun c=>by simp[isT]at c⟩
 | .node id ks=>⟨fun _ a=>by
  rw[full]at a;have e:isT ks=false:=by obtain⟨s,t,r,rfl⟩:=a.1;rfl
  exact Fk id ks e true a.2 ((oP ks).2 e true a.2),fun c=>by simp[isT]at c⟩
 | .nil=>⟨fun c=>by simp[isT]at c,fun _ _ _ i d=>by simp[aC]at d⟩
 | .cons s t ks=>⟨fun c=>by simp[isT]at c,fun _ b a i d=>by
  rw[full]at a;cases i with
  |zero=>exact(oP t).1 a.2.1 a.2.2.2.1
  |succ i=>exact(oP ks).2 a.2.2.1 false a.2.2.2.2 i (by simpa [aC]using d)⟩
def Fl:Go.Shelf.Ren:=⟨fun|5=>150|8=>171|7=>170|19=>187|20=>188|10=>178|11=>179|12=>180|13=>181|14=>182|15=>183|16=>184|17=>185|18=>186|30=>190|31=>191|32=>192|33=>193|34=>194|35=>195|40=>196|n=>n,fun|23=>100|25=>3|3=>3|32=>247|22=>100|0=>0|44=>284|46=>286|4=>4|36=>277|35=>276|41=>211|5=>5|9=>9|53=>288|57=>292|63=>295|64=>296|n=>n,fun|n=>n⟩
theorem xB:Go.Proofs.SlLaysM.n5 prog Fl:={
 mixed:=uA
 f5:=⟨Tryz.f150.name,uv,func150.trans (B8 some uA)⟩
 f7:=⟨Tryz.f170.name,uv,func170.trans (B8 some uA)⟩
 f8:=func171.trans (B8 some uA)
 f10:=⟨Tryz.f178.name,uv,func178.trans (B8 some uA)⟩
 f11:=⟨Tryz.f179.name,uv,func179.trans (B8 some uA)⟩
 f12:=⟨Tryz.f180.name,uv,func180.trans (B8 some uA)⟩
 f13:=⟨Tryz.f181.name,uv,func181.trans (B8 some uA)⟩
 f14:=⟨Tryz.f182.name,uv,func182.trans (B8 some uA)⟩
 f15:=⟨Tryz.f183.name,uv,func183.trans (B8 some uA)⟩
 f16:=⟨Tryz.f184.name,uv,func184.trans (B8 some uA)⟩
 f17:=⟨Tryz.f185.name,uv,func185.trans (B8 some uA)⟩
 f18:=⟨Tryz.f186.name,uv,func186.trans (B8 some uA)⟩
 f19:=func187.trans (B8 some uA)
 f20:=func188.trans (B8 some uA)
 f30:=⟨Tryz.f190.name,uv,func190.trans (B8 some uA)⟩
 f31:=func191.trans (B8 some uA)
 f32:=func192.trans (B8 some uA)
 f33:=⟨Tryz.f193.name,uv,func193.trans (B8 some uA)⟩
 f34:=⟨Tryz.f194.name,uv,func194.trans (B8 some uA)⟩
 f35:=⟨Tryz.f195.name,uv,func195.trans (B8 some uA)⟩
 f40:=⟨Tryz.f196.name,uv,func196.trans (B8 some uA)⟩
 t0:=underlying0
 a0:=Tryz.isAgg0
 z0:=Tryz.sizeOf0
 v0:=Tryz.zeroValue0
 t3:=CH
 a3:=Tryz.isAgg3
 z3:=Tryz.sizeOf3
 v3:=Tryz.zeroValue3
 t4:=underlying4
 a4:=Tryz.isAgg4
 z4:=Tryz.sizeOf4
 v4:=Tryz.zeroValue4
 t5:=C4
 a5:=Tryz.isAgg5
 z5:=Tryz.sizeOf5
 v5:=Tryz.zeroValue5
 t9:=DP
 a9:=Tryz.isAgg9
 z9:=Tryz.sizeOf9
 v9:=Tryz.zeroValue9
 t22:=underlying100
 a22:=Tryz.isAgg100
 z22:=Tryz.sizeOf100
 v22:=Tryz.zeroValue100
 t23:=underlying100
 a23:=Tryz.isAgg100
 z23:=Tryz.sizeOf100
 v23:=Tryz.zeroValue100
 t25:=CH
 a25:=Tryz.isAgg3
 z25:=Tryz.sizeOf3
 v25:=Tryz.zeroValue3
 t32:=underlying247
 a32:=Tryz.isAgg247
 z32:=Tryz.sizeOf247
 v32:=Tryz.zeroValue247
 t35:=underlying276
 a35:=Tryz.isAgg276
 z35:=Tryz.sizeOf276
 v35:=Tryz.zeroValue276
 t36:=underlying277
 a36:=Tryz.isAgg277
 z36:=Tryz.sizeOf277
 v36:=Tryz.zeroValue277
 t41:=underlying211
 a41:=Tryz.isAgg211
 z41:=Tryz.sizeOf211
 v41:=Tryz.zeroValue211
 t44:=underlying284
 a44:=Tryz.isAgg284
 z44:=Tryz.sizeOf284
 v44:=Tryz.zeroValue284
 t46:=underlying286
 a46:=Tryz.isAgg286
 z46:=Tryz.sizeOf286
 v46:=Tryz.zeroValue286
 t53:=underlying288
 a53:=Tryz.isAgg288
 z53:=Tryz.sizeOf288
 v53:=Tryz.zeroValue288
 t57:=underlying292
 a57:=Tryz.isAgg292
 z57:=Tryz.sizeOf292
 v57:=Tryz.zeroValue292
 t63:=underlying295
 a63:=Tryz.isAgg295
 z63:=Tryz.sizeOf295
 v63:=Tryz.zeroValue295
 t64:=underlying296
 a64:=Tryz.isAgg296
 z64:=Tryz.sizeOf296
 v64:=Tryz.zeroValue296}
theorem xD(B a c l w)(t:Own1 3 B w a l.length c (on l))(p:l.length<=1048576):
 Calls prog 150 #[.slice a l.length c] w fun e w'=>e= .returned (.tuple #[])/\w.grownBy w' (Value.slice a l.length c).ownBlock/\Own1 3 B w' a l.length c (on (srt l)):=by
 rcases t.2 with⟨b,i⟩|⟨g,r,s,b,o,d,j,k,m,f⟩
 ·simp only[DC]at b;obtain⟨rfl,_,rfl⟩:=b;have h:=x8 i;subst h;refine BV (AnyM.slices_Sort_int_none xB none 0 w) ?_;rintro e w' ⟨rfl,rfl⟩;exact⟨rfl,⟨rfl,rfl,rfl,t1,fun _ _ _=>rfl⟩,by rw[show srt []=[]by simp[srt]];exact cQ _ _ _⟩
 ·simp only[DC]at b;obtain⟨rfl,_,rfl⟩:=b;rw[Nat.mul_one]at f;have q:l.length<4611686018427387904:=Nat.lt_of_le_of_lt p uv;refine BV (AnyM.slices_Sort_int xB g 0 c l w (holds_of_blockI d f) (vR.1 d).1 q) ?_;rintro e w' ⟨rfl,n,os,rfl⟩;exact⟨rfl,grownBy_sortedI _,ownsRow_sortedI (iX l) o d j k m⟩
