import Derived.Test.YtglbanolhhjjiaaGreatDoorFo24
import Derived.Lib.AppendZeros
import Derived.Shelf.SortM.Plain
import Derived.Shelf.SortM.SortNone
import Derived.Sort.OwnSortedInts
namespace Go.Proofs.YtglbanolhhjjiaaGreatDoor
open Go.Proofs.Tryz
open Go.RowKit
set_option linter.unusedVariables false
set_option maxRecDepth 100000
set_option maxHeartbeats 32000000
section
theorem EX{t:Nat}{Z w w'}(b:OnlyS Z w w')(c:∀k,Z k->∀cs fr,w.heap[k]?≠some (.cells cs t fr)):KeepT t w w':=
 ⟨b.size,fun k cs fr a=>by
  rw[b.block k (wy.1 a).1 (fun e=>c k e cs fr a)];exact a⟩
theorem Blk.notT{w t g a xs}(h:Blk w t g xs)(b:t≠a):∀cs fr,w.heap[g]?≠some (.cells cs a fr):=by
 intro cs fr e;unfold Blk at h;rw[h]at e;cases e;exact b rfl
theorem SetI.putd{w w':World}{m seen id}{D:DataW Nat}(b:w.ownsMap prog 3 unitElem m seen.length D)(c:∀i:Int,Maps.has D (.int .i64 i)=seen.contains i)(h:w'.ownsMap prog 3 unitElem m (seen.length+1) (D.put (.int .i64 id) (.agg []))):SetI w' m (id::seen):=
 ⟨_,h,fun i=>by
  by_cases a:i=id
  ·subst a;rw[Maps.has_put_same b.isMap (by trivial)];simp
  ·rw[Maps.has_put_other (by intro e;cases e;exact a rfl),c];simp[a]⟩
theorem EY(w):(zeroValue 220).run prog w= .ok (.agg #[]) w:=vk
theorem xl:Maps.Keyed prog 3:=Maps.int_keyed C4
theorem xm(id):prog.built 225 [(0,.int .i64 id)]=some #[.int .i64 id]:=vk
theorem xn{P f steps a x id l}(b:dQ P a id=true)(h:P.kd id≠2)(c:P.bd id=l):wkT P (f+1) (steps:Nat) a x id=((inP l).bind fun ls=>wkK (wkT P f ((steps+1:Nat):Int)) ls true ⟨id::a.seen,a.tall⟩ x).map fun y=>(.node id y.1,y.2.1,y.2.2):=by
 rw[AM b h,c];cases inP l with
 |none=>rfl
 |some ls=>rfl
theorem xp(a n c):prog.built 192 [(0,.slice a n c)]=some #[.slice a n c]:=vk
theorem EZ(id a n c):prog.built 263 [(0,.agg #[.int .i64 id]),(1,.slice a n c)]=some #[.int .i64 id,.slice a n c]:=vk
theorem E6(id a n c):prog.built 228 [(0,.agg #[.int .i64 id]),(1,.slice a n c)]=some #[.int .i64 id,.slice a n c]:=vk
theorem Bs.blt{w a n c l}(h:Bs w a n c l):∀b d,0<n->a=some ⟨b,d,none⟩->b<w.1.size:=by
 intro b d i e;obtain⟨k,j,f,g,_⟩:=h.at_ i;rw[f]at e;cases e;exact g
variable {S:World->Prop} {X:Nat->Prop} {B0 g m N ty fn:Nat} {src v:Value} {P:Pg} {st:St} {x z:LSg} {w w':World}
theorem Wk.srcPut(b:Src P B0 ty fn v S X)(h:Wk S B0 g m N src w st x)(a:w.grownBy w' (some m)):S w':=by
 obtain⟨es,c,d⟩:=h.set.obj;have f:=OnlyS.ofGrown a;exact b.keep w w' h.src (f.below (by have:=h.blk.lt;have:=h.gB;omega) (fun k e=>by cases e;exact h.mB)) (xh a d)
theorem Wk.wrote(i:Src P B0 ty fn v S X)(h:Wk S B0 g m N src w st x){a t xs}(b:OnlyS (fun k=>k=g\/k=a) w w')(f:Blk w t a xs)(l:t≠5)(c:B0<=a)(d:a≠m)(j:Blk w' 234 g (wkc src m st.tall z)):Wk S B0 g m N src w' st z:=
 ⟨j,h.set.same (b.block m h.set.lt (fun e=>by rcases e with e|e;exact h.gm e.symm;exact d e.symm)),i.keep w w' h.src (b.below (by have:=h.blk.lt;have:=h.gB;omega) (fun k e=>by rcases e with rfl|rfl;exact h.gB;exact c)) (EX b (fun k e=>by rcases e with rfl|rfl;exact h.blk.notT uB;exact f.notT l)),h.gB,h.mB,h.ok⟩
theorem E7(bu:PgW P N)(p:Src P B0 ty fn v S X)(f)(cf:NdC P S X B0 g m N (.iface ty v) f):NdC P S X B0 g m N (.iface ty v) (f+1):=by
 intro steps id a x w b c0 c2 b8 T;have cz:=b.ok.le;have ch:=bu.le;have c1:=b.blk.lt;have cA:=b.set.lt;have b5:=b.gm;have cs:=b.gB;obtain⟨D,bz,am⟩:=b.set;have a0:=am id;have L:keyOf prog 3 (.int .i64 id)=some (.int .i64 id):=Maps.keyOf_int_mk C4 (by have cV:IntKind.i64.min= -9223372036854775808:=rfl;have cW:IntKind.i64.max=9223372036854775807:=rfl;simp only[Lit.wf,wX,D3];omega);have bx:w.cell? ⟨g,1,none⟩=some (.map (some m)):=b.blk.cell 1;have cR:Hid (Wk S B0 g m N (.iface ty v) w a x):=b;have bf:Hid _:=am;have bc:=bAl w (.cells #[] 220);have ae:=b.below p bc;have U:=bz.alloc (.cells #[] 220);have E:Hid (∀w',OnlyS (fun k=>X k\/k=g\/k=m) w w'->dQ P a id=false->NdP P S X B0 g m N (.iface ty v) (f+1) steps a x id w (.panicked bI) w'):=fun w' cn F=>⟨cn,v6 ⟨AK F,rfl⟩⟩;have bC:Hid (Maps.has D (.int .i64 id)=a.seen.contains id):=a0;clear b am a0;go_enter func144,ntmps144;go_upto_region 2 with(first|(at_lookup;refine wpList_lookup_own_unit _ rfl _ _ 232 rfl 3 220 xl underlying232 (EY _) m _ D rfl bz _ _ rfl L ?_)|fail)
 change Code.wp _ _ _ _ (w.alloc (.cells #[] 220));have bE:Hid _:=bc;have cL:w.1.size<=(w.alloc (.cells #[] 220)).1.size:=bc.size;generalize w.alloc (.cells #[] 220)=bv at*;have z:SetI bv m a.seen:=⟨D,U,bf.out⟩;have bd:OnlyS (fun k=>X k\/k=g\/k=m) w bv:=OnlyS.ofBelow bE.out;clear bz bx bc;generalize Maps.has D (.int .i64 id)=cg at*;cases cg with
 |true=>
  have F:dQ P a id=false:=by
   rw[<-xA,fO];intro h;exact h.2.2.1 (xr.1 bC.out.symm)
  clear U ae z;go_wp2_with fail
  all_goals (refine(fi _).mono ?_;rintro e w' ⟨rfl,rfl⟩;go_wp2;exact⟨rfl,E.out _ bd F⟩)
 |false=>
  have aT:id∉a.seen:=fun h=>by have:=bC.out;rw[xr.2 h]at this;cases this
  by_cases a9:2<=id
  ·have bx:bv.cell? ⟨g,1,none⟩=some (.map (some m)):=ae.blk.cell 1;have Q:=uv ae z;have bn:a.seen.length<maxLen:=by unfold maxLen;omega
   clear ae z;go_wp2_with fail;refine(ez _).mono ?_;rintro e w' ⟨rfl,rfl⟩;go_upto_region 4 with(first|(at_mapUpdate;refine wpList_mapUpdate_own _ rfl _ _ _ 232 rfl 3 220 xl underlying232 (unitElem (H:=Nat)) m _ D rfl U bn _ _ _ rfl rfl L _ [] unitElem_mk ?_;intro a6 bB ak)|fail)
   have bW:=Q.out.1.srcPut p ak;have a3:=SetI.putd U bf.out bB;have ca:OnlyS (fun k=>X k\/k=g\/k=m) w a6:=bd.transN (OnlyS.ofGrown ak) (fun k _ e=>by cases e;exact v6 (v6 rfl));have bs:=Q.out.1.blk.onlyS (OnlyS.ofGrown ak) (fun e=>by cases e;exact b5 rfl);have cT:a6.cell? ⟨g,0,none⟩=some (.iface ty v):=bs.cell 0;have bT:=p.page a6 id bW b8 T;have cm:=p.meth;have cj:=p.ent;have ac:=uv a3 (vJ ca ak);clear a3 ca ak bs bx bB U L bn bW bd;go_wp2_with fail;refine bT.mono ?_;clear bT;rintro e c ⟨cb,ba,⟨aX,ab,n,rfl,ap⟩|⟨u,c3,ab,nb,n,cS,rfl⟩⟩
   rotate_left
   ·have F:dQ P a id=false:=by
     rw[<-xA,fO,u];intro h;exact absurd h.1 uB
    have J:OnlyS (fun k=>X k\/k=g\/k=m) w c:=ac.out.2.1.transN ba (fun k _ e=>v7 e);go_wp2_with fail;refine(fi _).mono ?_;rintro e w' ⟨rfl,rfl⟩;go_wp2;exact⟨rfl,E.out _ J F⟩
   ·obtain⟨cv,b6⟩:=bu.ok id aX;have bP:Wk S B0 g m N (.iface ty v) a6 ⟨id::a.seen,a.tall⟩ x:=Q.out.1.see p uA b6 aT ac.out.1 ac.out.2.2;have a5:=bP.ofPage cb ba p.low;have J:OnlyS (fun k=>X k\/k=g\/k=m) w c:=ac.out.2.1.transN ba (fun k _ e=>v7 e);have an:=bu.len id;have bY:c.cell? ⟨g,2,none⟩=some (.int .i64 a.tall):=a5.blk.cell 2;have bZ:=a5.blk.free 2;have cM:=J.size;generalize b7:P.bd id=l at ap an ⊢;generalize bk:P.kd id=kd at ⊢;have a4:Hid (P.bd id=l):=b7;have r:Hid (P.kd id=kd):=bk;have d:=uv a5 (vJ ap J);clear b7 bk a5 ap J bP Q ac ba cb;by_cases aA:kd=2
    ·subst aA;have I:Hid (dQ P a id=true):=fO.2 ⟨aX,a9,aT,v7 r.out⟩;by_cases G:a.tall<0\/a.tall=(steps:Nat)
     ·have bF:Hid _:=G;rcases G with a1|br
      rotate_left
      have a1:¬a.tall<0:=uA
      all_goals
       go_wp2_with fail;refine(ez _).mono ?_;rintro e w' ⟨rfl,b⟩;obtain rfl:=b.symm;clear b;go_wp2_with fail;refine(ez _).mono ?_;rintro e w' ⟨rfl,b⟩;obtain rfl:=b.symm;clear b;have bb:=ax c g 2 (.int .i64 (steps:Nat));have bR:Wk S B0 g m N (.iface ty v) (c.setCell ⟨g,2,none⟩ (.int .i64 (steps:Nat))) ⟨id::a.seen,(steps:Nat)⟩ x:=d.out.1.put p bb (d.out.1.blk.set 2 _) rfl;have ce:=d.out.2.1.keep (aw bb d.out.1.blk uB);have bA:=d.out.2.2.transN (OnlyS.ofB bb) (fun k _ e=>v6 (v7 e));have cP:=bA.size;have V:=uv bR (vJ ce bA);clear bR ce bA bb d;go_upto_region 9 with fail
       generalize c.setCell ⟨g,2,none⟩ (.int .i64 (steps:Nat))=K at*;clear bY bZ;have A:=bAl K (.cells #[.slice ab l.length n] 192);have W:=V.out.1.below p A;have Z:=aq K 192 #[.slice ab l.length n];have s:Cur (K.alloc (.cells #[.slice ab l.length n] 192)) K.1.size K.1.size l:=⟨ab,l.length,n,⟨Z,V.out.2.1.bs.below A,V.out.2.1.bs.blt⟩⟩;have bX:=Es g K.1.size K.1.size l (.iface ty v) m (steps:Nat) x _ W.blk s A.size an uA;have b2:=xm id;have b3:=xp ab l.length n;have b4:=EZ id;have ad:=uv W (vJ Z A);clear W Z s A;go_wp2_with fail;refine bX.mono ?_;clear bX;rintro e i ⟨B,⟨es,Y,a7,cp,aS,rfl,hrow,R⟩|⟨u,rfl⟩⟩
       rotate_left
       ·have q:OnlyS (fun k=>X k\/k=g\/k=m) w i:=(V.out.2.2.trans (OnlyS.ofBelow ad.out.2.2)).transN B (fun k o e=>by rcases e with e|e;exact v6 (v7 e);omega);have j:Hid (NdP P S X B0 g m N (.iface ty v) (f+1) steps a x id w (.panicked bI) i):=⟨q,v6 ⟨by rw[ud I.out r.out bF.out,a4.out,u];rfl,rfl⟩⟩;clear B u q;go_wp2;exact⟨rfl,j.out⟩
       have af:=ad.out.1.wrote p B ad.out.2.1 uB uA uA R;have q:OnlyS (fun k=>X k\/k=g\/k=m) w i:=(V.out.2.2.trans (OnlyS.ofBelow ad.out.2.2)).transN B (fun k o e=>by rcases e with e|e;exact v6 (v7 e);omega);have C:=bAl i (.cells #[.int .i64 id,.slice Y es.length a7] 263);have a2:=aq i 263 #[.int .i64 id,.slice Y es.length a7];have b9:=q.size;have y:=cE hrow;have j:Hid (NdP P S X B0 g m N (.iface ty v) (f+1) steps a x id w (.returned (lfI i.1.size)) (i.alloc (.cells #[.int .i64 id,.slice Y es.length a7] 263))):=by
        refine⟨q.trans (OnlyS.ofBelow C),v7 ⟨.leaf id es,⟨id::a.seen,(steps:Nat)⟩,cp,i.1.size::rb Y,_,_,by rw[ud I.out r.out bF.out,a4.out,aS];rfl,rfl,?_,?_,?_,af.below p C,vo⟩⟩
        ·rw[IRep];exact⟨i.1.size,Y,a7,rfl,rfl,a2,(hrow.below C).mono (wa _)⟩
        ·rw[zz];exact⟨fun M=>by have:=(y _ M).2;omega,by cases Y<;>simp[rb]⟩
        ·intro k o;rcases w3.1 o with rfl|o
         ·omega
         ·have b0:=(y k o).1;have a9:=V.out.2.2.size;have cX:=ad.out.2.2.size;omega
       clear af q C a2 y B hrow R aS;go_wp2_with fail;go_ret;exact j.out
     ·have a1:¬a.tall<0:=fun h=>G (v7 h);have br:¬a.tall=(steps:Nat):=fun h=>G (v6 h);clear G;have cD:(a.tall==(steps:Nat))=false:=by simp[br]
      have j:Hid (NdP P S X B0 g m N (.iface ty v) (f+1) steps a x id w (.panicked bI) c):=⟨d.out.2.2,v6 ⟨AL r.out uA,rfl⟩⟩;go_wp2_with fail;refine(ez _).mono ?_;rintro e w' ⟨rfl,b⟩;obtain rfl:=b.symm;clear b;go_wp2_with fail;rw[show decide (a.tall<0)=false by simp[a1]];refine(fi _).mono ?_;rintro e w' ⟨rfl,b⟩;obtain rfl:=b.symm;clear b;go_wp2;exact⟨rfl,j.out⟩
    ·have ck:(kd==2)=false:=by simp[aA]
     by_cases aB:kd=3
     ·subst aB;have I:Hid (dQ P a id=true):=fO.2 ⟨aX,a9,aT,v6 r.out⟩;have A:=bAl c (.cells #[.slice ab l.length n] 192);have W:=d.out.1.below p A;have Z:=aq c 192 #[.slice ab l.length n];have s:Cur (c.alloc (.cells #[.slice ab l.length n] 192)) c.1.size c.1.size l:=⟨ab,l.length,n,⟨Z,d.out.2.1.bs.below A,d.out.2.1.bs.blt⟩⟩;have bS:Calls prog 167 #[.pointer (some ⟨g,0,none⟩),.pointer (some ⟨c.1.size,0,none⟩),.int .i64 ((steps:Int)+1)] (c.alloc (.cells #[.slice ab l.length n] 192)) (KdP P S X B0 g m N (.iface ty v) f (steps+1) l ⟨id::a.seen,a.tall⟩ x c.1.size (c.alloc (.cells #[.slice ab l.length n] 192))):=
       EW P B0 ty fn v S X p g m N (.iface ty v) f cf (steps+1) l c.1.size c.1.size ⟨id::a.seen,a.tall⟩ x _ W s A.size an uA uA uA (by simp only[w8];omega) (by simp only[w8];omega)
      have b2:=xm id;have b3:=xp ab l.length n;have b4:=E6 id;have bg:Hid _:=A;have cB:(steps:Int)+1<=1025:=uA;have cq:Hid ((c.alloc (.cells #[.slice ab l.length n] 192)).1.size=c.1.size+1):=by show(c.alloc (.cells #[.slice ab l.length n] 192)).1.size=c.1.size+1;simp
      clear W Z s A bY bZ;go_wp2_with fail;refine(ez _).mono ?_;rintro e w' ⟨rfl,b⟩;obtain rfl:=b.symm;clear b;go_wp2_with fail;refine bS.mono ?_;clear bS;rintro e i ⟨B,⟨t,cc,cp,cr,us,ag,a8,bl,rfl,hrow,O,bm,T,af,z⟩|⟨u,rfl⟩⟩
      rotate_left
      ·have q:OnlyS (fun k=>X k\/k=g\/k=m) w i:=(d.out.2.2.trans (OnlyS.ofBelow bg.out)).transN B (fun k o e=>by rcases e with e|e|e|e;exact v7 e;exact v6 (v7 e);exact v6 (v6 e);omega);have j:Hid (NdP P S X B0 g m N (.iface ty v) (f+1) steps a x id w (.panicked bI) i):=⟨q,v6 ⟨(xn I.out (by rw[r.out];decide) a4.out).trans (by rw[u];rfl),rfl⟩⟩;clear B u q;go_wp2;exact⟨rfl,j.out⟩
      have q:OnlyS (fun k=>X k\/k=g\/k=m) w i:=(d.out.2.2.trans (OnlyS.ofBelow bg.out)).transN B (fun k o e=>by rcases e with e|e|e|e;exact v7 e;exact v6 (v7 e);exact v6 (v6 e);omega);have C:=bAl i (.cells #[.int .i64 id,.slice ag us.length a8] 228);have a2:=aq i 228 #[.int .i64 id,.slice ag us.length a8];have b9:=q.size;have y:=cE hrow;have j:Hid (NdP P S X B0 g m N (.iface ty v) (f+1) steps a x id w (.returned (inI i.1.size)) (i.alloc (.cells #[.int .i64 id,.slice ag us.length a8] 228))):=by
       refine⟨q.trans (OnlyS.ofBelow C),v7 ⟨.node id t,cc,cp,i.1.size::(rb ag++cr),_,_,(xn I.out (by rw[r.out];decide) a4.out).trans (by rw[bl];rfl),rfl,?_,?_,?_,af.below p C,by have b1:=z;simp only[w8]at b1;omega⟩⟩
       ·rw[IRep];exact⟨i.1.size,ag,a8,us,cr,rfl,rfl,a2,(hrow.below C).mono (wa _),O.below C⟩
       ·rw[zz];refine⟨fun M=> ?_,bm⟩;rcases w6.1 M with M|M
        ·have:=(y _ M).2;omega
        ·have:=O.lt _ M;omega
       ·intro k o;have b1:=cq.out;rcases w3.1 o with rfl|o
        ·omega
        ·rcases w6.1 o with o|o
         ·have b0:=(y k o).1;omega
         ·have b0:=T k o;omega
      clear af q C a2 y B hrow bl O bm T z;go_wp2_with fail;go_ret;exact j.out
     ·have cl:(kd==3)=false:=by simp[aB]
      have F:dQ P a id=false:=by
       rw[<-xA,fO,r.out];intro h;rcases h.2.2.2 with h|h;exact aA h;exact aB h
      have j:Hid (NdP P S X B0 g m N (.iface ty v) (f+1) steps a x id w (.panicked bI) c):=E.out _ d.out.2.2 F;go_wp2_with fail;refine(fi _).mono ?_;rintro e w' ⟨rfl,b⟩;obtain rfl:=b.symm;clear b;go_wp2;exact⟨rfl,j.out⟩
  ·have F:dQ P a id=false:=by
    rw[<-xA,fO];intro h;exact a9 h.2.1
   clear U ae z;go_wp2_with fail;refine(fi _).mono ?_;rintro e w' ⟨rfl,rfl⟩;go_wp2;exact⟨rfl,E.out _ bd F⟩
theorem xq(b:PgW P N)(a:Src P B0 ty fn v S X):∀f:Nat,NdC P S X B0 g m N (.iface ty v) f
 |0=>fun steps id e x w d c _ _ _=>absurd c (by have:=d.ok.le;omega)
 |f+1=>E7 b a f (xq b a f)
end
theorem xt:(prog.info? 3).map (fun i=>(i.zero,i.size,i.bytes))=some (some (.int .i64 0),1,8):=vk
theorem E9(l):∀u∈on l,u.oneCell'=true:=ints_oneCell .i64 l
theorem Own1.belowW{e w w' a n c xs}(h:Own1 e 0 w a n c xs)(b:Below w.1.size w w'):Own1 e 0 w' a n c xs:=h.below b
theorem Fa{w A rest o p W}(y:o.guard=none)(s x)(L:o.op= .call {callee:= .builtin .append,args:=#[s,x],argTypes:=#[100,100]})(B a n c xs)(M:p.eval s= .slice a n c)(f:Own1 3 B w a n c (on xs))(b m d l)(hx:p.eval x= .slice b m d)(D:Own1 3 0 w b m d (on l))(T:n+m<=1048576)(H:B<=w.1.size)(h:∀q r w',Own1 3 B w' q (n+m) r (on (xs++l))->Below B w w'->w.grownBy w' (Value.slice a n c).ownBlock->wpList prog A W rest (p.put o.dst (.slice q (n+m) r)) w'):wpList prog A W (o::rest) p w:=by
 obtain⟨i,I,N,O,P⟩:=DB xt;have z:l.length=m:=by have:=D.len;rwa [lP]at this
 cases b with
 |none=>
  have U:m=0/\d=0:=by
   rcases D.2 with⟨C,G⟩|⟨g,E,F,C,_⟩
   ·cases C;exact⟨rfl,rfl⟩
   ·cases C
  obtain⟨rfl,rfl⟩:=U;have K:=y3 z;subst K;refine wpList_append_own_none y s x _ L B 3 i 1 underlying100 I _ n (on xs) M f hx ?_;exact h a c w (by simpa using f) t7 ⟨rfl,rfl,rfl,t6,fun _ _ _=>rfl⟩
 |some Q=>
  refine wpList_append_own w y s x _ L B 3 i _ 1 8 underlying100 I N O P rfl uA _ n (on xs) M f Q m d (on l) hx (by rw[lP,z];omega) ?_ (E9 l) (by unfold maxLen;omega) uA H ?_
  ·intro j u J;have X:j<l.length:=by have:=(wC.1 J).1;rwa [lP]at this
   obtain⟨g,e,_,_,_,R⟩:=D.at_ uA;cases e;rw[C8,wE,R j uA];rw[List.getD,J]
   rfl
  ·intro v' w' t v _;rw[fv]at t;have V:∃q r,v'= .slice q (n+m) r:=by
    rcases t.2 with⟨rfl,G⟩|⟨g,E,F,rfl,_⟩
    ·exact⟨none,0,by rw[G]⟩
    ·exact⟨_,_,rfl⟩
   obtain⟨q,r,rfl⟩:=V;exact h q r w' t (t7.grown v H (fun k S=>(Ct f k S).1)) v
theorem Fb(n:Nat)(w)(q:n<=1048576):
 Calls prog 151 #[.slice none 0 0,.int .i64 n] w fun e w'=> ∃a c,e= .returned (.slice a 0 c)/\Below w.1.size w w'/\Own1 3 w.1.size w' a 0 c []:=by
 by_cases g:0<n
 ·obtain⟨i,j,d,p,f⟩:=DB xt;have k:=fun l m=>Lib.run_append_nil_zeros (P:=prog) m 100 3 l 3 i _ .i64 .i64 underlying100 C4 j d n g uA uA (by rw[f];omega);go_enter func151,ntmps151;go_wp2_with (at_builtin;refine Lib.wpList_append_run _ rfl _ _ _ _ rfl _ _ rfl rfl _ _ (k _ _) ?_);go_ret;have o:=grownCap_ge w n 0 3;have b:=grownCap_le_maxLen w n 0 3 (by unfold maxLen;omega);refine⟨_,_,rfl,(bAl _ _).drew,?_⟩;refine World.ownsRow_made (size:=1) w _ _ t6 b ?_;simp[size_zeroCells];omega
 ·have e:n=0:=uA;subst e;go_enter func151,ntmps151;go_wp2;go_ret;exact⟨none,0,rfl,t7,cQ _ _ _⟩
def dg(L:Nat->List Int):Nat->List Int
 |0=>[]
 |k+1=>dg L k++L k
theorem ry(L){j k}(h:j<=k):(dg L j).length<=(dg L k).length:=by
 induction k with
 |zero=>have:j=0:=uA;subst this;exact t6
 |succ k ih=>
  by_cases e:j=k+1
  ·subst e;exact t6
  ·have:=ih uA;simp[dg];omega
theorem Fc(b g n D)(F:Nat->Option Addr)(N G:Nat->Nat)(L w)(O:b<w.1.size)(X:n<=1048576)(s:∀i,i<n->w.cell? ⟨b,g+i,none⟩=some (.slice (F i) (N i) (G i)))(t:∀i,i<n->Own1 3 0 w (F i) (N i) (G i) (on (L i)))(R:(dg L n).length<=1048576):
 Calls prog 118 #[.slice (some ⟨b,g,none⟩) n D] w fun e w'=> ∃a c,e= .returned (.slice a (dg L n).length c)/\Below w.1.size w w'/\Own1 3 w.1.size w' a (dg L n).length c (on (dg L n)):=by
 go_enter func118,ntmps118;go_wp2
 go_loop [3,11] (fun x i=> ∃k:Nat,k<=n/\i= .int .i64 k/\x= .int .i64 ((dg L k).length:Nat)) (fun _ i=>n-(intOf i).toNat)
 case atStart=>exact⟨0,wa _,rfl,rfl⟩
 case round=>
  obtain⟨k,P,rfl,rfl⟩:=hrel;have W:=ry L P;by_cases d:k<n
  ·have y:=s k d;have C:=t k d;have l:Hid ((dg L (k+1)).length=(dg L k).length+N k):=by
    show(dg L k++L k).length= _;rw[wb,(show(L k).length=N k by have:=C.len;rwa [lP]at this)]
   have m:=ry L (show k+1<=n from d);rw[l.out]at m;generalize (dg L k).length=T at*;generalize N k=U at*;have Q:¬((T:Int)+(U:Int)<0):=uA;clear s t C;go_wp2
   go_round
   case rel=>exact⟨k+1,uA,by go_num,by rw[l.out];go_num⟩
   case measure=>simp[intOf];omega
  ·have e:k=n:=uA;subst e;go_wp2_with fail;refine(Fb (dg L k).length _ R).mono ?_;rintro e w1 ⟨J,M,rfl,v,A⟩;go_wp2_with fail;go_loopw [6,27] (fun o i wr=> ∃j a c,j<=k/\i= .int .i64 (j:Nat)/\o= .slice a (dg L j).length c/\Below w.1.size w wr/\Own1 3 w.1.size wr a (dg L j).length c (on (dg L j))) (fun _ i _=>k-(intOf i).toNat)
   case atStart=>exact⟨0,J,M,wa _,rfl,rfl,v,A⟩
   case round=>
    obtain⟨j,a,c,V,rfl,rfl,f,q⟩:=hrel;by_cases d:j<k
    ·have y:wr.cell? ⟨b,g+j,none⟩=some (.slice (F j) (N j) (G j)):=by rw[f.cell (p:=⟨b,g+j,none⟩) O];exact s j d
     have r:=(t j d).belowW f;have m:=ry L (show j+1<=k from d);have l:Hid ((dg L (j+1)).length=(dg L j).length+N j):=by
      show(dg L j++L j).length= _;rw[wb,(show(L j).length=N j by have:=r.len;rwa [lP]at this)]
     rw[l.out]at m;have H:Hid (dg L (j+1)=dg L j++L j):=rfl;have S:=f.size;clear s t A v;go_wp2_with (at_builtin;refine Fa rfl _ _ rfl w.1.size a _ c (dg L j) rfl ?own (F j) (N j) (G j) (L j) rfl ?bs ?len ?B ?_)
     case own=>exact q
     case bs=>exact r
     case len=>omega
     case B=>exact S
     intro I K w' z u _;have E:=f.trans u;rw[<-l.out,<-H.out]at z;rw[<-l.out];clear q f u r y;go_wp2;go_roundw
     case rel=>exact⟨j+1,I,K,uA,by go_num,rfl,E,z⟩
     case measure=>simp[intOf];omega
    ·have e:j=k:=uA;subst e;go_wp2;go_ret;exact⟨a,c,rfl,f,q⟩
theorem xu{e B w w' a n c xs}(h:Own1 e B w a n c xs)(b:∀k∈rb a,w'.heap[k]?=w.heap[k]?):Own1 e B w' a n c xs:=by
 refine⟨h.1,?_⟩;rcases h.2 with h2|⟨g,cap,cur,e1,hB,hh,r⟩
 ·exact v7 h2
 ·cases e1;exact v6 ⟨g,_,cur,rfl,hB,(b g (by simp[rb])).trans hh,r⟩
theorem ld{e B w a n c xs}(h:Own1 e B w a n c xs):∀k∈rb a,B<=k/\k<w.1.size:=by
 intro k d;rcases h.2 with⟨b,_⟩|⟨g,j,l,b,f,i,r⟩
 ·cases b;simp[rb]at d
 ·cases b;simp[rb]at d;subst d;exact⟨f,(wy.1 i).1⟩
theorem rD(l i)(a:i<l.length):(on l).getD i undef= .int .i64 (l.getD i 0):=by
 simp[on,List.getD,a]
theorem Fd(B a c l x w)(h:Own1 3 B w a l.length c (on l))(F:l.length<=1048576):
 Calls prog 168 #[.slice a l.length c,.int .i64 x] w fun e w'=> ∃i:Int,e= .returned (.int .i64 i)/\(0<=i↔x∈l)/\w'=w:=by
 have b:∀i,i<l.length->∃g,a=some ⟨g,0,none⟩/\w.cell? ⟨g,i,none⟩=some (.int .i64 (l.getD i 0)):=fun i r=>by
  obtain⟨g,e,_,_,_,b⟩:=h.at_ uA;exact⟨g,e,by rw[b i r,rD l i r]⟩
 have v:Hid _:=b;clear b h;go_enter func168,ntmps168;go_wp2
 go_loop [8] (fun s=> ∃k:Nat,k<=l.length/\s= .int .i64 (k:Nat)/\∀j,j<k->l.getD j 0≠x) (fun s=>l.length-(intOf s).toNat)
 case atStart=>exact⟨0,wa _,rfl,fun j d=>absurd d (xN _)⟩
 case round=>
  obtain⟨k,E,rfl,n⟩:=hrel;have f:Hid _:=n;clear n;by_cases m:k<l.length
  ·obtain⟨g,rfl,C⟩:=v.out k m;have p:Hid (l.getD k 0∈l):=by show l.getD k 0∈l;rw[List.getD,wS m];exact za _
   generalize u:l.getD k 0=y at*;have z:Hid _:=u;clear u;by_cases q:x=y
   ·subst q;go_wp2;go_ret;exact⟨(k:Int),rfl,⟨fun _=>p.out,fun _=>by omega⟩,rfl⟩
   ·have D:(x==y)=false:=by simp[q]
    go_wp2
    go_round
    case rel=>
     refine⟨k+1,uA,by go_num,fun j d=> ?_⟩;by_cases t:j=k
     ·subst t;rw[z.out];exact fun e=>q e.symm
     ·exact f.out j uA
    case measure=>simp[intOf];omega
  ·have o:Hid (x∉l):=fun A=>by
    obtain⟨j,d,e⟩:=List.mem_iff_getElem.1 A;exact f.out j uA (by rw[List.getD,wS d];exact e)
   go_wp2;go_ret;exact⟨-1,rfl,⟨fun h=>by omega,fun h=>absurd h o.out⟩,rfl⟩
theorem Fe(B a c l x w)(h:Own1 3 B w a l.length c (on l))(g:l.length<=1048576):
 Calls prog 146 #[.slice a l.length c,.int .i64 x] w fun e w'=>(∃i:Int,e= .returned (.bool (decide (0<=i)))/\(0<=i↔x∈l))/\w'=w:=by
 have j:=Fd B a c l x w h g;clear h;go_enter func146,ntmps146;go_wp2_with fail;refine j.mono ?_;rintro e w1 ⟨i,rfl,b,d⟩;obtain rfl:=d.symm;have f:Hid _:=b;clear j b d;go_wp2;go_ret;exact⟨⟨i,rfl,f.out⟩,rfl⟩
theorem Ff(B a c l x w)(h:Own1 3 B w a l.length c (on l))(f:l.length<=1048576):
 Calls prog 146 #[.slice a l.length c,.int .i64 x] w fun e w'=>e= .returned (.bool (l.contains x))/\w'=w:=by
 refine(Fe B a c l x w h f).mono ?_;rintro e w1 ⟨⟨i,rfl,d⟩,rfl⟩;have b:l.contains x=decide (0<=i):=by
  rw[Bool.eq_iff_iff,D3,d,xr]
 rw[b];exact⟨rfl,rfl⟩
def pgN:Tr->List Int
 | .leaf id _=>[id]
 | .node id ks=>pgN ks++[id]
 | .nil=>[]
 | .cons _ t ks=>pgN t++pgN ks
theorem lg:∀t:Tr,(pgN t).Perm (ar t)
 | .leaf _ _=>List.Perm.refl _
 | .node id ks=>by
  rw[pgN,ar];exact(List.perm_append_comm).trans ((lg ks).cons id)
 | .nil=>List.Perm.refl _
 | .cons _ t ks=>by
  rw[pgN,ar];exact(lg t).append (lg ks)
def dO(L:List (ByteArray×Tr)):List Int:=L.flatMap (fun x=>pgN x.2)
theorem rE:∀ks:Tr,isT ks=false->∀b,full ks b->pgN ks=dO (aC ks)
 | .leaf _ _,h,_,_=>by simp[isT]at h
 | .node _ _,h,_,_=>by simp[isT]at h
 | .nil,_,_,_=>by simp[pgN,dO,aC]
 | .cons s t ks,_,b,a=>by
  rw[full]at a;rw[pgN,aC,rE ks a.2.2.1 false a.2.2.2.2];simp[dO]
theorem oJ(L:List (ByteArray×Tr))(i)(a:i<L.length):dO (L.take (i+1))=dO (L.take i)++pgN (L.getD i t0).2:=by
 unfold dO;rw[x4 a,List.flatMap_append];simp[List.getD,List.getElem?_eq_getElem a]
def NVal(w:World)(v:Value)(id:Int):Prop:= ∃b ys,(v=lfI b/\Blk w 263 b (.int .i64 id::ys))\/(v=inI b/\Blk w 228 b (.int .i64 id::ys))
theorem NVal.keep{w w' v id}(h:NVal w v id)(a:∀t,t≠236->KeepT t w w'):NVal w' v id:=by
 obtain⟨b,c,⟨e,h⟩|⟨e,h⟩⟩:=h
 ·exact⟨b,c,v7 ⟨e,h.keepT (a _ uB)⟩⟩
 ·exact⟨b,c,v6 ⟨e,h.keepT (a _ uB)⟩⟩
theorem xv{e s B w a n c f}(h:ORow e s B w a n c f):∀k∈rb a,∃cs,w.heap[k]?=some (.cells cs e (0,0)):=by
 intro k d;rcases h.2 with⟨b,_⟩|⟨m,i,j,b,l,g,_⟩
 ·cases b;simp[rb]at d
 ·cases b;simp[rb]at d;subst d;exact⟨_,g⟩
theorem IRep.typed{w}:∀{t:Tr}{i:List Nat}{e:List (ByteArray×Value)},IRep w t i e->∀k∈i,∃cs j,j≠236/\w.heap[k]?=some (.cells cs j (0,0))
 | .leaf id es,i,e,h=>by
  rw[IRep]at h;obtain⟨b,a,c,rfl,_,f,g⟩:=h;intro k d;rcases w3.1 d with rfl|d
  ·exact⟨_,_,uB,f⟩
  ·obtain⟨cs,h⟩:=xv g k d;exact⟨cs,_,uB,h⟩
 | .node id ks,i,e,h=>by
  rw[IRep]at h;obtain⟨b,a,c,us,G,rfl,_,f,g,n⟩:=h;intro k d;rcases w3.1 d with rfl|d
  ·exact⟨_,_,uB,f⟩
  ·rcases w6.1 d with d|d
   ·obtain⟨cs,h⟩:=xv g k d;exact⟨cs,_,uB,h⟩
   ·exact n.typed k d
 | .nil,i,e,h=>by
  rw[IRep]at h;obtain⟨rfl,_⟩:=h;intro k d;cases d
 | .cons s t ks,i,e,h=>by
  rw[IRep]at h;obtain⟨v,us,o,p,rfl,_,l,m⟩:=h;intro k d;rcases w6.1 d with d|d
  ·exact l.typed k d
  ·exact m.typed k d
theorem IRep.keepN{w w' t g d}(h:IRep w t g d)(e:∀t,t≠236->KeepT t w w'):IRep w' t g d:=
 h.keep (fun k b=>by
  obtain⟨cs,f,c,a⟩:=h.typed k b;rw[(e f c).block k cs _ a,a])
theorem IRep.kid{w}:∀(ks:Tr),isT ks=false->∀b,full ks b->∀(G:List Nat)(us:List (ByteArray×Value)),IRep w ks G us->us.length=(aC ks).length/\∀i,i<us.length->∃f,IRep w ((aC ks).getD i t0).2 f [(strOfNums [],(us.getD i k0).2)]
 | .leaf _ _,h,_,_,_,_,_=>by simp[isT]at h
 | .node _ _,h,_,_,_,_,_=>by simp[isT]at h
 | .nil,_,_,_,G,us,h=>by
  rw[IRep]at h;obtain⟨_,rfl⟩:=h;exact⟨rfl,fun i c=>absurd c (xN _)⟩
 | .cons s t ks,_,b,a,G,us,h=>by
  rw[full]at a;rw[IRep]at h;obtain⟨v,m,d,e,_,rfl,g,j⟩:=h;obtain⟨l,k⟩:=IRep.kid ks a.2.2.1 false a.2.2.2.2 e m j;refine⟨by simp[aC,l],fun i c=> ?_⟩;cases i with
  |zero=>exact⟨d,g⟩
  |succ i=>exact k i (by simpa using c)
theorem xw:ElT 242 236 1 .nilIface 16:=⟨underlying242,vk,rfl,uA⟩
theorem Fg(p w):(Go.method 428 260 p "loop.example/s01906/impl.nodes").run prog w= .ok (225,p) w:=vk
theorem Fh(p w):(Go.method 428 223 p "loop.example/s01906/impl.nodes").run prog w= .ok (216,p) w:=vk
theorem xx:(prog.info? 239).map (·.size)=some 2:=vk
theorem oL{a:Type}{l m:List a}{i d}(h:i<l.length):(l++m).getD i d=l.getD i d:=by simp[List.getD,List.getElem?_append_left h]
structure NsQ(B:Nat)(w:World)(a:Option Addr)(n:Nat)(xs:List Value)(ids:List Int)(a':Option Addr)(c':Nat)(vals:List Value)(w':World):Prop where
 own:Own1 236 B w' a' (n+vals.length) c' (xs++vals)
 fr:OnlyS (fun k=>k∈rb a) w w'
 low:∀k∈rb a',k<w.1.size->k∈rb a
 keep:∀t,t≠236->KeepT t w w'
 len:vals.length=ids.length
 nv:∀i,i<vals.length->NVal w' (vals.getD i undef) (ids.getD i 0)
def NsP(B:Nat)(w:World)(a:Option Addr)(n:Nat)(xs:List Value)(ids:List Int)(e:Ending)(w':World):Prop:=
 ∃a' c' vals,e= .returned (.slice a' (n+vals.length) c')/\NsQ B w a n xs ids a' c' vals w'
def NsC(t:Tr):Prop:= ∀(v:Value)(G:List Nat)(w:World)(B:Nat)(a:Option Addr)(n c:Nat)(xs:List Value),IRep w t G [(strOfNums [],v)]->Own1 236 B w a n c xs->B<=w.1.size->n+(pgN t).length<=1048576->
 ∃ty p fn,v= .iface ty (.pointer p)/\(∀u,(Go.method 428 ty (.pointer p) "loop.example/s01906/impl.nodes").run prog u= .ok (fn,.pointer p) u)/\(∀args u,(callFunc fn args).run prog u= .ok (.enter fn args) u)/\Calls prog fn #[.pointer p,.slice a n c] w (NsP B w a n xs (pgN t))
theorem NsQ.one{B w wr a m n o xs b l}(h:NsQ B w a n xs l m o b wr){v id}(z:NVal wr v id){g p w'}(y:Own1 236 B w' (some ⟨g,0,none⟩) (n+b.length+1) p (xs++b++[v]))(s:(wr.alloc (.cells #[v] 236)).grownBy w' (Value.slice m (n+b.length) o).ownBlock)(r:m=some ⟨g,0,none⟩\/wr.1.size<g):NsQ B w a n xs (l++[id]) (some ⟨g,0,none⟩) p (b++[v]) w':=by
 have q:=bAl wr (.cells #[v] 236);have c:∀t,t≠236->KeepT t wr w':=fun t f=>(aV q).trans (bD (bQ h.own q) s (ED f));have A:=h.fr.size;refine⟨?_,(h.fr.trans (OnlyS.ofBelow q)).transN (OnlyS.ofGrown s) (fun k c e=>h.low k (xk k e) c),?_,fun t f=>(h.keep t f).trans (c t f),by simp[h.len],?_⟩
 ·rw[wb,<-wv];exact y
 ·intro k j x;simp[rb]at j;subst j;rcases r with e|e
  ·exact h.low _ (by rw[e];simp[rb]) x
  ·omega
 ·intro i u;by_cases d:i<b.length
  ·have:=(h.nv i d).keep c;rw[oL d,oL (by rw[<-h.len];exact d)];exact this
  ·have e:i=b.length:=by rw[wb]at u;simp at u;omega
   subst e;have:=z.keep c;simpa [List.getD,h.len]using this
theorem Fi(id es):NsC (.leaf id es):=by
 intro v G w B a n c xs p o t y;rw[IRep]at p;obtain⟨b,ab,D,rfl,q,d,_⟩:=p;have r:v=lfI b:=by simpa using q
 subst r;refine⟨_,_,225,rfl,Fg _,fun _ _=>rfl,?_⟩;have e:NVal w (lfI b) id:=⟨b,_,v7 ⟨rfl,d⟩⟩;have l:NsQ B w a n xs [] a c [] w:=⟨by simpa using o,OnlyS.refl _ _,fun k x _=>x,fun _ _=>KeepT.refl _ _,rfl,fun i u=>absurd u (xN _)⟩;have f:=uv l e;have m:n<=1048576:=uA;clear l e y d q;go_enter func225,ntmps225;go_wp2_with (at_builtin;refine iF rfl _ _ xw rfl B a n c xs rfl o (lfI b) rfl rfl m uA t ?_);intro g C E z A s j;go_wp2;go_ret;exact⟨_,_,[lfI b],rfl,f.out.1.one f.out.2 (by simpa using z) s j⟩
theorem xy(us n)(h:∀i,i<n->(us.getD i k0).2.oneCell'=true):IsRow 2 (kdF us) n:=⟨fun _ _=>rfl,fun i b u a=>by simp[kdF]at a;rcases a with rfl|rfl;rfl;exact h i b⟩
theorem Fj:∀t:Tr,isT t=true->1<=(pgN t).length
 | .leaf _ _,_=>by simp[pgN]
 | .node _ _,_=>by simp[pgN]
 | .nil,h=>by simp[isT]at h
 | .cons _ _ _,h=>by simp[isT]at h
theorem xz:∀ks:Tr,isT ks=false->∀b,full ks b->(aC ks).length<=(pgN ks).length
 | .leaf _ _,h,_,_=>by simp[isT]at h
 | .node _ _,h,_,_=>by simp[isT]at h
 | .nil,_,_,_=>by simp[aC]
 | .cons s t ks,_,b,a=>by
  rw[full]at a;have c:=Fj t a.2.1;have d:=xz ks a.2.2.1 false a.2.2.2.2;rw[pgN,aC,wb,w8];omega
theorem lh(L i):(dO (L.take i)).length<=(dO L).length:=by
 have e:dO L=dO (L.take i)++dO (L.drop i):=by
  unfold dO;rw[<-List.flatMap_append,A5]
 rw[e,wb];omega
theorem NsQ.trans{B w wr m w' a o p n v r xs b c j d}(h:NsQ B w a n xs j o v b wr)(q:Below wr.1.size wr m)(f:NsQ B m o (n+b.length) (xs++b) d p r c w'):NsQ B w a n xs (j++d) p r (b++c) w':=by
 have D:=h.fr.size;have C:=q.size;refine⟨?_,(h.fr.trans (OnlyS.ofBelow q)).transN f.fr (fun k l e=>h.low k e l),fun k l s=>h.low k (f.low k l uA) s,fun t u=>((h.keep t u).trans (aV q)).trans (f.keep t u),by rw[wb,wb,h.len,f.len],?_⟩
 ·rw[wb,<-wv,<-Nat.add_assoc];exact f.own
 ·intro i A;by_cases g:i<b.length
  ·have:=((h.nv i g).keep (fun t _=>aV q)).keep f.keep;rw[oL g,oL (by rw[<-h.len];exact g)];exact this
  ·have z:=f.nv (i-b.length) (by rw[wb]at A;omega);have x:(b++c).getD i undef=c.getD (i-b.length) undef:=by simp[List.getD,List.getElem?_append_right (Nat.le_of_not_lt g)]
   have y:(j++d).getD i 0=d.getD (i-b.length) 0:=by rw[h.len];simp[List.getD,List.getElem?_append_right (show j.length<=i by have:=h.len;omega)]
   rw[x,y];exact z
theorem Fk(id ks)(M:isT ks=false)(C)(N:full ks C)(ab:∀i,i< (aC ks).length->NsC ((aC ks).getD i t0).2):NsC (.node id ks):=by
 intro v G w B a n c xs a1 aT bP aS;rw[IRep]at a1;obtain⟨b,ae,am,us,a9,rfl,P,m,hrow,I⟩:=a1;have a2:v=inI b:=by simpa using P
 subst a2;obtain⟨bA,o⟩:=I.kid ks M C N a9 us;refine⟨_,_,216,rfl,Fh _,fun _ _=>rfl,?_⟩;have Y:pgN (.node id ks)=dO (aC ks)++[id]:=by rw[pgN,rE ks M C N]
 rw[Y]at aS ⊢;rw[wb,yb]at aS;have an:=xz ks M C N;rw[rE ks M C N]at an;generalize aC ks=L at*;have bC:w.cell? ⟨b,1,none⟩=some (.slice ae us.length am):=m.cell 1;have ap:NsQ B w a n xs (dO (L.take 0)) a c [] w:=⟨by simpa using aT,OnlyS.refl _ _,fun k bn _=>bn,fun _ _=>KeepT.refl _ _,rfl,fun i O=>absurd O (xN _)⟩;have ba:Hid _:=ap;have D:∀i,i<us.length->(us.getD i k0).2.oneCell'=true:=fun i O=>by
  obtain⟨Z,h⟩:=o i O;obtain⟨q,p,bk,e,_⟩:=ab i uA _ Z w 0 none 0 0 [] h (cQ _ _ _) (wa _) (by have:=oJ L i uA;have bl:=lh L (i+1);rw[this,wb]at bl;omega);rw[e]
  rfl
 have l:=uv m (vJ hrow (vJ o (vJ ab D)));have bu:us.length<=1048576:=uA;clear ap m hrow o ab aT P Y I D;go_enter func216,ntmps216;go_wp2_with fail;go_loopw [1,12] (fun bv a7 wr=> ∃(i:Nat)(y:Option Addr)(z:Nat)(d:List Value),bv= .slice y (n+d.length) z/\a7= .int .i64 (i:Nat)/\i<=us.length/\NsQ B w a n xs (dO (L.take i)) y z d wr) (fun _ s _=>us.length-(intOf s).toNat)
 case atStart=>exact⟨0,a,c,[],rfl,rfl,wa _,ba.out⟩
 case round=>
  obtain⟨i,y,z,d,rfl,rfl,O,g⟩:=hrel;obtain⟨f,a3⟩:=aa wr;subst a3;have J:=g.len;have bB:=g.fr.size;by_cases X:i<us.length
  ·have br:(i:Int)< (us.length:Int):=uA;have F:=oJ L i uA;have aX:=lh L (i+1);have a0:=lh L i;rw[F,wb]at aX;have H:ORow 239 2 0 f ae us.length am (kdF us):=cw l.out.2.1 (g.keep _ uB);obtain⟨a5,rfl,_,bz⟩:=oy H uA;have t:=fun j v P=>(H.reads (xy us _ l.out.2.2.2.2)).cells i X j v P;rw[show kdF us i=[.string (us.getD i k0).1,(us.getD i k0).2]from rfl]at t;obtain⟨Z,U⟩:=l.out.2.2.1 i X;have R:=l.out.2.2.2.1 i uA;generalize us.getD i k0=bg at*;obtain⟨sg,u⟩:=bg;have K:=bAl f (.cells #[.string sg,u] 239);obtain⟨q,p,bk,bs,a8,bm,r⟩:=R u Z (f.alloc (.cells #[.string sg,u] 239)) B y (n+d.length) z (xs++d) ((U.keepN g.keep).below K) (g.own.below K) (by have:=K.size;omega) (by rw[J];omega);subst bs;have ag:f.cell? ⟨a5,i*2,none⟩=some (.string sg):=by have:=t 0 _ rfl;simpa using this
   have ak:f.cell? ⟨a5,i*2+1,none⟩=some (.iface q (.pointer p)):=by have:=t 1 _ rfl;simpa using this
   have a4:=aq f 239 #[.string sg,.iface q (.pointer p)];have x:=uv g (vJ K F);clear t U R H g K F l J;go_upto_region 4 with(first|(refine bt rfl 239 _ _ rfl f #[.string (strOfNums []),.nilIface] #[.string sg,.iface q (.pointer p)] 239 rfl rfl xx rfl rfl ?_))
   change Code.wp _ _ _ _ (f.alloc (.cells #[.string sg,.iface q (.pointer p)] 239));generalize f.alloc (.cells #[.string sg,.iface q (.pointer p)] 239)=bb at*;generalize aA:f.1.size=bf at*;have bE:bb.cell? ⟨bf,1,none⟩=some (.iface q (.pointer p)):=Blk.cell a4 1;clear a4 ag ak;go_wp2_with fail;refine r.mono ?_;rintro e bx ⟨bc,af,Q,rfl,W⟩;have ac:=x.out.1.trans (by rw[aA];exact x.out.2.1) W;rw[<-x.out.2.2]at ac;have A:Hid _:=ac;clear r W ac;go_wp2_with fail;go_roundw
   case rel=>exact⟨i+1,bc,af,d++Q,by rw[wb,Nat.add_assoc],by go_num,uA,A.out⟩
   case measure=>simp[intOf];omega
  ·have aB:i=L.length:=uA;have E:=g.own;have V:NVal f (inI b) id:=⟨b,_,v6 ⟨rfl,l.out.1.keepT (g.keep _ uB)⟩⟩;have x:Hid (NsQ B w a n xs (dO L) y z d f/\NVal f (inI b) id):=⟨by have:=g;rw[aB,ya]at this;exact this,V⟩;have a0:=lh L i;have ad:n+d.length<=1048576:=uA;clear g V l J;go_wp2_with (at_builtin;refine iF rfl _ _ xw rfl B y (n+d.length) z (xs++d) rfl E (inI b) rfl rfl ad uA uA ?_);intro bF af bx a6 bd T S;have A:Hid _:=x.out.1.one x.out.2 (by rw[wv];exact a6) T S;clear a6 bd T S E;go_wp2_with fail;go_ret;exact⟨_,_,d++[inI b],by rw[wb];rfl,A.out⟩
theorem oP:∀t:Tr,(isT t=true->full t true->NsC t)/\(isT t=false->∀b,full t b->∀i,i< (aC t).length->NsC ((aC t).getD i t0).2)
 | .leaf id es=>⟨fun _ _=>Fi id es,fun h=>by simp[isT]at h⟩
 | .node id ks=>⟨fun _ a=>by
  rw[full]at a;have d:isT ks=false:=by obtain⟨s,t,r,rfl⟩:=a.1;rfl
  exact Fk id ks d true a.2 ((oP ks).2 d true a.2),fun h=>by simp[isT]at h⟩
 | .nil=>⟨fun h=>by simp[isT]at h,fun _ _ _ i c=>by simp[aC]at c⟩
 | .cons s t ks=>⟨fun h=>by simp[isT]at h,fun _ b a i c=>by
  rw[full]at a;cases i with
  |zero=>exact(oP t).1 a.2.1 a.2.2.2.1
  |succ i=>exact(oP ks).2 a.2.2.1 false a.2.2.2.2 i (by simpa [aC]using c)⟩
def Fl:Go.Shelf.Ren:=⟨fun|5=>150|8=>171|7=>170|19=>187|20=>188|10=>178|11=>179|12=>180|13=>181|14=>182|15=>183|16=>184|17=>185|18=>186|30=>190|31=>191|32=>192|33=>193|34=>194|35=>195|40=>196|n=>n,fun|23=>100|25=>3|3=>3|32=>247|22=>100|0=>0|44=>284|46=>286|4=>4|36=>277|35=>276|41=>211|5=>5|9=>9|53=>288|57=>292|63=>295|64=>296|n=>n,fun|n=>n⟩
theorem xB:Go.Proofs.SlLaysM.n5 prog Fl:={
 mixed:=vk
 f5:=⟨Tryz.f150.name,uB,func150.trans (C1 some vk)⟩
 f7:=⟨Tryz.f170.name,uB,func170.trans (C1 some vk)⟩
 f8:=func171.trans (C1 some vk)
 f10:=⟨Tryz.f178.name,uB,func178.trans (C1 some vk)⟩
 f11:=⟨Tryz.f179.name,uB,func179.trans (C1 some vk)⟩
 f12:=⟨Tryz.f180.name,uB,func180.trans (C1 some vk)⟩
 f13:=⟨Tryz.f181.name,uB,func181.trans (C1 some vk)⟩
 f14:=⟨Tryz.f182.name,uB,func182.trans (C1 some vk)⟩
 f15:=⟨Tryz.f183.name,uB,func183.trans (C1 some vk)⟩
 f16:=⟨Tryz.f184.name,uB,func184.trans (C1 some vk)⟩
 f17:=⟨Tryz.f185.name,uB,func185.trans (C1 some vk)⟩
 f18:=⟨Tryz.f186.name,uB,func186.trans (C1 some vk)⟩
 f19:=func187.trans (C1 some vk)
 f20:=func188.trans (C1 some vk)
 f30:=⟨Tryz.f190.name,uB,func190.trans (C1 some vk)⟩
 f31:=func191.trans (C1 some vk)
 f32:=func192.trans (C1 some vk)
 f33:=⟨Tryz.f193.name,uB,func193.trans (C1 some vk)⟩
 f34:=⟨Tryz.f194.name,uB,func194.trans (C1 some vk)⟩
 f35:=⟨Tryz.f195.name,uB,func195.trans (C1 some vk)⟩
 f40:=⟨Tryz.f196.name,uB,func196.trans (C1 some vk)⟩
 t0:=underlying0
 a0:=Tryz.isAgg0
 z0:=Tryz.sizeOf0
 v0:=Tryz.zeroValue0
 t3:=C4
 a3:=Tryz.isAgg3
 z3:=Tryz.sizeOf3
 v3:=Tryz.zeroValue3
 t4:=underlying4
 a4:=Tryz.isAgg4
 z4:=Tryz.sizeOf4
 v4:=Tryz.zeroValue4
 t5:=D0
 a5:=Tryz.isAgg5
 z5:=Tryz.sizeOf5
 v5:=Tryz.zeroValue5
 t9:=D7
 a9:=Tryz.isAgg9
 z9:=Tryz.sizeOf9
 v9:=Tryz.zeroValue9
 t22:=underlying100
 a22:=Tryz.isAgg100
 z22:=Tryz.sizeOf100
 v22:=Tryz.zeroValue100
 t23:=underlying100
 a23:=Tryz.isAgg100
 z23:=Tryz.sizeOf100
 v23:=Tryz.zeroValue100
 t25:=C4
 a25:=Tryz.isAgg3
 z25:=Tryz.sizeOf3
 v25:=Tryz.zeroValue3
 t32:=underlying247
 a32:=Tryz.isAgg247
 z32:=Tryz.sizeOf247
 v32:=Tryz.zeroValue247
 t35:=underlying276
 a35:=Tryz.isAgg276
 z35:=Tryz.sizeOf276
 v35:=Tryz.zeroValue276
 t36:=underlying277
 a36:=Tryz.isAgg277
 z36:=Tryz.sizeOf277
 v36:=Tryz.zeroValue277
 t41:=underlying211
 a41:=Tryz.isAgg211
 z41:=Tryz.sizeOf211
 v41:=Tryz.zeroValue211
 t44:=underlying284
 a44:=Tryz.isAgg284
 z44:=Tryz.sizeOf284
 v44:=Tryz.zeroValue284
 t46:=underlying286
 a46:=Tryz.isAgg286
 z46:=Tryz.sizeOf286
 v46:=Tryz.zeroValue286
 t53:=underlying288
 a53:=Tryz.isAgg288
 z53:=Tryz.sizeOf288
 v53:=Tryz.zeroValue288
 t57:=underlying292
 a57:=Tryz.isAgg292
 z57:=Tryz.sizeOf292
 v57:=Tryz.zeroValue292
 t63:=underlying295
 a63:=Tryz.isAgg295
 z63:=Tryz.sizeOf295
 v63:=Tryz.zeroValue295
 t64:=underlying296
 a64:=Tryz.isAgg296
 z64:=Tryz.sizeOf296
 v64:=Tryz.zeroValue296}
theorem xD(B a c l w)(h:Own1 3 B w a l.length c (on l))(q:l.length<=1048576):
 Calls prog 150 #[.slice a l.length c] w fun e w'=>e= .returned (.tuple #[])/\w.grownBy w' (Value.slice a l.length c).ownBlock/\Own1 3 B w' a l.length c (on (srt l)):=by
 rcases h.2 with⟨b,j⟩|⟨g,s,t,b,p,d,k,m,o,f⟩
 ·simp only[D5]at b;obtain⟨rfl,_,rfl⟩:=b;have i:=y3 j;subst i;refine CC (AnyM.slices_Sort_int_none xB none 0 w) ?_;rintro e w' ⟨rfl,rfl⟩;exact⟨rfl,⟨rfl,rfl,rfl,t6,fun _ _ _=>rfl⟩,by rw[show srt []=[]by simp[srt]];exact cQ _ _ _⟩
 ·simp only[D5]at b;obtain⟨rfl,_,rfl⟩:=b;rw[Nat.mul_one]at f;have r:l.length<4611686018427387904:=Nat.lt_of_le_of_lt q uB;refine CC (AnyM.slices_Sort_int xB g 0 c l w (holds_of_blockI d f) (wy.1 d).1 r) ?_;rintro e w' ⟨rfl,n,os,rfl⟩;exact⟨rfl,grownBy_sortedI _,ownsRow_sortedI (iX l) p d k m o⟩
