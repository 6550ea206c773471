import Derived.Test.YtnohmedccbogkaaGreatDoorCo21
namespace Go.Proofs.YtnohmedccbogkaaGreatDoor
open Go.Proofs.Tryz
open Go.RowKit
set_option linter.unusedVariables false
set_option maxRecDepth 100000
set_option maxHeartbeats 32000000
section
theorem zO{d:Nat}{Z w w'}(b:OnlyS Z w w')(c:∀k,Z k->∀cs fr,w.heap[k]?≠some (.cells cs d fr)):KeepT d w w':=
 ⟨b.size,fun k cs fr a=>by
  rw[b.block k (k6.1 a).1 (fun e=>c k e cs fr a)];exact a⟩
theorem Blk.notT{w c g a xs}(h:Blk w c g xs)(b:c≠a):∀cs fr,w.heap[g]?≠some (.cells cs a fr):=by
 intro cs fr e;unfold Blk at h;rw[h]at e;cases e;exact b rfl
theorem SetI.putd{w w':World}{m seen id}{b:DataW Nat}(c:w.ownsMap prog 3 unitElem m seen.length b)(d:∀i:Int,Maps.has b (.int .i64 i)=seen.contains i)(h:w'.ownsMap prog 3 unitElem m (seen.length+1) (b.put (.int .i64 id) (.agg []))):SetI w' m (id::seen):=
 ⟨_,h,fun i=>by
  by_cases a:i=id
  ·subst a;rw[Maps.has_put_same c.isMap (by trivial)];simp
  ·rw[Maps.has_put_other (by intro e;cases e;exact a rfl),d];simp[a]⟩
theorem Kv(w):(zeroValue 236).run prog w= .ok (.agg #[]) w:=kO
theorem l5:Maps.Keyed prog 3:=Maps.int_keyed r7
theorem zQ(id):prog.built 262 [(0,.int .i64 id)]=some #[.int .i64 id]:=kO
theorem zR{P f steps a x id l}(b:eB P a id=true)(h:P.kd id≠2)(c:P.bd id=l):wkT P (f+1) (steps:Nat) a x id=((inP l).bind fun ls=>wkK (wkT P f ((steps+1:Nat):Int)) ls true ⟨id::a.seen,a.tall⟩ x).map fun y=>(.node id y.1,y.2.1,y.2.2):=by
 rw[Ha b h,c];cases inP l with
 |none=>rfl
 |some ls=>rfl
theorem zS(a n c):prog.built 162 [(0,.slice a n c)]=some #[.slice a n c]:=kO
theorem Kw(id a n c):prog.built 302 [(0,.agg #[.int .i64 id]),(1,.slice a n c)]=some #[.int .i64 id,.slice a n c]:=kO
theorem Kx(id a n c):prog.built 265 [(0,.agg #[.int .i64 id]),(1,.slice a n c)]=some #[.int .i64 id,.slice a n c]:=kO
theorem Bs.blt{w a n c l}(h:Bs w a n c l):∀b off,0<n->a=some ⟨b,off,none⟩->b<w.1.size:=by
 intro b off g e;obtain⟨j,i,d,f,_⟩:=h.at_ g;rw[d]at e;cases e;exact f
variable {S:World->Prop} {X:Nat->Prop} {B0 g m N ty fn:Nat} {src v:Value} {P:Pg} {st:St} {x z:LSg} {w w':World}
theorem Wk.srcPut(b:Src P B0 ty fn v S X)(h:Wk S B0 g m N src w st x)(a:w.grownBy w' (some m)):S w':=by
 obtain⟨es,c,d⟩:=h.set.obj;have f:=OnlyS.ofGrown a;exact b.keep w w' h.src (f.below (by have:=h.blk.lt;have:=h.gB;omega) (fun k e=>by cases e;exact h.mB)) (zl a d)
theorem Wk.wrote(i:Src P B0 ty fn v S X)(h:Wk S B0 g m N src w st x){a n xs}(b:OnlyS (fun k=>k=g\/k=a) w w')(f:Blk w n a xs)(l:n≠5)(c:B0<=a)(d:a≠m)(j:Blk w' 271 g (wkc src m st.tall z)):Wk S B0 g m N src w' st z:=
 ⟨j,h.set.same (b.block m h.set.lt (fun e=>by rcases e with e|e;exact h.gm e.symm;exact d e.symm)),i.keep w w' h.src (b.below (by have:=h.blk.lt;have:=h.gB;omega) (fun k e=>by rcases e with rfl|rfl;exact h.gB;exact c)) (zO b (fun k e=>by rcases e with rfl|rfl;exact h.blk.notT kN;exact f.notT l)),h.gB,h.mB,h.ok⟩
theorem Ky(bk:PgW P N)(q:Src P B0 ty fn v S X)(f)(cb:NdC P S X B0 g m N (.iface ty v) f):NdC P S X B0 g m N (.iface ty v) (f+1):=by
 intro steps id a x w b cB cD b6 T;have co:=b.ok.le;have cd:=bk.le;have cC:=b.blk.lt;have cp:=b.set.lt;have b3:=b.gm;have cm:=b.gB;obtain⟨bs,bp,ah⟩:=b.set;have aH:=ah id;have L:keyOf prog 3 (.int .i64 id)=some (.int .i64 id):=Maps.keyOf_int_mk r7 (by have cy:IntKind.i64.min= -9223372036854775808:=rfl;have cz:IntKind.i64.max=9223372036854775807:=rfl;simp only[Lit.wf,ly,sZ];omega);have bn:w.cell? ⟨g,1,none⟩=some (.map (some m)):=b.blk.cell 1;have cv:Hid (Wk S B0 g m N (.iface ty v) w a x):=b;have bc:Hid _:=ah;have a9:=bAl w (.cells #[] 236);have ad:=b.below q a9;have U:=bp.alloc (.cells #[] 236);have E:Hid (∀w',OnlyS (fun k=>X k\/k=g\/k=m) w w'->eB P a id=false->NdP P S X B0 g m N (.iface ty v) (f+1) steps a x id w (.panicked aU) w'):=fun w' ci F=>⟨ci,kT ⟨G7 F,rfl⟩⟩;have bu:Hid (Maps.has bs (.int .i64 id)=a.seen.contains id):=aH;clear b ah aH;go_enter func184,ntmps184;go_upto_region 2 with(first|(at_lookup;refine wpList_lookup_own_unit _ rfl _ _ 269 rfl 3 236 l5 underlying269 (Kv _) m _ bs rfl bp _ _ rfl L ?_)|fail)
 change Code.wp _ _ _ _ (w.alloc (.cells #[] 236));have bv:Hid _:=a9;have cs:w.1.size<=(w.alloc (.cells #[] 236)).1.size:=a9.size;generalize w.alloc (.cells #[] 236)=bl at*;have A:SetI bl m a.seen:=⟨bs,U,bc.out⟩;have ba:OnlyS (fun k=>X k\/k=g\/k=m) w bl:=OnlyS.ofBelow bv.out;clear bp bn a9;generalize Maps.has bs (.int .i64 id)=cc at*;cases cc with
 |true=>
  have F:eB P a id=false:=by
   rw[<-nl,gV];intro h;exact h.2.2.1 (m9.1 bu.out.symm)
  clear U ad A;go_wp2_with fail
  all_goals (refine(f9 _).mono ?_;rintro e w' ⟨rfl,rfl⟩;go_wp2;exact⟨rfl,E.out _ ba F⟩)
 |false=>
  have ar:id∉a.seen:=fun h=>by have:=bu.out;rw[m9.2 h]at this;cases this
  by_cases a6:2<=id
  ·have bn:bl.cell? ⟨g,1,none⟩=some (.map (some m)):=ad.blk.cell 1;have Q:=kG ad A;have bh:a.seen.length<maxLen:=by unfold maxLen;omega
   clear ad A;go_wp2_with fail;refine(fl _).mono ?_;rintro e w' ⟨rfl,rfl⟩;go_upto_region 4 with(first|(at_mapUpdate;refine wpList_mapUpdate_own _ rfl _ _ _ 269 rfl 3 236 l5 underlying269 (unitElem (H:=Nat)) m _ bs rfl U bh _ _ _ rfl rfl L _ [] unitElem_mk ?_;intro a3 bt ag)|fail)
   have bH:=Q.out.1.srcPut q ag;have a0:=SetI.putd U bc.out bt;have s3:OnlyS (fun k=>X k\/k=g\/k=m) w a3:=ba.transN (OnlyS.ofGrown ag) (fun k _ e=>by cases e;exact kT (kT rfl));have bj:=Q.out.1.blk.onlyS (OnlyS.ofGrown ag) (fun e=>by cases e;exact b3 rfl);have cx:a3.cell? ⟨g,0,none⟩=some (.iface ty v):=bj.cell 0;have bF:=q.page a3 id bH b6 T;have ch:=q.meth;have ce:=q.ent;have ab:=kG a0 (kR s3 ag);clear a0 s3 ag bj bn bt U L bh bH ba;go_wp2_with fail;refine bF.mono ?_;clear bF;rintro e c ⟨b8,a7,⟨aw,n,o,rfl,ak⟩|⟨u,cE,n,nb,o,cw,rfl⟩⟩
   rotate_left
   ·have F:eB P a id=false:=by
     rw[<-nl,gV,u];intro h;exact absurd h.1 kN
    have J:OnlyS (fun k=>X k\/k=g\/k=m) w c:=ab.out.2.1.transN a7 (fun k _ e=>kV e);go_wp2_with fail;refine(f9 _).mono ?_;rintro e w' ⟨rfl,rfl⟩;go_wp2;exact⟨rfl,E.out _ J F⟩
   ·obtain⟨cn,b4⟩:=bk.ok id aw;have bx:Wk S B0 g m N (.iface ty v) a3 ⟨id::a.seen,a.tall⟩ x:=Q.out.1.see q kH b4 ar ab.out.1 ab.out.2.2;have a2:=bx.ofPage b8 a7 q.low;have J:OnlyS (fun k=>X k\/k=g\/k=m) w c:=ab.out.2.1.transN a7 (fun k _ e=>kV e);have ai:=bk.len id;have bP:c.cell? ⟨g,2,none⟩=some (.int .i64 a.tall):=a2.blk.cell 2;have bR:=a2.blk.free 2;have ct:=J.size;generalize b5:P.bd id=l at ak ai ⊢;generalize be:P.kd id=kd at ⊢;have a1:Hid (P.bd id=l):=b5;have s:Hid (P.kd id=kd):=be;have d:=kG a2 (kR ak J);clear b5 be a2 ak J bx Q ab a7 b8;by_cases am:kd=2
    ·subst am;have I:Hid (eB P a id=true):=gV.2 ⟨aw,a6,ar,kV s.out⟩;by_cases G:a.tall<0\/a.tall=(steps:Nat)
     ·have bw:Hid _:=G;rcases G with aO|bi
      rotate_left
      have aO:¬a.tall<0:=kH
      all_goals
       go_wp2_with fail;refine(fl _).mono ?_;rintro e w' ⟨rfl,b⟩;obtain rfl:=b.symm;clear b;go_wp2_with fail;refine(fl _).mono ?_;rintro e w' ⟨rfl,b⟩;obtain rfl:=b.symm;clear b;have a8:=aB c g 2 (.int .i64 (steps:Nat));have bz:Wk S B0 g m N (.iface ty v) (c.setCell ⟨g,2,none⟩ (.int .i64 (steps:Nat))) ⟨id::a.seen,(steps:Nat)⟩ x:=d.out.1.put q a8 (d.out.1.blk.set 2 _) rfl;have ca:=d.out.2.1.keep (aV a8 d.out.1.blk kN);have bq:=d.out.2.2.transN (OnlyS.ofB a8) (fun k _ e=>kT (kV e));have cu:=bq.size;have V:=kG bz (kR ca bq);clear bz ca bq a8 d;go_upto_region 9 with fail
       generalize c.setCell ⟨g,2,none⟩ (.int .i64 (steps:Nat))=K at*;clear bP bR;have B:=bAl K (.cells #[.slice n l.length o] 162);have W:=V.out.1.below q B;have Z:=ao K 162 #[.slice n l.length o];have t:Cur (K.alloc (.cells #[.slice n l.length o] 162)) K.1.size K.1.size l:=⟨n,l.length,o,⟨Z,V.out.2.1.bs.below B,V.out.2.1.bs.blt⟩⟩;have bN:=JH g K.1.size K.1.size l (.iface ty v) m (steps:Nat) x _ W.blk t B.size ai kH;have b0:=zQ id;have b1:=zS n l.length o;have b2:=Kw id;have ac:=kG W (kR Z B);clear W Z t B;go_wp2_with fail;refine bN.mono ?_;clear bN;rintro e i ⟨C,⟨es,Y,a4,z,ap,rfl,aS,R⟩|⟨u,rfl⟩⟩
       rotate_left
       ·have r:OnlyS (fun k=>X k\/k=g\/k=m) w i:=(V.out.2.2.trans (OnlyS.ofBelow ac.out.2.2)).transN C (fun k p e=>by rcases e with e|e;exact kT (kV e);omega);have j:Hid (NdP P S X B0 g m N (.iface ty v) (f+1) steps a x id w (.panicked aU) i):=⟨r,kT ⟨by rw[xx I.out s.out bw.out,a1.out,u];rfl,rfl⟩⟩;clear C u r;go_wp2;exact⟨rfl,j.out⟩
       have ae:=ac.out.1.wrote q C ac.out.2.1 kN kH kH R;have r:OnlyS (fun k=>X k\/k=g\/k=m) w i:=(V.out.2.2.trans (OnlyS.ofBelow ac.out.2.2)).transN C (fun k p e=>by rcases e with e|e;exact kT (kV e);omega);have D:=bAl i (.cells #[.int .i64 id,.slice Y es.length a4] 302);have aX:=ao i 302 #[.int .i64 id,.slice Y es.length a4];have b7:=r.size;have y:=dw aS;have j:Hid (NdP P S X B0 g m N (.iface ty v) (f+1) steps a x id w (.returned (lfI i.1.size)) (i.alloc (.cells #[.int .i64 id,.slice Y es.length a4] 302))):=by
        refine⟨r.trans (OnlyS.ofBelow D),kV ⟨.leaf id es,⟨id::a.seen,(steps:Nat)⟩,z,i.1.size::rb Y,_,_,by rw[xx I.out s.out bw.out,a1.out,ap];rfl,rfl,?_,?_,?_,ae.below q D,kP⟩⟩
        ·rw[IRep];exact⟨i.1.size,Y,a4,rfl,rfl,aX,(aS.below D).mono (kX _)⟩
        ·rw[o9];exact⟨fun M=>by have:=(y _ M).2;omega,by cases Y<;>simp[rb]⟩
        ·intro k p;rcases l3.1 p with rfl|p
         ·omega
         ·have bS:=(y k p).1;have a6:=V.out.2.2.size;have cA:=ac.out.2.2.size;omega
       clear ae r D aX y C aS R ap;go_wp2_with fail;go_ret;exact j.out
     ·have aO:¬a.tall<0:=fun h=>G (kV h);have bi:¬a.tall=(steps:Nat):=fun h=>G (kT h);clear G;have cr:(a.tall==(steps:Nat))=false:=by simp[bi]
      have j:Hid (NdP P S X B0 g m N (.iface ty v) (f+1) steps a x id w (.panicked aU) c):=⟨d.out.2.2,kT ⟨G9 s.out kH,rfl⟩⟩;go_wp2_with fail;refine(fl _).mono ?_;rintro e w' ⟨rfl,b⟩;obtain rfl:=b.symm;clear b;go_wp2_with fail;rw[show decide (a.tall<0)=false by simp[aO]];refine(f9 _).mono ?_;rintro e w' ⟨rfl,b⟩;obtain rfl:=b.symm;clear b;go_wp2;exact⟨rfl,j.out⟩
    ·have cf:(kd==2)=false:=by simp[am]
     by_cases an:kd=3
     ·subst an;have I:Hid (eB P a id=true):=gV.2 ⟨aw,a6,ar,kT s.out⟩;have B:=bAl c (.cells #[.slice n l.length o] 162);have W:=d.out.1.below q B;have Z:=ao c 162 #[.slice n l.length o];have t:Cur (c.alloc (.cells #[.slice n l.length o] 162)) c.1.size c.1.size l:=⟨n,l.length,o,⟨Z,d.out.2.1.bs.below B,d.out.2.1.bs.blt⟩⟩;have bE:Calls prog 208 #[.pointer (some ⟨g,0,none⟩),.pointer (some ⟨c.1.size,0,none⟩),.int .i64 ((steps:Int)+1)] (c.alloc (.cells #[.slice n l.length o] 162)) (KdP P S X B0 g m N (.iface ty v) f (steps+1) l ⟨id::a.seen,a.tall⟩ x c.1.size (c.alloc (.cells #[.slice n l.length o] 162))):=
       JO P B0 ty fn v S X q g m N (.iface ty v) f cb (steps+1) l c.1.size c.1.size ⟨id::a.seen,a.tall⟩ x _ W t B.size ai kH kH kH (by simp only[m1];omega) (by simp only[m1];omega)
      have b0:=zQ id;have b1:=zS n l.length o;have b2:=Kx id;have bd:Hid _:=B;have cq:(steps:Int)+1<=1025:=kH;have ck:Hid ((c.alloc (.cells #[.slice n l.length o] 162)).1.size=c.1.size+1):=by show(c.alloc (.cells #[.slice n l.length o] 162)).1.size=c.1.size+1;simp
      clear W Z t B bP bR;go_wp2_with fail;refine(fl _).mono ?_;rintro e w' ⟨rfl,b⟩;obtain rfl:=b.symm;clear b;go_wp2_with fail;refine bE.mono ?_;clear bE;rintro e i ⟨C,⟨cF,b9,z,cl,bb,af,a5,bf,rfl,aS,O,bg,T,ae,A⟩|⟨u,rfl⟩⟩
      rotate_left
      ·have r:OnlyS (fun k=>X k\/k=g\/k=m) w i:=(d.out.2.2.trans (OnlyS.ofBelow bd.out)).transN C (fun k p e=>by rcases e with e|e|e|e;exact kV e;exact kT (kV e);exact kT (kT e);omega);have j:Hid (NdP P S X B0 g m N (.iface ty v) (f+1) steps a x id w (.panicked aU) i):=⟨r,kT ⟨(zR I.out (by rw[s.out];decide) a1.out).trans (by rw[u];rfl),rfl⟩⟩;clear C u r;go_wp2;exact⟨rfl,j.out⟩
      have r:OnlyS (fun k=>X k\/k=g\/k=m) w i:=(d.out.2.2.trans (OnlyS.ofBelow bd.out)).transN C (fun k p e=>by rcases e with e|e|e|e;exact kV e;exact kT (kV e);exact kT (kT e);omega);have D:=bAl i (.cells #[.int .i64 id,.slice af bb.length a5] 265);have aX:=ao i 265 #[.int .i64 id,.slice af bb.length a5];have b7:=r.size;have y:=dw aS;have j:Hid (NdP P S X B0 g m N (.iface ty v) (f+1) steps a x id w (.returned (inI i.1.size)) (i.alloc (.cells #[.int .i64 id,.slice af bb.length a5] 265))):=by
       refine⟨r.trans (OnlyS.ofBelow D),kV ⟨.node id cF,b9,z,i.1.size::(rb af++cl),_,_,(zR I.out (by rw[s.out];decide) a1.out).trans (by rw[bf];rfl),rfl,?_,?_,?_,ae.below q D,by have bY:=A;simp only[m1]at bY;omega⟩⟩
       ·rw[IRep];exact⟨i.1.size,af,a5,bb,cl,rfl,rfl,aX,(aS.below D).mono (kX _),O.below D⟩
       ·rw[o9];refine⟨fun M=> ?_,bg⟩;rcases mx.1 M with M|M
        ·have:=(y _ M).2;omega
        ·have:=O.lt _ M;omega
       ·intro k p;have bY:=ck.out;rcases l3.1 p with rfl|p
        ·omega
        ·rcases mx.1 p with p|p
         ·have bS:=(y k p).1;omega
         ·have bS:=T k p;omega
      clear ae r D aX y C aS bf O bg T A;go_wp2_with fail;go_ret;exact j.out
     ·have cg:(kd==3)=false:=by simp[an]
      have F:eB P a id=false:=by
       rw[<-nl,gV,s.out];intro h;rcases h.2.2.2 with h|h;exact am h;exact an h
      have j:Hid (NdP P S X B0 g m N (.iface ty v) (f+1) steps a x id w (.panicked aU) c):=E.out _ d.out.2.2 F;go_wp2_with fail;refine(f9 _).mono ?_;rintro e w' ⟨rfl,b⟩;obtain rfl:=b.symm;clear b;go_wp2;exact⟨rfl,j.out⟩
  ·have F:eB P a id=false:=by
    rw[<-nl,gV];intro h;exact a6 h.2.1
   clear U ad A;go_wp2_with fail;refine(f9 _).mono ?_;rintro e w' ⟨rfl,rfl⟩;go_wp2;exact⟨rfl,E.out _ ba F⟩
theorem zT(b:PgW P N)(a:Src P B0 ty fn v S X):∀f:Nat,NdC P S X B0 g m N (.iface ty v) f
 |0=>fun steps id e x w d c _ _ _=>absurd c (by have:=d.ok.le;omega)
 |f+1=>Ky b a f (zT b a f)
end
