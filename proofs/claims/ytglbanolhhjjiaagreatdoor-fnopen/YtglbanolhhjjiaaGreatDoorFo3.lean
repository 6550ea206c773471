import Derived.Deep.RegionHeld
import Derived.Test.YtglbanolhhjjiaaGreatDoorFo2
namespace Go.Proofs.YtglbanolhhjjiaaGreatDoor
open Go.Proofs.Tryz
open Go.RowKit
set_option linter.unusedVariables false
set_option maxRecDepth 100000
set_option maxHeartbeats 32000000
section
variable {P:Program} {ops:Array Oper} {Q:Exit->Act->World->Prop} {md:Region.Mode} {S:World->Prop} {D:Nat->Bool}
def bh(P:Program)(md:Region.Mode)(ops:Array Oper)(Q:Exit->Act->World->Prop)(S:World->Prop)(D:Nat->Bool):Nat->Array Bool->Act->World->Prop
 |0,listed,a,w=>Region.ready md ops listed=[]/\Q .normal a w
 |fuel+1,listed,a,w=>
  (Region.ready md ops listed=[]->Q .normal a w)/\
  ∀i∈Region.ready md ops listed,wpOp P ops Q i (fun a' w'=>(D i=false->S w')/\bh P md ops Q S D fuel (listed.setIfInBounds i true) a' w') a w
theorem tW:∀(b:Nat)(c:Array Bool)(a:Act)(w:World),bh P md ops Q S D b c a w->wpAny P md ops Q b c a w
 |0,_,_,_,d=>d
 |b+1,_,_,_,d=>⟨d.1,fun i g=>wpOp_mono (fun e w' f=>tW b _ e w' f.2) (d.2 i g)⟩
theorem Aq{i oi v}(I:ops[i]?=some oi)(u:∀(j:Nat)(o:Oper) cs b,ops[j]?=some o->o.op≠ .select cs b)(W:∀c a w,Q (.panic c) (a.put oi.dst v) w->Q (.panic c) a w)(V:∀j h,ops[j]?=some h->D j=true->∃e∈h.after,Region.binds md e=true/\e.on=i):
 ∀(g:Nat)(d:Array Bool)(a:Act)(w:World),
  (∀j h,ops[j]?=some h->j≠i->d.getD j true=false->(∀e∈h.after,Region.binds md e=true->e.on≠i)->oi.apart ops h=true)->
  i∈Region.ready md ops d->YieldsIf P ops S oi v a->S w->
  bh P md ops Q S D g (d.setIfInBounds i true) (a.put oi.dst v) w->bh P md ops Q S D (g+1) d a w:=by
 intro g;induction g with
 |zero=>
  intro d a w _ m A q H;refine⟨fun T=>(by rw[T]at m;cases m),fun j z=> ?_⟩;by_cases f:j=i
  ·subst f;exact A.wpOp I q ⟨fun _=>q,H⟩
  ·have:=ready_mono z f;rw[H.1]at this;cases this
 |succ g ih=>
  intro d a w n m A q H;refine⟨fun T=>(by rw[T]at m;cases m),fun j z=> ?_⟩;by_cases f:j=i
  ·subst f;exact A.wpOp I q ⟨fun _=>q,H⟩
  ·have l:=H.2 j (ready_mono z f);obtain⟨s,h,p,E⟩:=mem_ready.1 z;have t:∀e∈h.after,Region.binds md e=true->e.on≠i:=fun e G F L=>by
    have l:=E e G F;have J:=(mem_ready.1 m).1;rw[L]at l;rcases w9 i d.size with h'|h'
    ·simp[h']at J l;rw[J]at l;cases l
    ·simp[Array.getElem?_eq_none h']at l
   have K:D j=false:=by
    cases X:D j with
    |false=>rfl
    |true=>obtain⟨e,G,F,O⟩:=V j h p X;exact absurd O (t e G F)
   have U:=wpOp_putIf p (n j h p f s t) (fun cs b=>u i oi cs b I) (fun cs b=>u j h cs b p) W A l;have r:∀k x,ops[k]?=some x->k≠i->(d.setIfInBounds j true).getD k true=false->
    (∀e∈x.after,Region.binds md e=true->e.on≠i)->oi.apart ops x=true:=fun k x Y M C N=>by
    refine n k x Y M ?_ N;by_cases B:j=k
    ·subst B;exact s
    ·rw[getD_set_ne true B]at C;exact C
   refine wpOp_mono (fun R w' y=>⟨y.2.1,ih (d.setIfInBounds j true) R w' r (ready_mono m (DX f)) y.1 (y.2.1 K) ?_⟩) U;rw[Array.setIfInBounds_comm _ _ f];exact y.2.2
def pZ(md:Region.Mode)(ops:Array Oper)(D:Nat->Bool)(i:Nat):Bool:=
 (List.range ops.size).all fun j=> !(D j)||match ops[j]? with|none=>true|some o=>o.after.any fun e=>Region.binds md e&&e.on==i
theorem Ar{i}(k:pZ md ops D i=true)(j d)(c:ops[j]?=some d)(f:D j=true):∃e∈d.after,Region.binds md e=true/\e.on=i:=by
 have h:=(vR.1 c).1;have b:=x9.1 k j (wS.2 h);simp only[f,c,Bool.not_true,Bool.false_or,Array.any_eq_true']at b;obtain⟨e,g,a⟩:=b;simp only[wz,beq_iff_eq]at a;exact⟨e,g,a.1,a.2⟩
theorem cY(i){oi v d b a w}(e:ops[i]?=some oi)(k:Region.noSelect ops=true)(h:Region.free md ops b i=true)(j:(Region.ready md ops b).contains i=true)(l:pZ md ops D i=true)(f:∀c a w,Q (.panic c) (a.put oi.dst v) w->Q (.panic c) a w)(m:YieldsIf P ops S oi v a)(g:S w)(n:bh P md ops Q S D d (b.setIfInBounds i true) (a.put oi.dst v) w):bh P md ops Q S D (d+1) b a w:=
 Aq e (Region.noSelect_spec k) f (Ar l) d b a w (Region.free_spec e h) (by simpa using j) m g n
theorem nj(i d:Nat){oi v e b a w}(k:ops[i]?=some oi)(h:oi.dst=some d)(m:Region.noSelect ops=true)(j:Region.free md ops b i=true)(l:(Region.ready md ops b).contains i=true)(n:pZ md ops D i=true)(f:∀c a w,Q (.panic c) (a.put oi.dst v) w->Q (.panic c) a w)(o:YieldsIf P ops S oi v a)(g:S w)(p:bh P md ops Q S D e (b.setIfInBounds i true) (a.put (some d) v) w):bh P md ops Q S D (e+1) b a w:=
 cY i k m j l n f o g (by rw[h];exact p)
theorem cJ(i){o c b a w}(f:Region.ready md ops b=[i])(l:ops[i]?=some o)(m:∀K':Act->World->Prop,Shut (∀a w,(D i=false->S w)->bh P md ops Q S D c (b.setIfInBounds i true) a w->K' a w)->if Region.wanted o (yielded ops a.tmps)=true then Oper.wp P o a w K' Q else K' (a.put o.dst undef) w):bh P md ops Q S D (c+1) b a w:=
 ⟨fun d=>(by rw[f]at d;cases d),fun j e=>by
  rw[f]at e;obtain rfl:j=i:=by simpa using e
  exact wpOp_step l (fun K' g=>m K' (fun a w h k=>g a w ⟨h,k⟩))⟩
theorem on1(i:Nat){o:Oper}{c:Nat}{b:Array Bool}{a:Act}{w:World}
 (h:∀K':Act->World->Prop,Shut (∀a w,(D i=false->S w)->bh P md ops Q S D c (b.setIfInBounds i true) a w->K' a w)->Oper.wp P o a w K' Q)(g:Region.ready md ops b=[i]:=by kernel_rfl)(f:ops[i]?=some o:=by rfl)(e:Region.wanted o (yielded ops a.tmps)=true:=by rfl):bh P md ops Q S D (c+1) b a w:=
 cJ i g f fun K' d=>by rw[BC e];exact h K' d
theorem j5{b a w}(d:Region.ready md ops b=[])(e:Q .normal a w):∀c,bh P md ops Q S D c b a w
 |0=>⟨d,e⟩
 |_+1=>⟨fun _=>e,by rw[d];simp⟩
theorem az(S D){id a w}(b:P.follows .mixedOrders=true)(c:bh P .any ops Q S D ops.size (Array.replicate ops.size false) a w.drew):(Code.region id ops true).wp P Q a w:=
 wp_region_any b (tW _ _ _ _ c)
end
section
variable {P:Program} {ops:Array Oper} {Q:Exit->Act->World->Prop} {md:Region.Mode} {S:World->Prop} {D:Nat->Bool}
theorem As{i oi v}(q:Nat->Bool)(R:ops[i]?=some oi)(I:∀(j:Nat)(o:Oper) cs b,ops[j]?=some o->o.op≠ .select cs b)(ae:∀c a w,Q (.panic c) (a.put oi.dst v) w->Q (.panic c) a w)(ad:∀j f,ops[j]?=some f->D j=true->q j=true)(ac:∀j f,ops[j]?=some f->q j=true->∃e∈f.after,Region.binds md e=true/\(e.on=i\/q e.on=true)):
 ∀(l:Nat)(d:Array Bool)(a:Act)(w:World),(∀j,q j=true->d.getD j true=false)->
  (∀j f,ops[j]?=some f->j≠i->d.getD j true=false->(∀e∈f.after,Region.binds md e=true->e.on≠i)->oi.apart ops f=true)->
  i∈Region.ready md ops d->YieldsIf P ops S oi v a->S w->
  bh P md ops Q S D l (d.setIfInBounds i true) (a.put oi.dst v) w->bh P md ops Q S D (l+1) d a w:=by
 intro l;induction l with
 |zero=>
  intro d a w _ _ r N B H;refine⟨fun Z=>(by rw[Z]at r;cases r),fun j L=> ?_⟩;by_cases g:j=i
  ·subst g;exact N.wpOp R B ⟨fun _=>B,H⟩
  ·have:=ready_mono L g;rw[H.1]at this;cases this
 |succ l ih=>
  intro d a w p t r N B H;refine⟨fun Z=>(by rw[Z]at r;cases r),fun j L=> ?_⟩;by_cases g:j=i
  ·subst g;exact N.wpOp R B ⟨fun _=>B,H⟩
  ·have h:=H.2 j (ready_mono L g);obtain⟨F,f,m,C⟩:=mem_ready.1 L;have z:∀e∈f.after,Region.binds md e=true->d.getD e.on true≠false:=fun e y x A=>by
    have h:=C e y x;rcases w9 e.on d.size with h'|h'
    ·simp[h']at A h;rw[A]at h;cases h
    ·simp[Array.getElem?_eq_none h']at h
   have G:∀e∈f.after,Region.binds md e=true->e.on≠i:=fun e y x V=>by
    have h:=C e y x;have A:=(mem_ready.1 r).1;rw[V]at h;rcases w9 i d.size with h'|h'
    ·simp[h']at A h;rw[A]at h;cases h
    ·simp[Array.getElem?_eq_none h']at h
   have s:q j=false:=by
    cases O:q j with
    |false=>rfl
    |true=>
     obtain⟨e,y,x,n⟩:=ac j f m O;rcases n with n|n
     ·exact absurd n (G e y x)
     ·exact absurd (p _ n) (z e y x)
   have U:D j=false:=by
    cases O:D j with
    |false=>rfl
    |true=>rw[ad j f m O]at s;cases s
   have ab:=wpOp_putIf m (t j f m g F G) (fun cs b=>I i oi cs b R) (fun cs b=>I j f cs b m) ae N h;have T:∀k,q k=true->(d.setIfInBounds j true).getD k true=false:=fun k M=>by
    have u:j≠k:=fun e=>by rw[e,M]at s;cases s
    rw[getD_set_ne true u];exact p k M
   have E:∀k J,ops[k]?=some J->k≠i->(d.setIfInBounds j true).getD k true=false->
    (∀e∈J.after,Region.binds md e=true->e.on≠i)->oi.apart ops J=true:=fun k J M W p X=>by
    refine t k J M W ?_ X;by_cases u:j=k
    ·subst u;exact F
    ·rw[getD_set_ne true u]at p;exact p
   refine wpOp_mono (fun Y w' K=>⟨K.2.1,ih (d.setIfInBounds j true) Y w' T E (ready_mono r (DX g)) K.1 (K.2.1 U) ?_⟩) ab;rw[Array.setIfInBounds_comm _ _ g];exact K.2.2
def Au(md:Region.Mode)(ops:Array Oper)(i:Nat):List Bool:=
 (List.range ops.size).foldl (fun acc j=>acc++[match ops[j]? with|none=>false|some o=>o.after.any fun e=>Region.binds md e&&(e.on==i||acc.getD e.on false)]) []
def it(md:Region.Mode)(ops:Array Oper)(i j:Nat):Bool:=decide (j<ops.size)&&(Au md ops i).getD j false
def ie(md:Region.Mode)(ops:Array Oper)(D:Nat->Bool)(listed:Array Bool)(i:Nat):Bool:=
 (List.range ops.size).all fun j=>(!(D j)||it md ops i j)&&(!(it md ops i j)||(!(listed.getD j true)&&match ops[j]? with|none=>false|some o=>o.after.any fun e=>Region.binds md e&&(e.on==i||it md ops i e.on)))
theorem iu(i d:Nat){oi v f b a w}(r:ops[i]?=some oi)(n:oi.dst=some d)(C:Region.noSelect ops=true)(z:Region.free md ops b i=true)(B:(Region.ready md ops b).contains i=true)(E:ie md ops D b i=true)(u:∀c a w,Q (.panic c) (a.put oi.dst v) w->Q (.panic c) a w)(F:YieldsIf P ops S oi v a)(x:S w)(p:bh P md ops Q S D f (b.setIfInBounds i true) (a.put (some d) v) w):bh P md ops Q S D (f+1) b a w:=by
 have g:∀j,j<ops.size->(D j=true->it md ops i j=true)/\(it md ops i j=true->b.getD j true=false/\∀o,ops[j]?=some o->∃e∈o.after,Region.binds md e=true/\(e.on=i\/it md ops i e.on=true)):=fun j h=>by
  have l:=x9.1 E j (wS.2 h);simp only[wz,Bool.or_eq_true,Bool.not_eq_true']at l;refine⟨fun n=> ?_,fun y=> ?_⟩
  ·rcases l.1 with h2|h2
   ·rw[n]at h2;cases h2
   ·exact h2
  ·rcases l.2 with h2|h2
   ·rw[y]at h2;cases h2
   ·refine⟨h2.1,fun o A=> ?_⟩;have m:=h2.2;rw[A]at m;simp only[Array.any_eq_true',wz,Bool.or_eq_true,beq_iff_eq]at m;exact m
 have s:∀j,it md ops i j=true->j<ops.size:=fun j p=>by
  unfold it at p;simp only[wz,DB]at p;exact p.1
 refine As (it md ops i) r (Region.noSelect_spec C) u (fun j t h q=>(g j (vR.1 h).1).1 q)
  (fun j t h k=>((g j (vR.1 h).1).2 k).2 t h) f b a w (fun j k=>((g j (s j k)).2 k).1) (Region.free_spec r z) (by simpa using B) F x ?_
 rw[n];exact p
theorem nk(i d:Nat){oi:Oper}{v:Value}{e:Nat}{b:Array Bool}{a:Act}{w:World}(j:S w)
 (g:bh P md ops Q S D e (b.setIfInBounds i true) (a.put (some d) v) w)(n:ops[i]?=some oi:=by rfl)(k:oi.dst=some d:=by rfl)(m:Region.wanted oi (yielded ops a.tmps)=true:=by rfl)
 (p:Region.noSelect ops=true:=by kernel_rfl)(l:Region.free md ops b i=true:=by kernel_rfl)(o:(Region.ready md ops b).contains i=true:=by kernel_rfl)(q:ie md ops D b i=true:=by kernel_rfl)
 (r:∀w,S w->(execOp a.eval oi).run P w= .ok (.value v) w:=by(intro w f;(try dsimp only at f);go_simp;try with_reducible rfl))
 (h:∀c a w,Q (.panic c) (a.put oi.dst v) w->Q (.panic c) a w:=by exact fun _ _ _ g=>g):bh P md ops Q S D (e+1) b a w:=
 iu i d n k p l o q h (u5 ⟨m,r⟩) j g
end
theorem fx{a:Type}(l:List a)(d v):l.toArray.setIfInBounds d v=(l.set d v).toArray:=AF _ _ _
theorem fQ{P c l e S D}(i j){oi f d b a w}(n:Region.ready e c b=[i,j])(r:c[i]?=some oi)(s:c[j]?=some f)(p:∀K':Act->World->Prop,Shut (∀a w,(D i=false->S w)->bh P e c l S D d (b.setIfInBounds i true) a w->K' a w)->if Region.wanted oi (yielded c a.tmps)=true then Oper.wp P oi a w K' l else K' (a.put oi.dst undef) w)(q:∀K':Act->World->Prop,Shut (∀a w,(D j=false->S w)->bh P e c l S D d (b.setIfInBounds j true) a w->K' a w)->if Region.wanted f (yielded c a.tmps)=true then Oper.wp P f a w K' l else K' (a.put f.dst undef) w):bh P e c l S D (d+1) b a w:=
 ⟨fun m=>(by rw[n]at m;cases m),fun x hx=>by
  rw[n]at hx;have o:x=i\/x=j:=by simpa using hx
  rcases o with rfl|rfl
  ·exact wpOp_step r (fun K' g=>p K' (fun a w h k=>g a w ⟨h,k⟩))
  ·exact wpOp_step s (fun K' g=>q K' (fun a w h k=>g a w ⟨h,k⟩))⟩
theorem ei{w v o b K U T}(A:o.guard=none)(s x)(M:o.op= .call {callee:= .builtin .append,args:=#[s,x],argTypes:=#[56,56]})(B a n c xs)(N:b.eval s= .slice a n c)(q:Own B w a n c xs)(g m d l)(hx:b.eval x= .slice (some ⟨g,0,none⟩) m d)(r:Bs w (some ⟨g,0,none⟩) m d l)(L:n+m<=140737488355328)(z:B<=w.1.size)(W:∀f h w',Own B w' f (n+m) h (xs++l)->Below B w w'->w.grownBy w' (Value.slice a n c).ownBlock->K (b.put o.dst (.slice f (n+m) h)) w'):
 if Region.wanted o (yielded v b.tmps)=true then Oper.wp prog o b w K U else T:=by
 have P:Region.wanted o (yielded v b.tmps)=true:=by simp[Region.wanted,A]
 rw[BC P];obtain⟨i,I,D,E,F⟩:=CT jM;refine wp_append_own w s x _ M B 5 i _ 1 1 underlying56 I D E F rfl t7 _ n (ob xs) N q ⟨g,0,none⟩ m d (ob l) hx (by simp[ob,r.len_eq]) ?_ (pB l) (by unfold maxLen;omega) t7 z ?_
 ·intro j u y;have C:j<l.length:=by have:=(wb.1 y).1;simpa [ob]using this
  obtain⟨V,S,e,_,H⟩:=r.at_ (by have:=r.len_eq;omega);cases e;rw[jN? l j C]at y;rw[CR,H j (by have:=r.len_eq;omega)];exact y
 ·intro v' w' p t _;have e:ob xs++ob l=ob (xs++l):=by simp[ob]
  rw[e]at p;have O:∃f h,v'= .slice f (n+m) h:=by
   rcases p.2 with⟨rfl,G⟩|⟨g,Q,R,rfl,_⟩
   ·exact⟨none,0,by rw[G]⟩
   ·exact⟨_,_,rfl⟩
  obtain⟨f,h,rfl⟩:=O;exact W f h w' p (t2.grown t z (fun k J=>(BS q k J).1)) t
section
variable {P:Program} {ops:Array Oper} {Q:Exit->Act->World->Prop} {md:Region.Mode} {S:World->Prop} {D:Nat->Bool}
theorem ai(i:Nat){d:Nat}{oi:Oper}{v:Value}{e:Nat}{b:Array Bool}{a f:Act}{w:World}(k:S w)
 (h:bh P md ops Q S D e (b.setIfInBounds i true) f w)(p:ops[i]?=some oi:=by rfl)(m:oi.dst=some d:=by rfl)(o:Region.wanted oi (yielded ops a.tmps)=true:=by rfl)
 (r:Region.noSelect ops=true:=by kernel_rfl)(n:Region.free md ops b i=true:=by kernel_rfl)(q:(Region.ready md ops b).contains i=true:=by kernel_rfl)(s:ie md ops D b i=true:=by kernel_rfl)
 (t:∀w,S w->(execOp a.eval oi).run P w= .ok (.value v) w:=by(intro w g;(try dsimp only at g);go_simp;try with_reducible rfl))
 (l:a.put (some d) v=f:=by(simp only[Act.put,fx,List.set];first|done|exact rfl))
 (j:∀c a w,Q (.panic c) (a.put oi.dst v) w->Q (.panic c) a w:=by exact fun _ _ _ h=>h):bh P md ops Q S D (e+1) b a w:=
 iu i d p m r n q s j (u5 ⟨o,t⟩) k (by rw[l];exact h)
theorem aj(i:Nat){d:Nat}{oi:Oper}{v:Value}{e:Nat}{b:Array Bool}{a f:Act}{w:World}(k:S w)
 (h:bh P md ops Q S D e (b.setIfInBounds i true) f w)(p:ops[i]?=some oi:=by rfl)(m:oi.dst=some d:=by rfl)(o:Region.wanted oi (yielded ops a.tmps)=true:=by rfl)
 (r:Region.noSelect ops=true:=by kernel_rfl)(n:Region.free md ops b i=true:=by kernel_rfl)(q:(Region.ready md ops b).contains i=true:=by kernel_rfl)(s:ie md ops D b i=true:=by kernel_rfl)
 (t:∀w,S w->(execOp a.eval oi).run P w= .ok (.value v) w:=by(intro w g;obtain⟨u,x⟩:=g;go_simp;try with_reducible rfl))
 (l:a.put (some d) v=f:=by(simp only[Act.put,fx,List.set];first|done|exact rfl))
 (j:∀c a w,Q (.panic c) (a.put oi.dst v) w->Q (.panic c) a w:=by exact fun _ _ _ h=>h):bh P md ops Q S D (e+1) b a w:=
 iu i d p m r n q s j (u5 ⟨o,t⟩) k (by rw[l];exact h)
theorem au(i:Nat){d:Nat}{oi:Oper}{v:Value}{e:Nat}{b:Array Bool}{a f:Act}{w:World}(k:S w)
 (h:bh P md ops Q S D e (b.setIfInBounds i true) f w)(p:ops[i]?=some oi:=by rfl)(m:oi.dst=some d:=by rfl)(o:Region.wanted oi (yielded ops a.tmps)=true:=by rfl)
 (r:Region.noSelect ops=true:=by kernel_rfl)(n:Region.free md ops b i=true:=by kernel_rfl)(q:(Region.ready md ops b).contains i=true:=by kernel_rfl)(s:ie md ops D b i=true:=by kernel_rfl)
 (t:∀w,S w->(execOp a.eval oi).run P w= .ok (.value v) w:=by(intro w g;obtain⟨u,x,y⟩:=g;go_simp;try with_reducible rfl))
 (l:a.put (some d) v=f:=by(simp only[Act.put,fx,List.set];first|done|exact rfl))
 (j:∀c a w,Q (.panic c) (a.put oi.dst v) w->Q (.panic c) a w:=by exact fun _ _ _ h=>h):bh P md ops Q S D (e+1) b a w:=
 iu i d p m r n q s j (u5 ⟨o,t⟩) k (by rw[l];exact h)
theorem aM(i:Nat){d:Nat}{oi:Oper}(v:Value){e:Nat}{b:Array Bool}{a f:Act}{w:World}(j:S w)(s:∀w,S w->(execOp a.eval oi).run P w= .ok (.value v) w)
 (g:bh P md ops Q S D e (b.setIfInBounds i true) f w)(o:ops[i]?=some oi:=by rfl)(l:oi.dst=some d:=by rfl)(n:Region.wanted oi (yielded ops a.tmps)=true:=by rfl)
 (q:Region.noSelect ops=true:=by kernel_rfl)(m:Region.free md ops b i=true:=by kernel_rfl)(p:(Region.ready md ops b).contains i=true:=by kernel_rfl)(r:ie md ops D b i=true:=by kernel_rfl)
 (k:a.put (some d) v=f:=by(simp only[Act.put,fx,List.set];first|done|exact rfl))
 (h:∀c a w,Q (.panic c) (a.put oi.dst v) w->Q (.panic c) a w:=by exact fun _ _ _ g=>g):bh P md ops Q S D (e+1) b a w:=
 iu i d o l q m p r h (u5 ⟨n,s⟩) j (by rw[k];exact g)
theorem aE(i:Nat){d:Nat}{oi:Oper}{e:Nat}{b:Array Bool}{a f:Act}{w:World}(j:S w)
 (g:bh P md ops Q S D e (b.setIfInBounds i true) f w)(o:ops[i]?=some oi:=by rfl)(l:oi.dst=some d:=by rfl)(n:Region.wanted oi (yielded ops a.tmps)=false:=by rfl)
 (q:Region.noSelect ops=true:=by kernel_rfl)(m:Region.free md ops b i=true:=by kernel_rfl)(p:(Region.ready md ops b).contains i=true:=by kernel_rfl)(r:ie md ops D b i=true:=by kernel_rfl)
 (k:a.put (some d) undef=f:=by(simp only[Act.put,fx,List.set];first|done|exact rfl))
 (h:∀c a w,Q (.panic c) (a.put oi.dst undef) w->Q (.panic c) a w:=by exact fun _ _ _ g=>g):bh P md ops Q S D (e+1) b a w:=
 iu i d o l q m p r h (u4 ⟨n,rfl⟩) j (by rw[k];exact g)
theorem ah(i:Nat){o:Oper}{c:Nat}{b:Array Bool}{a:Act}{w:World}
 (h:∀K':Act->World->Prop,Shut (∀a w,(D i=false->S w)->bh P md ops Q S D c (b.setIfInBounds i true) a w->K' a w)->Oper.wp P o a w K' Q)(g:Region.ready md ops b=[i]:=by kernel_rfl)(f:ops[i]?=some o:=by rfl)(e:Region.wanted o (yielded ops a.tmps)=true:=by rfl):bh P md ops Q S D (c+1) b a w:=
 cJ i g f fun K' d=>by rw[BC e];exact h K' d
theorem ao{c:Prop}{s:World->Prop}{R K':Act->World->Prop}{a:Act}{w:World}(d:Shut (∀a w,(c->s w)->R a w->K' a w))(b:R a w)
 (e:c->s w:=by first|exact fun _=>trivial|(intro _;assumption)|(intro b;exact absurd b uv)|(intro b;cases b;done)):K' a w:=d.out a w e b
theorem aU{c:Prop}{s:World->Prop}{d:Nat}{b:Array Bool}{a:Act}{w:World}{K':Act->World->Prop}(f:Shut (∀a w,(c->s w)->bh P md ops Q S D d b a w->K' a w))(e:Q .normal a w)
 (h:c->s w:=by first|exact fun _=>trivial|(intro _;assumption)|(intro e;exact absurd e uv)|(intro e;cases e;done))(g:Region.ready md ops b=[]:=by kernel_rfl):K' a w:=f.out a w h (j5 g e _)
theorem bi{c:Nat}{b:Array Bool}{a:Act}{w:World}(e:Q .normal a w)(d:Region.ready md ops b=[]:=by kernel_rfl):bh P md ops Q S D c b a w:=j5 d e c
end
theorem p8(s)(d:(s.size:Int)<1048576)(w):
 Calls prog 129 #[.string s] w fun e w'=>e= .returned (.bool (decide (1<=s.size/\s.size<=40)))/\w'=w:=by
 by_cases b:(1:Int)<=(s.size:Int)
 ·by_cases c:(s.size:Int)<=40
  ·have a:decide (1<=s.size/\s.size<=40)=true:=B2 t7;rw[a];clear a;go_enter func129,ntmps129;go_wp2;go_ret;exact⟨rfl,rfl⟩
  ·have a:decide (1<=s.size/\s.size<=40)=false:=B1 t7;rw[a];clear a;go_enter func129,ntmps129;go_wp2;go_ret;exact⟨rfl,rfl⟩
 ·have a:decide (1<=s.size/\s.size<=40)=false:=B1 t7;rw[a];clear a;go_enter func129,ntmps129;go_wp2;go_ret;exact⟨rfl,rfl⟩
structure LS(w:World)(tb:Nat)(v:NdV)(K:NdK)(wx:World):Prop where
 bel:Below w.1.size w wx
 res:Blk wx 176 w.1.size (ndc aF ⟨0,false,[],[],[],[]⟩)
 blk:Blk wx 176 tb (ndc v K)
 gt:w.1.size<tb
 own:ONd (tb+1) wx v K
 sep:∀g,v.ka=some ⟨g,0,none⟩->v.va≠some ⟨g,0,none⟩
theorem LS.below{w d v K c e}(b:LS w d v K c)(a:Below c.1.size c e):LS w d v K e:=
 ⟨b.bel.trans (a.mono b.bel.size),b.res.below a,b.blk.below a,b.gt,b.own.below a,b.sep⟩
theorem LS.put{w a v v' K K' l b}(h:LS w a v K l)(c:Below (a+1) l b)(i x)(e:(ndc v K).set i x=ndc v' K')(o:ONd (a+1) b v' K')(k:∀g,v'.ka=some ⟨g,0,none⟩->v'.va≠some ⟨g,0,none⟩):LS w a v' K' (b.setCell ⟨a,i,none⟩ x):=by
 have m:=h.gt;have q:=h.blk.lt;have p:=c.size;have d:=ax b a i x;have n:Blk b 176 w.1.size _:=(c.block _ t7).trans h.res;have f:Blk b 176 a (ndc v K):=(c.block _ t7).trans h.blk;have j:=f.set i x;rw[e]at j;exact⟨(h.bel.trans (c.mono t7)).trans (d.below t7 t7),n.only d t7,j,m,o.keep (aw d f uv) (aw d f uv),k⟩
theorem LS.fin{w d v K a}(c:LS w d v K a):
 Below w.1.size w (a.setRow w.1.size (ndc v K).toArray)/\ONd w.1.size (a.setRow w.1.size (ndc v K).toArray) v K:=by
 have b:=du a w.1.size (ndc v K).toArray;have e:=c.gt;have f:=c.bel.size;exact⟨c.bel.trans (b.below t1 t7),(c.own.keep (aw b c.res uv) (aw b c.res uv)).mono t7⟩
def aZ(es:List (ByteArray×ByteArray)):NdK:=⟨0,true,es.map (·.1),es.map (·.2),[],[]⟩
theorem qd(l:List Int)(j i):(l.drop j).getD i 0=l.getD (j+i) 0:=by simp[List.getD,List.getElem?_drop]
theorem qe{l}(a:IsB l)(i):∃k:Nat,l.getD i 0=(k:Int)/\k<256:=⟨(l.getD i 0).toNat,by have:=a i;omega,by have:=a i;omega⟩
theorem j6{w b d n c l}(h:Bs w (some ⟨b,d,none⟩) n c l)(i m)(g:i+m<=n)(a)(f:m<=a)(e:a<=maxLen):(convert 56 9 (.slice (some ⟨b,d+i,none⟩) m a)).run prog w= .ok (.string (strOfNums ((l.drop i).take m))) w:=jn (h.piece i m g a f e)
theorem tX(a n c l w)(ag:Bs w a n c l)(c2:n<=1048576):
 Calls prog 140 #[.slice a n c] w fun e w'=> ∃v K b2,e= .returned (.tuple #[.agg (ndc v K).toArray,.bool b2])/\Below w.1.size w w'/\ONd w.1.size w' v K/\
  ((b2=true/\∃es,lfP l=some es/\es≠[]/\K=aZ es)\/(b2=false/\(lfP l=none\/lfP l=some []))):=by
 have ab:=ag.len_eq;have bs:Hid (∀u,Below w.1.size w u->Bs u a n c l):=fun u b=>ag.below b;have bB:=ag.byte;have cR:=ag.le;have ch:=ag.le';unfold maxLen at ch;have cr:=(aq w 176 (ndc aF ⟨0,false,[],[],[],[]⟩).toArray).below (t2.alloc t1 (.cells (ndc aF ⟨0,true,[],[],[],[]⟩).toArray 176));have b3:=aq (w.alloc (.cells (ndc aF ⟨0,false,[],[],[],[]⟩).toArray 176)) 176 (ndc aF ⟨0,true,[],[],[],[]⟩).toArray;have cz:(w.alloc (.cells (ndc aF ⟨0,false,[],[],[],[]⟩).toArray 176)).1.size=w.1.size+1:=by simp
 rw[cz]at b3;have V:LS w (w.1.size+1) aF (aZ []) ((w.alloc (.cells (ndc aF ⟨0,false,[],[],[],[]⟩).toArray 176)).alloc (.cells (ndc aF ⟨0,true,[],[],[],[]⟩).toArray 176)):=
  ⟨fK w _ _,cr,b3,t7,tU _ _ _ _,fun _ e=>by cases e⟩
 have d:Hid _:=V;clear V cr b3 cz ag;go_enter func140,ntmps140;go_upto_region 2 with fail
 change Code.wp _ _ _ _ ((w.alloc (.cells (ndc aF ⟨0,false,[],[],[],[]⟩).toArray 176)).alloc (.cells (ndc aF ⟨0,true,[],[],[],[]⟩).toArray 176));generalize (w.alloc (.cells (ndc aF ⟨0,false,[],[],[],[]⟩).toArray 176)).alloc (.cells (ndc aF ⟨0,true,[],[],[],[]⟩).toArray 176)=cX at*;generalize cl:w.1.size+1=h at*;clear cl;go_wp2_with fail;go_loopw [5] (fun i wr=> ∃(j:Nat)(U P:Option Addr)(N Q:Nat)(es:List (ByteArray×ByteArray)),j<=n/\i= .int .i64 (j:Nat)/\es.length<=j/\lfP l=(lfP (l.drop j)).map (es++ ·)/\LS w h ⟨U,N,P,Q,none,0,none,0⟩ (aZ es) wr) (fun i _=>n-(intOf i).toNat)
 case atStart=>exact⟨0,none,none,0,0,[],u6 _,rfl,u6 _,uB,d.out⟩
 case round=>
  clear d;obtain⟨j,U,P,N,Q,es,c1,rfl,bR,ba,V⟩:=hrel;obtain⟨v,b1⟩:∃v:NdV,v=⟨U,N,P,Q,none,0,none,0⟩:=⟨_,rfl⟩;rw[<-b1]at V;have cB:Hid _:=b1;clear b1;obtain⟨an,cn⟩:=aa wr;subst cn;have F:Hid _:=ba;have d:Hid _:=V;clear ba;by_cases ck:j<n
  ·have b0:(j:Int)< (n:Int):=t7;have aS:=bs.out an V.bel;obtain⟨b,M,rfl,_,bm⟩:=aS.at_ t7;have cA:Hid _:=aS;clear V aS;obtain⟨k,cj,cS⟩:=qe bB j;have b7:=bm j ck;rw[cj]at b7;have cb:lfK (l.drop j)=k:=by unfold lfK;rw[qd,wR,cj];rfl
   have R:Hid _:=cb;clear cb;have bP:(l.drop j).length=n-j:=by rw[vk,ab]
   have L:Hid _:=bP;clear bP;by_cases hA:j+1+k<n
   ·obtain⟨x,hx,cW⟩:=qe bB (j+1+k);have b8:=bm (j+1+k) hA;rw[hx]at b8;have cc:lfV (l.drop j)=x:=by unfold lfV;rw[R.out,qd,show j+(1+k)=j+1+k by omega,hx];rfl
    have ap:Hid _:=cc;clear cc bm;have ce:(j:Int)+1+(k:Int)< (n:Int):=t7;have cm:IntKind.i64.wrap ((j:Int)+1+(k:Int))=((j+1+k:Nat):Int):=by simp[IntKind.wrap,IntKind.bits,IntKind.signed];omega
    go_upto_region 9 with fail
    clear b7 b8 cm;by_cases c0:j+2+k+x<=n
    ·have cf:(j:Int)+2+(k:Int)+(x:Int)<=(n:Int):=t7;by_cases cP:x<=70
     ·have bY:(x:Int)<=70:=t7;have N:=j6 cA.out (j+1) k t7 (c-(j+1)) t7 (by unfold maxLen;omega);have b5:=p8 (strOfNums ((l.drop (j+1)).take k)) (by rw[B5,wv];omega) an;generalize a8:strOfNums ((l.drop (j+1)).take k)=o at*;go_wp2_with fail;refine b5.mono ?_;rintro e u ⟨rfl,ac⟩;obtain rfl:=ac.symm;have bS:o.size=k:=by rw[<-a8,B5,wv,vk,ab];omega
      rw[bS];have bv:Hid _:=a8;clear b5 ac a8 bS;by_cases f:1<=k/\k<=40
      ·rw[B2 f];have bc:=gI.2 (by rw[R.out,ap.out,L.out];omega);have I:cU (l.drop j)=o:=by rw[<-bv.out];unfold cU;rw[R.out,wP]
       have J:fu (l.drop j)=2+k+x:=by unfold fu;rw[R.out,ap.out]
       have t:lfP l=(lfP (l.drop (j+2+k+x))).map ((es++[(o,fh (l.drop j))])++ ·):=by
        rw[F.out,nf bc,I,J,wP,show j+(2+k+x)=j+2+k+x by omega,Option.map_map];congr 1;funext r;simp
       have cg:fh (l.drop j)=strOfNums ((l.drop (j+2+k)).take x):=by unfold fh;rw[R.out,ap.out,wP,show j+(2+k)=j+2+k by omega]
       obtain⟨Y,bE⟩:∃Y:Option Addr,(if c=j+2+k then some ⟨b,M,none⟩else some ⟨b,M+(j+2+k),none⟩)=Y:=⟨_,rfl⟩;have aA:Hid _:=bE;clear bE;have H:Hid _:=t;have af:Hid (∀u,Below w.1.size w u->(convert 56 9 (.slice (some ⟨b,M+(j+1),none⟩) k (c-(j+1)))).run prog u= .ok (.string o) u/\(convert 56 9 (.slice Y x (c-(j+2+k)))).run prog u= .ok (.string (fh (l.drop j))) u):=fun u ac=>by
        have bZ:=bs.out u ac;refine⟨?_,?_⟩
        ·rw[<-bv.out];exact j6 bZ (j+1) k t7 (c-(j+1)) t7 (by unfold maxLen;omega)
        ·rw[cg,<-aA.out];by_cases bF:c=j+2+k
         ·rw[BC bF];have cp:x=0:=t7;subst cp;have:=j6 bZ 0 0 t7 (c-(j+2+k)) t7 (by unfold maxLen;omega);rw[wR]at this;simpa using this
         ·rw[BX bF];exact j6 bZ (j+2+k) x t7 (c-(j+2+k)) t7 (by unfold maxLen;omega)
       clear bc I J t N cg;generalize fh (l.drop j)=z at*;rw[cB.out]at d;have bC:aZ es=⟨0,true,es.map (·.1),es.map (·.2),[],[]⟩:=rfl;rw[bC]at d;generalize a9:es.map (·.1)=ks at*;generalize bb:es.map (·.2)=G at*;have bu:=t6 a9 bb;have cT:ks.length<=j:=by rw[<-a9,x7];exact bR
       have cV:G.length<=j:=by rw[<-bb,x7];exact bR
       clear a9 bb bC;go_upto_region 11 with fail
       have aX:IntKind.i64.wrap ((j:Int)+1)=(j:Int)+1:=by simp[IntKind.wrap,IntKind.bits,IntKind.signed];omega
       have a0:IntKind.i64.wrap ((j:Int)+1+(k:Int))=(j:Int)+1+(k:Int):=by simp[IntKind.wrap,IntKind.bits,IntKind.signed];omega
       have a1:(0:Int)<=(j:Int)+1+(k:Int):=t7;have a2:(j:Int)+1+(k:Int)<=(c:Int):=t7;have a3:(0:Int)<=(j:Int)+1:=t7;have a4:((j:Int)+1+(k:Int)).toNat=j+1+k:=t7;have a5:((j:Int)+1).toNat=j+1:=t7;have a6:(j:Int)+1<=max ((j:Int)+1+(k:Int)) 0:=t7;have bz:=bDr an;have m:=d.out.below bz;have aB:=af.out _ m.bel;refine az (fun u=>u.cell? ⟨h,2,none⟩=some (.slice U ks.length N)/\(convert 56 9 (.slice (some ⟨b,M+(j+1),none⟩) k (c-(j+1)))).run prog u= .ok (.string o) u) (fun k=>decide (12<=k)) uA ?_;generalize an.drew=A at*;have cs:A.cell? ⟨h,2,none⟩=some (.slice U ks.length N)/\(convert 56 9 (.slice (some ⟨b,M+(j+1),none⟩) k (c-(j+1)))).run prog A= .ok (.string o) A:=⟨m.blk.cell 2,aB.1⟩;have bk:=bAl A (.cells #[.string o] 9);have E:=m.below bk;have aT:(A.alloc (.cells #[.string o] 9)).cell? ⟨h,2,none⟩=some (.slice U ks.length N)/\(convert 56 9 (.slice (some ⟨b,M+(j+1),none⟩) k (c-(j+1)))).run prog (A.alloc (.cells #[.string o] 9))= .ok (.string o) (A.alloc (.cells #[.string o] 9)):=⟨E.blk.cell 2,(af.out _ E.bel).1⟩;clear d bz aB;have d:Hid _:=m;have C:Hid _:=E;clear m E bk;refine aj 0 cs ?_;refine aj 1 cs ?_;refine aj 2 cs ?_;refine aj 3 cs ?_;refine aj 4 cs ?_;refine aj 5 cs ?_;refine aj 6 cs ?_;refine aj 7 cs ?_;refine aj 8 cs ?_;refine aM 9 (.slice (some ⟨b,M+(j+1),none⟩) k (c-(j+1))) cs ?hyp9 ?_
       case hyp9=>(intro w T;obtain⟨cL,cM⟩:=T;go_simp;first|done|(intro hx;exfalso;omega)|(rw[BC t7,aA.out]))
       refine aj 10 cs ?_;refine ah 11 fun q f=> ?_;refine bU _ _ _ rfl (v:= .slice (some ⟨A.1.size,0,none⟩) 1 1) (w':=A.alloc (.cells #[.string o] 9)) ?bsp ?_
       case bsp=>
        simp only[wa,vo,v6];exact ey bM (.string o) rfl A
       refine ao f ?_;clear f q;refine ah 12 fun q f=> ?_;refine je _ _ bM rfl (h+1) U ks.length N (os ks) rfl d.out.own.keys (.string o) rfl rfl t7 t7 d.out.blk.lt ?_;intro am ak bn bd Z S s;refine ao f ?_;clear f q;have bf:Own1 9 (h+1) bn (some ⟨am,0,none⟩) (ks++[o]).length ak (os (ks++[o])):=by rw[u7,<-jm];exact bd
       have bg:=C.out.own.vals.grown C.out.own.keys S (fun g I J=>C.out.sep g I J);have W:=d.out.put (v':=⟨some ⟨am,0,none⟩,ak,P,Q,none,0,none,0⟩) (K':=⟨0,true,ks++[o],G,[],[]⟩) Z 2 (.slice (some ⟨am,0,none⟩) (ks.length+1) ak) (by simp[ndc]) ⟨bf,bg,cQ _ _ _,cQ _ _ _⟩ (fun g I J=>by
        rcases s with s|s
        ·cases I;exact d.out.sep am s J
        ·cases I;have:=d.out.own.vals.lt J;omega)
       have ad:Blk bn 176 h _:=(Z.block h (xc _)).trans d.out.blk;have bW:bn.cell? ⟨h,2,none⟩=some (.slice U ks.length N):=ad.cell 2;have bX:=ad.free 2;clear d C;have d:Hid _:=W;clear W ad bd Z S s bf bg aT;refine ah 13 fun q f=> ?_;go_wp2_with fail;refine ao f ?_;clear f q;refine ah 14 fun q f=> ?_;go_wp2_with fail;refine ao f ?_;clear f q;refine bi ?_;clear bW bX cs aX a0 a1 a2 a3 a4 a5 a6;go_upto_region 12 with fail
       generalize bn.setCell ⟨h,2,none⟩ (.slice (some ⟨am,0,none⟩) (ks.length+1) ak)=cv at*;generalize (some ⟨am,0,none⟩:Option Addr)=bT at*;have aX:IntKind.i64.wrap ((j:Int)+2)=(j:Int)+2:=by simp[IntKind.wrap,IntKind.bits,IntKind.signed];omega
       have a0:IntKind.i64.wrap ((j:Int)+2+(k:Int))=(j:Int)+2+(k:Int):=by simp[IntKind.wrap,IntKind.bits,IntKind.signed];omega
       have a1:(0:Int)<=(j:Int)+2+(k:Int)+(x:Int):=t7;have a2:(j:Int)+2+(k:Int)+(x:Int)<=(c:Int):=t7;have a3:(0:Int)<=(j:Int)+2+(k:Int):=t7;have a4:((j:Int)+2+(k:Int)+(x:Int)).toNat=j+2+k+x:=t7;have a5:((j:Int)+2+(k:Int)).toNat=j+2+k:=t7;have a6:(j:Int)+2+(k:Int)<=max ((j:Int)+2+(k:Int)+(x:Int)) 0:=t7;have bA:=bDr cv;have m:=d.out.below bA;have aB:=af.out _ m.bel;refine az (fun u=>u.cell? ⟨h,3,none⟩=some (.slice P G.length Q)/\(convert 56 9 (.slice Y x (c-(j+2+k)))).run prog u= .ok (.string z) u) (fun k=>decide (11<=k)) uA ?_;generalize cv.drew=B at*;have cs:B.cell? ⟨h,3,none⟩=some (.slice P G.length Q)/\(convert 56 9 (.slice Y x (c-(j+2+k)))).run prog B= .ok (.string z) B:=⟨m.blk.cell 3,aB.2⟩;have bk:=bAl B (.cells #[.string z] 9);have E:=m.below bk;have aT:(B.alloc (.cells #[.string z] 9)).cell? ⟨h,3,none⟩=some (.slice P G.length Q)/\(convert 56 9 (.slice Y x (c-(j+2+k)))).run prog (B.alloc (.cells #[.string z] 9))= .ok (.string z) (B.alloc (.cells #[.string z] 9)):=⟨E.blk.cell 3,(af.out _ E.bel).2⟩;clear d bA aB;have d:Hid _:=m;have C:Hid _:=E;clear m E bk;refine aj 0 cs ?_;refine aj 1 cs ?_;refine aj 2 cs ?_;refine aj 3 cs ?_;refine aj 4 cs ?_;refine aj 5 cs ?_;refine aj 6 cs ?_;refine aj 7 cs ?_;refine aM 8 (.slice Y x (c-(j+2+k))) cs ?hyq8 ?_
       case hyq8=>(intro w T;obtain⟨cL,cM⟩:=T;go_simp;first|done|(intro hx;exfalso;omega)|(rw[BC t7,aA.out]))
       refine aj 9 cs ?_;refine ah 10 fun q f=> ?_;refine bU _ _ _ rfl (v:= .slice (some ⟨B.1.size,0,none⟩) 1 1) (w':=B.alloc (.cells #[.string z] 9)) ?bsq ?_
       case bsq=>
        simp only[wa,vo,v6];exact ey bM (.string z) rfl B
       refine ao f ?_;clear f q;refine ah 11 fun q f=> ?_;refine je _ _ bM rfl (h+1) P G.length Q (os G) rfl d.out.own.vals (.string z) rfl rfl t7 t7 d.out.blk.lt ?_;intro a7 bl b4 bd Z S s;refine ao f ?_;clear f q;have bf:Own1 9 (h+1) b4 (some ⟨a7,0,none⟩) (G++[z]).length bl (os (G++[z])):=by rw[u7,<-jm];exact bd
       have bg:=C.out.own.keys.grown C.out.own.vals S (fun g I J=>C.out.sep g J I);have W:=d.out.put (v':=⟨bT,ak,some ⟨a7,0,none⟩,bl,none,0,none,0⟩) (K':=⟨0,true,ks++[o],G++[z],[],[]⟩) Z 3 (.slice (some ⟨a7,0,none⟩) (G.length+1) bl) (by simp[ndc]) ⟨bg,bf,cQ _ _ _,cQ _ _ _⟩ (fun g I J=>by
        rcases s with s|s
        ·cases J;exact d.out.sep a7 I s
        ·cases J;have:=d.out.own.keys.lt I;omega)
       have ad:Blk b4 176 h _:=(Z.block h (xc _)).trans d.out.blk;have bW:b4.cell? ⟨h,3,none⟩=some (.slice P G.length Q):=ad.cell 3;have bX:=ad.free 3;clear d C;have d:Hid _:=W;clear W ad bd Z S s bf bg aT;refine ah 12 fun q f=> ?_;go_wp2_with fail;refine ao f ?_;clear f q;refine ah 13 fun q f=> ?_;go_wp2_with fail;refine ao f ?_;clear f q;refine bi ?_;clear bW bX cs aX a0 a1 a2 a3 a4 a5 a6;go_wp2;go_roundw
       case rel=>
        refine⟨j+2+k+x,bT,some ⟨a7,0,none⟩,ak,bl,es++[(o,z)],t7,by go_num,by rw[u7];show es.length+1<=_;omega,H.out,?_⟩;have e:aZ (es++[(o,z)])=⟨0,true,ks++[o],G++[z],[],[]⟩:=by rw[<-bu.out.1,<-bu.out.2];simp[aZ]
        rw[e];exact d.out
       case measure=>simp[intOf];omega
      ·rw[B1 f];have y:ee (l.drop j)=false:=by
        cases ag:ee (l.drop j)with
        |false=>rfl
        |true=>
         have:=gI.1 ag;rw[R.out]at this;exact absurd ⟨this.1,this.2.1⟩ f
       have t:lfP l=none:=by rw[F.out,iL (by rw[L.out];omega) y];rfl
       have H:Hid _:=t;clear t y;have ae:=d.out.blk;have D:=d.out.res;have O:=D.setRow (ndc v (aZ es));go_wp2_with (first|(refine BD rfl 176 _ rfl h rfl 176 (ndc v (aZ es)).toArray (0,0) _ ae underlying176 rfl aD ?_)|(refine BO rfl 176 _ _ rfl w.1.size (ndc v (aZ es)).toArray rfl rfl 176 _ D aD rfl (cy _ _) ?_));refine BB (v:= .tuple #[.agg (ndc v (aZ es)).toArray,.bool false]) ?_ rfl ⟨v,aZ es,false,rfl,d.out.fin.1,d.out.fin.2,u4 ⟨rfl,u5 H.out⟩⟩;exact cI results140 _ _ w.1.size 176 (ndc v (aZ es)).toArray _ rfl O underlying176 rfl aD rfl
     ·have bY:70< (x:Int):=t7;have y:ee (l.drop j)=false:=by
       cases ag:ee (l.drop j)with
       |false=>rfl
       |true=>
        have:=gI.1 ag;rw[ap.out]at this;omega
      have t:lfP l=none:=by rw[F.out,iL (by rw[L.out];omega) y];rfl
      have H:Hid _:=t;clear t y;have ae:=d.out.blk;have D:=d.out.res;have O:=D.setRow (ndc v (aZ es));go_wp2_with (first|(refine BD rfl 176 _ rfl h rfl 176 (ndc v (aZ es)).toArray (0,0) _ ae underlying176 rfl aD ?_)|(refine BO rfl 176 _ _ rfl w.1.size (ndc v (aZ es)).toArray rfl rfl 176 _ D aD rfl (cy _ _) ?_));refine BB (v:= .tuple #[.agg (ndc v (aZ es)).toArray,.bool false]) ?_ rfl ⟨v,aZ es,false,rfl,d.out.fin.1,d.out.fin.2,u4 ⟨rfl,u5 H.out⟩⟩;exact cI results140 _ _ w.1.size 176 (ndc v (aZ es)).toArray _ rfl O underlying176 rfl aD rfl
    ·have cf:(n:Int)< (j:Int)+2+(k:Int)+(x:Int):=t7;have y:ee (l.drop j)=false:=by
      cases ag:ee (l.drop j)with
      |false=>rfl
      |true=>
       have:=gI.1 ag;rw[R.out,ap.out,L.out]at this;omega
     have t:lfP l=none:=by rw[F.out,iL (by rw[L.out];omega) y];rfl
     have H:Hid _:=t;clear t y;have ae:=d.out.blk;have D:=d.out.res;have O:=D.setRow (ndc v (aZ es));go_wp2_with (first|(refine BD rfl 176 _ rfl h rfl 176 (ndc v (aZ es)).toArray (0,0) _ ae underlying176 rfl aD ?_)|(refine BO rfl 176 _ _ rfl w.1.size (ndc v (aZ es)).toArray rfl rfl 176 _ D aD rfl (cy _ _) ?_));refine BB (v:= .tuple #[.agg (ndc v (aZ es)).toArray,.bool false]) ?_ rfl ⟨v,aZ es,false,rfl,d.out.fin.1,d.out.fin.2,u4 ⟨rfl,u5 H.out⟩⟩;exact cI results140 _ _ w.1.size 176 (ndc v (aZ es)).toArray _ rfl O underlying176 rfl aD rfl
   ·have ce:(n:Int)<=(j:Int)+1+(k:Int):=t7;have y:ee (l.drop j)=false:=by
     cases ag:ee (l.drop j)with
     |false=>rfl
     |true=>
      have:=gI.1 ag;rw[R.out,L.out]at this;omega
    have t:lfP l=none:=by rw[F.out,iL (by rw[L.out];omega) y];rfl
    have H:Hid _:=t;clear t y bm;have ae:=d.out.blk;have D:=d.out.res;have O:=D.setRow (ndc v (aZ es));go_wp2_with (first|(refine BD rfl 176 _ rfl h rfl 176 (ndc v (aZ es)).toArray (0,0) _ ae underlying176 rfl aD ?_)|(refine BO rfl 176 _ _ rfl w.1.size (ndc v (aZ es)).toArray rfl rfl 176 _ D aD rfl (cy _ _) ?_));refine BB (v:= .tuple #[.agg (ndc v (aZ es)).toArray,.bool false]) ?_ rfl ⟨v,aZ es,false,rfl,d.out.fin.1,d.out.fin.2,u4 ⟨rfl,u5 H.out⟩⟩;exact cI results140 _ _ w.1.size 176 (ndc v (aZ es)).toArray _ rfl O underlying176 rfl aD rfl
  ·have e:j=n:=t7;subst e;have b0:¬(j:Int)< (j:Int):=t7;have t:lfP l=some es:=by
    rw[F.out,jg (by rw[vk,ab];omega)];simp
   have H:Hid _:=t;clear t V;go_upto_region 14 with fail
   have ca:=bDr an;have m:=d.out.below ca;have bx:∀u:World,Blk u 176 h (ndc v (aZ es))->(Instr.loadAt 176 (.pointer (some ⟨h,0,none⟩))).run prog u= .ok (.agg (ndc v (aZ es)).toArray) u/\u.cell? ⟨h,2,none⟩=some (.slice v.ka es.length v.kc):=fun u ac=>by
    refine⟨?_,(ac.cell 2).trans (by simp[ndc,aZ])⟩;simp only[Instr.loadAt,Instr.sureAddr,B3,Ct,Result.andThen];exact C3 u h 176 176 (ndc v (aZ es)).toArray (0,0) _ ac underlying176 rfl aD
   have X:Hid _:=bx;clear bx;refine az (fun u=>(Instr.loadAt 176 (.pointer (some ⟨h,0,none⟩))).run prog u= .ok (.agg (ndc v (aZ es)).toArray) u/\u.cell? ⟨h,2,none⟩=some (.slice v.ka es.length v.kc)) (fun k=>false) uA ?_;generalize an.drew=b6 at*;have cs:=X.out b6 m.blk;have D:=m.res;have O:=D.setRow (ndc v (aZ es));have cD:=m.gt;have cq:=du b6 w.1.size (ndc v (aZ es)).toArray;have b9:=X.out _ (m.blk.only cq t7);have br:Hid _:=m.fin;clear d m ca cq X cD;refine aM 0 (.agg (ndc v (aZ es)).toArray) cs ?hyz0 ?_
   case hyz0=>exact fun u T=>bo (p:= .pointer (some ⟨h,0,none⟩)) rfl rfl T.1
   refine aj 1 cs ?_;refine aj 2 cs ?_;refine aj 3 cs ?_;refine aj 4 cs ?_;refine ah 5 fun q f=> ?_;refine wp_store_row 176 _ _ rfl w.1.size (ndc v (aZ es)).toArray rfl rfl 176 _ D aD rfl (cy _ _) ?_;refine ao f ?_;clear f q;refine ah 6 fun q f=> ?_;go_wp2_with fail;refine ao f ?_;clear f q;refine bi ?_;clear cs b9;go_wp2_with fail;refine BB (v:= .tuple #[.agg (ndc v (aZ es)).toArray,.bool (decide (0<es.length))]) ?_ rfl ⟨v,aZ es,decide (0<es.length),rfl,br.out.1,br.out.2,?_⟩
   ·exact cI results140 _ _ w.1.size 176 (ndc v (aZ es)).toArray _ rfl O underlying176 rfl aD rfl
   ·cases es with
    |nil=>exact u4 ⟨rfl,u4 H.out⟩
    |cons e es=>exact u5 ⟨uB,_,H.out,uB,rfl⟩
