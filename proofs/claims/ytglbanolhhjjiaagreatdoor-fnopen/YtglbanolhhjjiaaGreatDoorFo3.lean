import Derived.Deep.RegionHeld
import Derived.Test.YtglbanolhhjjiaaGreatDoorFo2
namespace Go.Proofs.YtglbanolhhjjiaaGreatDoor
open Go.Proofs.Tryz
open Go.RowKit
set_option linter.unusedVariables false
set_option maxRecDepth 100000
set_option maxHeartbeats 32000000
section
variable {P:Program} {ops:Array Oper} {Q:Exit->Act->World->Prop} {md:Region.Mode} {S:World->Prop} {D:Nat->Bool}
def bh(P:Program)(md:Region.Mode)(ops:Array Oper)(Q:Exit->Act->World->Prop)(S:World->Prop)(D:Nat->Bool):Nat->Array Bool->Act->World->Prop
 |0,listed,a,w=>Region.ready md ops listed=[]/\Q .normal a w
 |fuel+1,listed,a,w=>
  (Region.ready md ops listed=[]->Q .normal a w)/\
  ∀i∈Region.ready md ops listed,wpOp P ops Q i (fun a' w'=>(D i=false->S w')/\bh P md ops Q S D fuel (listed.setIfInBounds i true) a' w') a w
theorem tW:∀(b:Nat)(c:Array Bool)(a:Act)(w:World),bh P md ops Q S D b c a w->wpAny P md ops Q b c a w
 |0,_,_,_,h=>h
 |b+1,_,_,_,h=>⟨h.1,fun i f=>wpOp_mono (fun d w' e=>tW b _ d w' e.2) (h.2 i f)⟩
theorem Aq{i oi v}(J:ops[i]?=some oi)(x:∀(j:Nat)(o:Oper) cs b,ops[j]?=some o->o.op≠ .select cs b)(W:∀c a w,Q (.panic c) (a.put oi.dst v) w->Q (.panic c) a w)(V:∀j l,ops[j]?=some l->D j=true->∃e∈l.after,Region.binds md e=true/\e.on=i):
 ∀(g:Nat)(d:Array Bool)(a:Act)(w:World),
  (∀j l,ops[j]?=some l->j≠i->d.getD j true=false->(∀e∈l.after,Region.binds md e=true->e.on≠i)->oi.apart ops l=true)->
  i∈Region.ready md ops d->YieldsIf P ops S oi v a->S w->
  bh P md ops Q S D g (d.setIfInBounds i true) (a.put oi.dst v) w->bh P md ops Q S D (g+1) d a w:=by
 intro g;induction g with
 |zero=>
  intro d a w _ n B r H;refine⟨fun h=>(by rw[h]at n;cases n),fun j A=> ?_⟩;by_cases f:j=i
  ·subst f;exact B.wpOp J r ⟨fun _=>r,H⟩
  ·have:=ready_mono A f;rw[H.1]at this;cases this
 |succ g ih=>
  intro d a w p n B r H;refine⟨fun h=>(by rw[h]at n;cases n),fun j A=> ?_⟩;by_cases f:j=i
  ·subst f;exact B.wpOp J r ⟨fun _=>r,H⟩
  ·have m:=H.2 j (ready_mono A f);obtain⟨t,l,q,F⟩:=mem_ready.1 A;have u:∀e∈l.after,Region.binds md e=true->e.on≠i:=fun e I G M=>by
    have m:=F e I G;have K:=(mem_ready.1 n).1;rw[M]at m;rcases xP i d.size with h'|h'
    ·simp[h']at K m;rw[K]at m;cases m
    ·simp[Array.getElem?_eq_none h']at m
   have L:D j=false:=by
    cases X:D j with
    |false=>rfl
    |true=>obtain⟨e,I,G,R⟩:=V j l q X;exact absurd R (u e I G)
   have U:=wpOp_putIf q (p j l q f t u) (fun cs b=>x i oi cs b J) (fun cs b=>x j l cs b q) W B m;have s:∀k y,ops[k]?=some y->k≠i->(d.setIfInBounds j true).getD k true=false->
    (∀e∈y.after,Region.binds md e=true->e.on≠i)->oi.apart ops y=true:=fun k y Y N E O=>by
    refine p k y Y N ?_ O;by_cases C:j=k
    ·subst C;exact t
    ·rw[getD_set_ne true C]at E;exact E
   refine wpOp_mono (fun T w' z=>⟨z.2.1,ih (d.setIfInBounds j true) T w' s (ready_mono n (ED f)) z.1 (z.2.1 L) ?_⟩) U;rw[Array.setIfInBounds_comm _ _ f];exact z.2.2
def pZ(md:Region.Mode)(ops:Array Oper)(D:Nat->Bool)(i:Nat):Bool:=
 (List.range ops.size).all fun j=> !(D j)||match ops[j]? with|none=>true|some o=>o.after.any fun e=>Region.binds md e&&e.on==i
theorem Ar{i}(h:pZ md ops D i=true)(j d)(c:ops[j]?=some d)(f:D j=true):∃e∈d.after,Region.binds md e=true/\e.on=i:=by
 have k:=(wy.1 c).1;have b:=y4.1 h j (xa.2 k);simp only[f,c,Bool.not_true,Bool.false_or,Array.any_eq_true']at b;obtain⟨e,g,a⟩:=b;simp only[wX,beq_iff_eq]at a;exact⟨e,g,a.1,a.2⟩
theorem cY(i){oi v d b a w}(e:ops[i]?=some oi)(l:Region.noSelect ops=true)(j:Region.free md ops b i=true)(k:(Region.ready md ops b).contains i=true)(m:pZ md ops D i=true)(f:∀c a w,Q (.panic c) (a.put oi.dst v) w->Q (.panic c) a w)(n:YieldsIf P ops S oi v a)(g:S w)(h:bh P md ops Q S D d (b.setIfInBounds i true) (a.put oi.dst v) w):bh P md ops Q S D (d+1) b a w:=
 Aq e (Region.noSelect_spec l) f (Ar m) d b a w (Region.free_spec e j) (by simpa using k) n g h
theorem nj(i d:Nat){oi v e b a w}(l:ops[i]?=some oi)(j:oi.dst=some d)(n:Region.noSelect ops=true)(k:Region.free md ops b i=true)(m:(Region.ready md ops b).contains i=true)(o:pZ md ops D i=true)(f:∀c a w,Q (.panic c) (a.put oi.dst v) w->Q (.panic c) a w)(p:YieldsIf P ops S oi v a)(g:S w)(h:bh P md ops Q S D e (b.setIfInBounds i true) (a.put (some d) v) w):bh P md ops Q S D (e+1) b a w:=
 cY i l n k m o f p g (by rw[j];exact h)
theorem cJ(i){o c b a w}(f:Region.ready md ops b=[i])(m:ops[i]?=some o)(h:∀K':Act->World->Prop,Shut (∀a w,(D i=false->S w)->bh P md ops Q S D c (b.setIfInBounds i true) a w->K' a w)->if Region.wanted o (yielded ops a.tmps)=true then Oper.wp P o a w K' Q else K' (a.put o.dst undef) w):bh P md ops Q S D (c+1) b a w:=
 ⟨fun d=>(by rw[f]at d;cases d),fun j e=>by
  rw[f]at e;obtain rfl:j=i:=by simpa using e
  exact wpOp_step m (fun K' g=>h K' (fun a w k l=>g a w ⟨k,l⟩))⟩
theorem on1(i:Nat){o:Oper}{c:Nat}{b:Array Bool}{a:Act}{w:World}
 (h:∀K':Act->World->Prop,Shut (∀a w,(D i=false->S w)->bh P md ops Q S D c (b.setIfInBounds i true) a w->K' a w)->Oper.wp P o a w K' Q)(g:Region.ready md ops b=[i]:=by kernel_rfl)(f:ops[i]?=some o:=by rfl)(e:Region.wanted o (yielded ops a.tmps)=true:=by rfl):bh P md ops Q S D (c+1) b a w:=
 cJ i g f fun K' d=>by rw[B4 e];exact h K' d
theorem j5{b a w}(d:Region.ready md ops b=[])(h:Q .normal a w):∀c,bh P md ops Q S D c b a w
 |0=>⟨d,h⟩
 |_+1=>⟨fun _=>h,by rw[d];simp⟩
theorem az(S D){id a w}(b:P.follows .mixedOrders=true)(h:bh P .any ops Q S D ops.size (Array.replicate ops.size false) a w.drew):(Code.region id ops true).wp P Q a w:=
 wp_region_any b (tW _ _ _ _ h)
end
section
variable {P:Program} {ops:Array Oper} {Q:Exit->Act->World->Prop} {md:Region.Mode} {S:World->Prop} {D:Nat->Bool}
theorem As{i oi v}(r:Nat->Bool)(T:ops[i]?=some oi)(J:∀(j:Nat)(o:Oper) cs b,ops[j]?=some o->o.op≠ .select cs b)(ae:∀c a w,Q (.panic c) (a.put oi.dst v) w->Q (.panic c) a w)(ad:∀j f,ops[j]?=some f->D j=true->r j=true)(ac:∀j f,ops[j]?=some f->r j=true->∃e∈f.after,Region.binds md e=true/\(e.on=i\/r e.on=true)):
 ∀(m:Nat)(d:Array Bool)(a:Act)(w:World),(∀j,r j=true->d.getD j true=false)->
  (∀j f,ops[j]?=some f->j≠i->d.getD j true=false->(∀e∈f.after,Region.binds md e=true->e.on≠i)->oi.apart ops f=true)->
  i∈Region.ready md ops d->YieldsIf P ops S oi v a->S w->
  bh P md ops Q S D m (d.setIfInBounds i true) (a.put oi.dst v) w->bh P md ops Q S D (m+1) d a w:=by
 intro m;induction m with
 |zero=>
  intro d a w _ _ s O C H;refine⟨fun h=>(by rw[h]at s;cases s),fun j M=> ?_⟩;by_cases g:j=i
  ·subst g;exact O.wpOp T C ⟨fun _=>C,H⟩
  ·have:=ready_mono M g;rw[H.1]at this;cases this
 |succ m ih=>
  intro d a w q u s O C H;refine⟨fun h=>(by rw[h]at s;cases s),fun j M=> ?_⟩;by_cases g:j=i
  ·subst g;exact O.wpOp T C ⟨fun _=>C,H⟩
  ·have l:=H.2 j (ready_mono M g);obtain⟨G,f,n,E⟩:=mem_ready.1 M;have A:∀e∈f.after,Region.binds md e=true->d.getD e.on true≠false:=fun e z y B=>by
    have l:=E e z y;rcases xP e.on d.size with h'|h'
    ·simp[h']at B l;rw[B]at l;cases l
    ·simp[Array.getElem?_eq_none h']at l
   have I:∀e∈f.after,Region.binds md e=true->e.on≠i:=fun e z y W=>by
    have l:=E e z y;have B:=(mem_ready.1 s).1;rw[W]at l;rcases xP i d.size with h'|h'
    ·simp[h']at B l;rw[B]at l;cases l
    ·simp[Array.getElem?_eq_none h']at l
   have t:r j=false:=by
    cases R:r j with
    |false=>rfl
    |true=>
     obtain⟨e,z,y,p⟩:=ac j f n R;rcases p with p|p
     ·exact absurd p (I e z y)
     ·exact absurd (q _ p) (A e z y)
   have V:D j=false:=by
    cases R:D j with
    |false=>rfl
    |true=>rw[ad j f n R]at t;cases t
   have ab:=wpOp_putIf n (u j f n g G I) (fun cs b=>J i oi cs b T) (fun cs b=>J j f cs b n) ae O l;have U:∀k,r k=true->(d.setIfInBounds j true).getD k true=false:=fun k N=>by
    have x:j≠k:=fun e=>by rw[e,N]at t;cases t
    rw[getD_set_ne true x];exact q k N
   have F:∀k K,ops[k]?=some K->k≠i->(d.setIfInBounds j true).getD k true=false->
    (∀e∈K.after,Region.binds md e=true->e.on≠i)->oi.apart ops K=true:=fun k K N X q Y=>by
    refine u k K N X ?_ Y;by_cases x:j=k
    ·subst x;exact G
    ·rw[getD_set_ne true x]at q;exact q
   refine wpOp_mono (fun Z w' L=>⟨L.2.1,ih (d.setIfInBounds j true) Z w' U F (ready_mono s (ED g)) L.1 (L.2.1 V) ?_⟩) ab;rw[Array.setIfInBounds_comm _ _ g];exact L.2.2
def Au(md:Region.Mode)(ops:Array Oper)(i:Nat):List Bool:=
 (List.range ops.size).foldl (fun acc j=>acc++[match ops[j]? with|none=>false|some o=>o.after.any fun e=>Region.binds md e&&(e.on==i||acc.getD e.on false)]) []
def it(md:Region.Mode)(ops:Array Oper)(i j:Nat):Bool:=decide (j<ops.size)&&(Au md ops i).getD j false
def ie(md:Region.Mode)(ops:Array Oper)(D:Nat->Bool)(listed:Array Bool)(i:Nat):Bool:=
 (List.range ops.size).all fun j=>(!(D j)||it md ops i j)&&(!(it md ops i j)||(!(listed.getD j true)&&match ops[j]? with|none=>false|some o=>o.after.any fun e=>Region.binds md e&&(e.on==i||it md ops i e.on)))
theorem iu(i d:Nat){oi v f b a w}(r:ops[i]?=some oi)(p:oi.dst=some d)(C:Region.noSelect ops=true)(z:Region.free md ops b i=true)(B:(Region.ready md ops b).contains i=true)(E:ie md ops D b i=true)(u:∀c a w,Q (.panic c) (a.put oi.dst v) w->Q (.panic c) a w)(F:YieldsIf P ops S oi v a)(x:S w)(h:bh P md ops Q S D f (b.setIfInBounds i true) (a.put (some d) v) w):bh P md ops Q S D (f+1) b a w:=by
 have g:∀j,j<ops.size->(D j=true->it md ops i j=true)/\(it md ops i j=true->b.getD j true=false/\∀o,ops[j]?=some o->∃e∈o.after,Region.binds md e=true/\(e.on=i\/it md ops i e.on=true)):=fun j k=>by
  have m:=y4.1 E j (xa.2 k);simp only[wX,Bool.or_eq_true,Bool.not_eq_true']at m;refine⟨fun p=> ?_,fun y=> ?_⟩
  ·rcases m.1 with h2|h2
   ·rw[p]at h2;cases h2
   ·exact h2
  ·rcases m.2 with h2|h2
   ·rw[y]at h2;cases h2
   ·refine⟨h2.1,fun o A=> ?_⟩;have n:=h2.2;rw[A]at n;simp only[Array.any_eq_true',wX,Bool.or_eq_true,beq_iff_eq]at n;exact n
 have s:∀j,it md ops i j=true->j<ops.size:=fun j h=>by
  unfold it at h;simp only[wX,D3]at h;exact h.1
 refine As (it md ops i) r (Region.noSelect_spec C) u (fun j t k q=>(g j (wy.1 k).1).1 q)
  (fun j t k l=>((g j (wy.1 k).1).2 l).2 t k) f b a w (fun j l=>((g j (s j l)).2 l).1) (Region.free_spec r z) (by simpa using B) F x ?_
 rw[p];exact h
theorem nk(i d:Nat){oi:Oper}{v:Value}{e:Nat}{b:Array Bool}{a:Act}{w:World}(j:S w)
 (h:bh P md ops Q S D e (b.setIfInBounds i true) (a.put (some d) v) w)(n:ops[i]?=some oi:=by rfl)(k:oi.dst=some d:=by rfl)(m:Region.wanted oi (yielded ops a.tmps)=true:=by rfl)
 (p:Region.noSelect ops=true:=by kernel_rfl)(l:Region.free md ops b i=true:=by kernel_rfl)(o:(Region.ready md ops b).contains i=true:=by kernel_rfl)(q:ie md ops D b i=true:=by kernel_rfl)
 (r:∀w,S w->(execOp a.eval oi).run P w= .ok (.value v) w:=by(intro w f;(try dsimp only at f);go_simp;try with_reducible rfl))
 (g:∀c a w,Q (.panic c) (a.put oi.dst v) w->Q (.panic c) a w:=by exact fun _ _ _ h=>h):bh P md ops Q S D (e+1) b a w:=
 iu i d n k p l o q g (v7 ⟨m,r⟩) j h
end
theorem fx{a:Type}(l:List a)(d v):l.toArray.setIfInBounds d v=(l.set d v).toArray:=Bn _ _ _
theorem fQ{P c m e S D}(i j){oi f d b a w}(o:Region.ready e c b=[i,j])(s:c[i]?=some oi)(t:c[j]?=some f)(q:∀K':Act->World->Prop,Shut (∀a w,(D i=false->S w)->bh P e c m S D d (b.setIfInBounds i true) a w->K' a w)->if Region.wanted oi (yielded c a.tmps)=true then Oper.wp P oi a w K' m else K' (a.put oi.dst undef) w)(r:∀K':Act->World->Prop,Shut (∀a w,(D j=false->S w)->bh P e c m S D d (b.setIfInBounds j true) a w->K' a w)->if Region.wanted f (yielded c a.tmps)=true then Oper.wp P f a w K' m else K' (a.put f.dst undef) w):bh P e c m S D (d+1) b a w:=
 ⟨fun n=>(by rw[o]at n;cases n),fun x hx=>by
  rw[o]at hx;have p:x=i\/x=j:=by simpa using hx
  rcases p with rfl|rfl
  ·exact wpOp_step s (fun K' g=>q K' (fun a w k l=>g a w ⟨k,l⟩))
  ·exact wpOp_step t (fun K' g=>r K' (fun a w k l=>g a w ⟨k,l⟩))⟩
theorem ei{w y o b K V U}(C:o.guard=none)(s x)(N:o.op= .call {callee:= .builtin .append,args:=#[s,x],argTypes:=#[56,56]})(B a n c xs)(O:b.eval s= .slice a n c)(r:Own B w a n c xs)(g m d l)(hx:b.eval x= .slice (some ⟨g,0,none⟩) m d)(t:Bs w (some ⟨g,0,none⟩) m d l)(M:n+m<=140737488355328)(A:B<=w.1.size)(h:∀f p w',Own B w' f (n+m) p (xs++l)->Below B w w'->w.grownBy w' (Value.slice a n c).ownBlock->K (b.put o.dst (.slice f (n+m) p)) w'):
 if Region.wanted o (yielded y b.tmps)=true then Oper.wp prog o b w K V else U:=by
 have Q:Region.wanted o (yielded y b.tmps)=true:=by simp[Region.wanted,C]
 rw[B4 Q];obtain⟨i,J,E,F,G⟩:=DB jM;refine wp_append_own w s x _ N B 5 i _ 1 1 underlying56 J E F G rfl uA _ n (ob xs) O r ⟨g,0,none⟩ m d (ob l) hx (by simp[ob,t.len_eq]) ?_ (pB l) (by unfold maxLen;omega) uA A ?_
 ·intro j u z;have D:j<l.length:=by have:=(wC.1 z).1;simpa [ob]using this
  obtain⟨W,T,e,_,I⟩:=t.at_ (by have:=t.len_eq;omega);cases e;rw[jN? l j D]at z;rw[C8,I j (by have:=t.len_eq;omega)];exact z
 ·intro v' w' q v _;have e:ob xs++ob l=ob (xs++l):=by simp[ob]
  rw[e]at q;have P:∃f p,v'= .slice f (n+m) p:=by
   rcases q.2 with⟨rfl,H⟩|⟨g,R,S,rfl,_⟩
   ·exact⟨none,0,by rw[H]⟩
   ·exact⟨_,_,rfl⟩
  obtain⟨f,p,rfl⟩:=P;exact h f p w' q (t7.grown v A (fun k L=>(Ct r k L).1)) v
section
variable {P:Program} {ops:Array Oper} {Q:Exit->Act->World->Prop} {md:Region.Mode} {S:World->Prop} {D:Nat->Bool}
theorem ai(i:Nat){d:Nat}{oi:Oper}{v:Value}{e:Nat}{b:Array Bool}{a f:Act}{w:World}(k:S w)
 (h:bh P md ops Q S D e (b.setIfInBounds i true) f w)(p:ops[i]?=some oi:=by rfl)(m:oi.dst=some d:=by rfl)(o:Region.wanted oi (yielded ops a.tmps)=true:=by rfl)
 (r:Region.noSelect ops=true:=by kernel_rfl)(n:Region.free md ops b i=true:=by kernel_rfl)(q:(Region.ready md ops b).contains i=true:=by kernel_rfl)(s:ie md ops D b i=true:=by kernel_rfl)
 (t:∀w,S w->(execOp a.eval oi).run P w= .ok (.value v) w:=by(intro w g;(try dsimp only at g);go_simp;try with_reducible rfl))
 (l:a.put (some d) v=f:=by(simp only[Act.put,fx,List.set];first|done|exact rfl))
 (j:∀c a w,Q (.panic c) (a.put oi.dst v) w->Q (.panic c) a w:=by exact fun _ _ _ h=>h):bh P md ops Q S D (e+1) b a w:=
 iu i d p m r n q s j (v7 ⟨o,t⟩) k (by rw[l];exact h)
theorem aj(i:Nat){d:Nat}{oi:Oper}{v:Value}{e:Nat}{b:Array Bool}{a f:Act}{w:World}(k:S w)
 (h:bh P md ops Q S D e (b.setIfInBounds i true) f w)(p:ops[i]?=some oi:=by rfl)(m:oi.dst=some d:=by rfl)(o:Region.wanted oi (yielded ops a.tmps)=true:=by rfl)
 (r:Region.noSelect ops=true:=by kernel_rfl)(n:Region.free md ops b i=true:=by kernel_rfl)(q:(Region.ready md ops b).contains i=true:=by kernel_rfl)(s:ie md ops D b i=true:=by kernel_rfl)
 (t:∀w,S w->(execOp a.eval oi).run P w= .ok (.value v) w:=by(intro w g;obtain⟨u,x⟩:=g;go_simp;try with_reducible rfl))
 (l:a.put (some d) v=f:=by(simp only[Act.put,fx,List.set];first|done|exact rfl))
 (j:∀c a w,Q (.panic c) (a.put oi.dst v) w->Q (.panic c) a w:=by exact fun _ _ _ h=>h):bh P md ops Q S D (e+1) b a w:=
 iu i d p m r n q s j (v7 ⟨o,t⟩) k (by rw[l];exact h)
theorem au(i:Nat){d:Nat}{oi:Oper}{v:Value}{e:Nat}{b:Array Bool}{a f:Act}{w:World}(k:S w)
 (h:bh P md ops Q S D e (b.setIfInBounds i true) f w)(p:ops[i]?=some oi:=by rfl)(m:oi.dst=some d:=by rfl)(o:Region.wanted oi (yielded ops a.tmps)=true:=by rfl)
 (r:Region.noSelect ops=true:=by kernel_rfl)(n:Region.free md ops b i=true:=by kernel_rfl)(q:(Region.ready md ops b).contains i=true:=by kernel_rfl)(s:ie md ops D b i=true:=by kernel_rfl)
 (t:∀w,S w->(execOp a.eval oi).run P w= .ok (.value v) w:=by(intro w g;obtain⟨u,x,y⟩:=g;go_simp;try with_reducible rfl))
 (l:a.put (some d) v=f:=by(simp only[Act.put,fx,List.set];first|done|exact rfl))
 (j:∀c a w,Q (.panic c) (a.put oi.dst v) w->Q (.panic c) a w:=by exact fun _ _ _ h=>h):bh P md ops Q S D (e+1) b a w:=
 iu i d p m r n q s j (v7 ⟨o,t⟩) k (by rw[l];exact h)
theorem aM(i:Nat){d:Nat}{oi:Oper}(v:Value){e:Nat}{b:Array Bool}{a f:Act}{w:World}(j:S w)(s:∀w,S w->(execOp a.eval oi).run P w= .ok (.value v) w)
 (h:bh P md ops Q S D e (b.setIfInBounds i true) f w)(o:ops[i]?=some oi:=by rfl)(l:oi.dst=some d:=by rfl)(n:Region.wanted oi (yielded ops a.tmps)=true:=by rfl)
 (q:Region.noSelect ops=true:=by kernel_rfl)(m:Region.free md ops b i=true:=by kernel_rfl)(p:(Region.ready md ops b).contains i=true:=by kernel_rfl)(r:ie md ops D b i=true:=by kernel_rfl)
 (k:a.put (some d) v=f:=by(simp only[Act.put,fx,List.set];first|done|exact rfl))
 (g:∀c a w,Q (.panic c) (a.put oi.dst v) w->Q (.panic c) a w:=by exact fun _ _ _ h=>h):bh P md ops Q S D (e+1) b a w:=
 iu i d o l q m p r g (v7 ⟨n,s⟩) j (by rw[k];exact h)
theorem aE(i:Nat){d:Nat}{oi:Oper}{e:Nat}{b:Array Bool}{a f:Act}{w:World}(j:S w)
 (h:bh P md ops Q S D e (b.setIfInBounds i true) f w)(o:ops[i]?=some oi:=by rfl)(l:oi.dst=some d:=by rfl)(n:Region.wanted oi (yielded ops a.tmps)=false:=by rfl)
 (q:Region.noSelect ops=true:=by kernel_rfl)(m:Region.free md ops b i=true:=by kernel_rfl)(p:(Region.ready md ops b).contains i=true:=by kernel_rfl)(r:ie md ops D b i=true:=by kernel_rfl)
 (k:a.put (some d) undef=f:=by(simp only[Act.put,fx,List.set];first|done|exact rfl))
 (g:∀c a w,Q (.panic c) (a.put oi.dst undef) w->Q (.panic c) a w:=by exact fun _ _ _ h=>h):bh P md ops Q S D (e+1) b a w:=
 iu i d o l q m p r g (v6 ⟨n,rfl⟩) j (by rw[k];exact h)
theorem ah(i:Nat){o:Oper}{c:Nat}{b:Array Bool}{a:Act}{w:World}
 (h:∀K':Act->World->Prop,Shut (∀a w,(D i=false->S w)->bh P md ops Q S D c (b.setIfInBounds i true) a w->K' a w)->Oper.wp P o a w K' Q)(g:Region.ready md ops b=[i]:=by kernel_rfl)(f:ops[i]?=some o:=by rfl)(e:Region.wanted o (yielded ops a.tmps)=true:=by rfl):bh P md ops Q S D (c+1) b a w:=
 cJ i g f fun K' d=>by rw[B4 e];exact h K' d
theorem ao{c:Prop}{s:World->Prop}{R K':Act->World->Prop}{a:Act}{w:World}(b:Shut (∀a w,(c->s w)->R a w->K' a w))(h:R a w)
 (d:c->s w:=by first|exact fun _=>trivial|(intro _;assumption)|(intro h;exact absurd h uB)|(intro h;cases h;done)):K' a w:=b.out a w d h
theorem aU{c:Prop}{s:World->Prop}{d:Nat}{b:Array Bool}{a:Act}{w:World}{K':Act->World->Prop}(e:Shut (∀a w,(c->s w)->bh P md ops Q S D d b a w->K' a w))(h:Q .normal a w)
 (g:c->s w:=by first|exact fun _=>trivial|(intro _;assumption)|(intro h;exact absurd h uB)|(intro h;cases h;done))(f:Region.ready md ops b=[]:=by kernel_rfl):K' a w:=e.out a w g (j5 f h _)
theorem bi{c:Nat}{b:Array Bool}{a:Act}{w:World}(h:Q .normal a w)(d:Region.ready md ops b=[]:=by kernel_rfl):bh P md ops Q S D c b a w:=j5 d h c
end
theorem p8(s)(d:(s.size:Int)<1048576)(w):
 Calls prog 129 #[.string s] w fun e w'=>e= .returned (.bool (decide (1<=s.size/\s.size<=40)))/\w'=w:=by
 by_cases b:(1:Int)<=(s.size:Int)
 ·by_cases c:(s.size:Int)<=40
  ·have a:decide (1<=s.size/\s.size<=40)=true:=CR uA;rw[a];clear a;go_enter func129,ntmps129;go_wp2;go_ret;exact⟨rfl,rfl⟩
  ·have a:decide (1<=s.size/\s.size<=40)=false:=CP uA;rw[a];clear a;go_enter func129,ntmps129;go_wp2;go_ret;exact⟨rfl,rfl⟩
 ·have a:decide (1<=s.size/\s.size<=40)=false:=CP uA;rw[a];clear a;go_enter func129,ntmps129;go_wp2;go_ret;exact⟨rfl,rfl⟩
structure LS(w:World)(tb:Nat)(v:NdV)(K:NdK)(wx:World):Prop where
 bel:Below w.1.size w wx
 res:Blk wx 176 w.1.size (ndc aF ⟨0,false,[],[],[],[]⟩)
 blk:Blk wx 176 tb (ndc v K)
 gt:w.1.size<tb
 own:ONd (tb+1) wx v K
 sep:∀g,v.ka=some ⟨g,0,none⟩->v.va≠some ⟨g,0,none⟩
theorem LS.below{w c v K b d}(h:LS w c v K b)(a:Below b.1.size b d):LS w c v K d:=
 ⟨h.bel.trans (a.mono h.bel.size),h.res.below a,h.blk.below a,h.gt,h.own.below a,h.sep⟩
theorem LS.put{w a v v' K K' l b}(h:LS w a v K l)(c:Below (a+1) l b)(i x)(e:(ndc v K).set i x=ndc v' K')(o:ONd (a+1) b v' K')(k:∀g,v'.ka=some ⟨g,0,none⟩->v'.va≠some ⟨g,0,none⟩):LS w a v' K' (b.setCell ⟨a,i,none⟩ x):=by
 have m:=h.gt;have q:=h.blk.lt;have p:=c.size;have d:=ax b a i x;have n:Blk b 176 w.1.size _:=(c.block _ uA).trans h.res;have f:Blk b 176 a (ndc v K):=(c.block _ uA).trans h.blk;have j:=f.set i x;rw[e]at j;exact⟨(h.bel.trans (c.mono uA)).trans (d.below uA uA),n.only d uA,j,m,o.keep (aw d f uB) (aw d f uB),k⟩
theorem LS.fin{w c v K a}(h:LS w c v K a):
 Below w.1.size w (a.setRow w.1.size (ndc v K).toArray)/\ONd w.1.size (a.setRow w.1.size (ndc v K).toArray) v K:=by
 have b:=du a w.1.size (ndc v K).toArray;have d:=h.gt;have e:=h.bel.size;exact⟨h.bel.trans (b.below t6 uA),(h.own.keep (aw b h.res uB) (aw b h.res uB)).mono uA⟩
def aZ(es:List (ByteArray×ByteArray)):NdK:=⟨0,true,es.map (·.1),es.map (·.2),[],[]⟩
theorem qd(l:List Int)(j i):(l.drop j).getD i 0=l.getD (j+i) 0:=by simp[List.getD,List.getElem?_drop]
theorem qe{l}(h:IsB l)(i):∃k:Nat,l.getD i 0=(k:Int)/\k<256:=⟨(l.getD i 0).toNat,by have:=h i;omega,by have:=h i;omega⟩
theorem j6{w b d n c l}(h:Bs w (some ⟨b,d,none⟩) n c l)(i m)(g:i+m<=n)(a)(f:m<=a)(e:a<=maxLen):(convert 56 9 (.slice (some ⟨b,d+i,none⟩) m a)).run prog w= .ok (.string (strOfNums ((l.drop i).take m))) w:=jn (h.piece i m g a f e)
theorem tX(a n c l w)(h:Bs w a n c l)(c2:n<=1048576):
 Calls prog 140 #[.slice a n c] w fun e w'=> ∃v K b2,e= .returned (.tuple #[.agg (ndc v K).toArray,.bool b2])/\Below w.1.size w w'/\ONd w.1.size w' v K/\
  ((b2=true/\∃es,lfP l=some es/\es≠[]/\K=aZ es)\/(b2=false/\(lfP l=none\/lfP l=some []))):=by
 have ac:=h.len_eq;have bs:Hid (∀u,Below w.1.size w u->Bs u a n c l):=fun u b=>h.below b;have bB:=h.byte;have cR:=h.le;have ch:=h.le';unfold maxLen at ch;have cr:=(aq w 176 (ndc aF ⟨0,false,[],[],[],[]⟩).toArray).below (t7.alloc t6 (.cells (ndc aF ⟨0,true,[],[],[],[]⟩).toArray 176));have b3:=aq (w.alloc (.cells (ndc aF ⟨0,false,[],[],[],[]⟩).toArray 176)) 176 (ndc aF ⟨0,true,[],[],[],[]⟩).toArray;have cz:(w.alloc (.cells (ndc aF ⟨0,false,[],[],[],[]⟩).toArray 176)).1.size=w.1.size+1:=by simp
 rw[cz]at b3;have W:LS w (w.1.size+1) aF (aZ []) ((w.alloc (.cells (ndc aF ⟨0,false,[],[],[],[]⟩).toArray 176)).alloc (.cells (ndc aF ⟨0,true,[],[],[],[]⟩).toArray 176)):=
  ⟨fK w _ _,cr,b3,uA,tU _ _ _ _,fun _ e=>by cases e⟩
 have d:Hid _:=W;clear W cr b3 cz h;go_enter func140,ntmps140;go_upto_region 2 with fail
 change Code.wp _ _ _ _ ((w.alloc (.cells (ndc aF ⟨0,false,[],[],[],[]⟩).toArray 176)).alloc (.cells (ndc aF ⟨0,true,[],[],[],[]⟩).toArray 176));generalize (w.alloc (.cells (ndc aF ⟨0,false,[],[],[],[]⟩).toArray 176)).alloc (.cells (ndc aF ⟨0,true,[],[],[],[]⟩).toArray 176)=cX at*;generalize cl:w.1.size+1=m at*;clear cl;go_wp2_with fail;go_loopw [5] (fun i wr=> ∃(j:Nat)(V Q:Option Addr)(O R:Nat)(es:List (ByteArray×ByteArray)),j<=n/\i= .int .i64 (j:Nat)/\es.length<=j/\lfP l=(lfP (l.drop j)).map (es++ ·)/\LS w m ⟨V,O,Q,R,none,0,none,0⟩ (aZ es) wr) (fun i _=>n-(intOf i).toNat)
 case atStart=>exact⟨0,none,none,0,0,[],wa _,rfl,wa _,vo,d.out⟩
 case round=>
  clear d;obtain⟨j,V,Q,O,R,es,c1,rfl,bR,ba,W⟩:=hrel;obtain⟨v,b1⟩:∃v:NdV,v=⟨V,O,Q,R,none,0,none,0⟩:=⟨_,rfl⟩;rw[<-b1]at W;have cB:Hid _:=b1;clear b1;obtain⟨an,cn⟩:=aa wr;subst cn;have G:Hid _:=ba;have d:Hid _:=W;clear ba;by_cases ck:j<n
  ·have b0:(j:Int)< (n:Int):=uA;have aS:=bs.out an W.bel;obtain⟨b,N,rfl,_,bm⟩:=aS.at_ uA;have cA:Hid _:=aS;clear W aS;obtain⟨k,cj,cS⟩:=qe bB j;have b7:=bm j ck;rw[cj]at b7;have cb:lfK (l.drop j)=k:=by unfold lfK;rw[qd,w9,cj];rfl
   have S:Hid _:=cb;clear cb;have bP:(l.drop j).length=n-j:=by rw[wi,ac]
   have M:Hid _:=bP;clear bP;by_cases hA:j+1+k<n
   ·obtain⟨x,hx,cW⟩:=qe bB (j+1+k);have b8:=bm (j+1+k) hA;rw[hx]at b8;have cc:lfV (l.drop j)=x:=by unfold lfV;rw[S.out,qd,show j+(1+k)=j+1+k by omega,hx];rfl
    have ap:Hid _:=cc;clear cc bm;have ce:(j:Int)+1+(k:Int)< (n:Int):=uA;have cm:IntKind.i64.wrap ((j:Int)+1+(k:Int))=((j+1+k:Nat):Int):=by simp[IntKind.wrap,IntKind.bits,IntKind.signed];omega
    go_upto_region 9 with fail
    clear b7 b8 cm;by_cases c0:j+2+k+x<=n
    ·have cf:(j:Int)+2+(k:Int)+(x:Int)<=(n:Int):=uA;by_cases cP:x<=70
     ·have bY:(x:Int)<=70:=uA;have O:=j6 cA.out (j+1) k uA (c-(j+1)) uA (by unfold maxLen;omega);have b5:=p8 (strOfNums ((l.drop (j+1)).take k)) (by rw[C0,wR];omega) an;generalize a8:strOfNums ((l.drop (j+1)).take k)=q at*;go_wp2_with fail;refine b5.mono ?_;rintro e u ⟨rfl,ad⟩;obtain rfl:=ad.symm;have bS:q.size=k:=by rw[<-a8,C0,wR,wi,ac];omega
      rw[bS];have bv:Hid _:=a8;clear b5 ad a8 bS;by_cases f:1<=k/\k<=40
      ·rw[CR f];have bc:=gI.2 (by rw[S.out,ap.out,M.out];omega);have J:cU (l.drop j)=q:=by rw[<-bv.out];unfold cU;rw[S.out,w7]
       have L:fu (l.drop j)=2+k+x:=by unfold fu;rw[S.out,ap.out]
       have y:lfP l=(lfP (l.drop (j+2+k+x))).map ((es++[(q,fh (l.drop j))])++ ·):=by
        rw[G.out,nf bc,J,L,w7,show j+(2+k+x)=j+2+k+x by omega,Option.map_map];congr 1;funext r;simp
       have cg:fh (l.drop j)=strOfNums ((l.drop (j+2+k)).take x):=by unfold fh;rw[S.out,ap.out,w7,show j+(2+k)=j+2+k by omega]
       obtain⟨Z,bE⟩:∃Z:Option Addr,(if c=j+2+k then some ⟨b,N,none⟩else some ⟨b,N+(j+2+k),none⟩)=Z:=⟨_,rfl⟩;have aA:Hid _:=bE;clear bE;have I:Hid _:=y;have ag:Hid (∀u,Below w.1.size w u->(convert 56 9 (.slice (some ⟨b,N+(j+1),none⟩) k (c-(j+1)))).run prog u= .ok (.string q) u/\(convert 56 9 (.slice Z x (c-(j+2+k)))).run prog u= .ok (.string (fh (l.drop j))) u):=fun u ad=>by
        have bZ:=bs.out u ad;refine⟨?_,?_⟩
        ·rw[<-bv.out];exact j6 bZ (j+1) k uA (c-(j+1)) uA (by unfold maxLen;omega)
        ·rw[cg,<-aA.out];by_cases bF:c=j+2+k
         ·rw[B4 bF];have cp:x=0:=uA;subst cp;have:=j6 bZ 0 0 uA (c-(j+2+k)) uA (by unfold maxLen;omega);rw[w9]at this;simpa using this
         ·rw[CH bF];exact j6 bZ (j+2+k) x uA (c-(j+2+k)) uA (by unfold maxLen;omega)
       clear bc J L y O cg;generalize fh (l.drop j)=A at*;rw[cB.out]at d;have bC:aZ es=⟨0,true,es.map (·.1),es.map (·.2),[],[]⟩:=rfl;rw[bC]at d;generalize a9:es.map (·.1)=ks at*;generalize bb:es.map (·.2)=H at*;have bu:=uv a9 bb;have cT:ks.length<=j:=by rw[<-a9,y2];exact bR
       have cV:H.length<=j:=by rw[<-bb,y2];exact bR
       clear a9 bb bC;go_upto_region 11 with fail
       have aX:IntKind.i64.wrap ((j:Int)+1)=(j:Int)+1:=by simp[IntKind.wrap,IntKind.bits,IntKind.signed];omega
       have a0:IntKind.i64.wrap ((j:Int)+1+(k:Int))=(j:Int)+1+(k:Int):=by simp[IntKind.wrap,IntKind.bits,IntKind.signed];omega
       have a1:(0:Int)<=(j:Int)+1+(k:Int):=uA;have a2:(j:Int)+1+(k:Int)<=(c:Int):=uA;have a3:(0:Int)<=(j:Int)+1:=uA;have a4:((j:Int)+1+(k:Int)).toNat=j+1+k:=uA;have a5:((j:Int)+1).toNat=j+1:=uA;have a6:(j:Int)+1<=max ((j:Int)+1+(k:Int)) 0:=uA;have bz:=bDr an;have o:=d.out.below bz;have aB:=ag.out _ o.bel;refine az (fun u=>u.cell? ⟨m,2,none⟩=some (.slice V ks.length O)/\(convert 56 9 (.slice (some ⟨b,N+(j+1),none⟩) k (c-(j+1)))).run prog u= .ok (.string q) u) (fun k=>decide (12<=k)) vk ?_;generalize an.drew=B at*;have cs:B.cell? ⟨m,2,none⟩=some (.slice V ks.length O)/\(convert 56 9 (.slice (some ⟨b,N+(j+1),none⟩) k (c-(j+1)))).run prog B= .ok (.string q) B:=⟨o.blk.cell 2,aB.1⟩;have bk:=bAl B (.cells #[.string q] 9);have F:=o.below bk;have aT:(B.alloc (.cells #[.string q] 9)).cell? ⟨m,2,none⟩=some (.slice V ks.length O)/\(convert 56 9 (.slice (some ⟨b,N+(j+1),none⟩) k (c-(j+1)))).run prog (B.alloc (.cells #[.string q] 9))= .ok (.string q) (B.alloc (.cells #[.string q] 9)):=⟨F.blk.cell 2,(ag.out _ F.bel).1⟩;clear d bz aB;have d:Hid _:=o;have D:Hid _:=F;clear o F bk;refine aj 0 cs ?_;refine aj 1 cs ?_;refine aj 2 cs ?_;refine aj 3 cs ?_;refine aj 4 cs ?_;refine aj 5 cs ?_;refine aj 6 cs ?_;refine aj 7 cs ?_;refine aj 8 cs ?_;refine aM 9 (.slice (some ⟨b,N+(j+1),none⟩) k (c-(j+1))) cs ?hyp9 ?_
       case hyp9=>(intro w U;obtain⟨cL,cM⟩:=U;go_simp;first|done|(intro hx;exfalso;omega)|(rw[B4 uA,aA.out]))
       refine aj 10 cs ?_;refine ah 11 fun s f=> ?_;refine bU _ _ _ rfl (v:= .slice (some ⟨B.1.size,0,none⟩) 1 1) (w':=B.alloc (.cells #[.string q] 9)) ?bsp ?_
       case bsp=>
        simp only[wB,ws,wz];exact ey bM (.string q) rfl B
       refine ao f ?_;clear f s;refine ah 12 fun s f=> ?_;refine je _ _ bM rfl (m+1) V ks.length O (os ks) rfl d.out.own.keys (.string q) rfl rfl uA uA d.out.blk.lt ?_;intro am ak bn bd ab T t;refine ao f ?_;clear f s;have bf:Own1 9 (m+1) bn (some ⟨am,0,none⟩) (ks++[q]).length ak (os (ks++[q])):=by rw[wb,<-jm];exact bd
       have bg:=D.out.own.vals.grown D.out.own.keys T (fun g J L=>D.out.sep g J L);have X:=d.out.put (v':=⟨some ⟨am,0,none⟩,ak,Q,R,none,0,none,0⟩) (K':=⟨0,true,ks++[q],H,[],[]⟩) ab 2 (.slice (some ⟨am,0,none⟩) (ks.length+1) ak) (by simp[ndc]) ⟨bf,bg,cQ _ _ _,cQ _ _ _⟩ (fun g J L=>by
        rcases t with t|t
        ·cases J;exact d.out.sep am t L
        ·cases J;have:=d.out.own.vals.lt L;omega)
       have ae:Blk bn 176 m _:=(ab.block m (x3 _)).trans d.out.blk;have bW:bn.cell? ⟨m,2,none⟩=some (.slice V ks.length O):=ae.cell 2;have bX:=ae.free 2;clear d D;have d:Hid _:=X;clear X ae bd ab T t bf bg aT;refine ah 13 fun s f=> ?_;go_wp2_with fail;refine ao f ?_;clear f s;refine ah 14 fun s f=> ?_;go_wp2_with fail;refine ao f ?_;clear f s;refine bi ?_;clear bW bX cs aX a0 a1 a2 a3 a4 a5 a6;go_upto_region 12 with fail
       generalize bn.setCell ⟨m,2,none⟩ (.slice (some ⟨am,0,none⟩) (ks.length+1) ak)=cv at*;generalize (some ⟨am,0,none⟩:Option Addr)=bT at*;have aX:IntKind.i64.wrap ((j:Int)+2)=(j:Int)+2:=by simp[IntKind.wrap,IntKind.bits,IntKind.signed];omega
       have a0:IntKind.i64.wrap ((j:Int)+2+(k:Int))=(j:Int)+2+(k:Int):=by simp[IntKind.wrap,IntKind.bits,IntKind.signed];omega
       have a1:(0:Int)<=(j:Int)+2+(k:Int)+(x:Int):=uA;have a2:(j:Int)+2+(k:Int)+(x:Int)<=(c:Int):=uA;have a3:(0:Int)<=(j:Int)+2+(k:Int):=uA;have a4:((j:Int)+2+(k:Int)+(x:Int)).toNat=j+2+k+x:=uA;have a5:((j:Int)+2+(k:Int)).toNat=j+2+k:=uA;have a6:(j:Int)+2+(k:Int)<=max ((j:Int)+2+(k:Int)+(x:Int)) 0:=uA;have bA:=bDr cv;have o:=d.out.below bA;have aB:=ag.out _ o.bel;refine az (fun u=>u.cell? ⟨m,3,none⟩=some (.slice Q H.length R)/\(convert 56 9 (.slice Z x (c-(j+2+k)))).run prog u= .ok (.string A) u) (fun k=>decide (11<=k)) vk ?_;generalize cv.drew=C at*;have cs:C.cell? ⟨m,3,none⟩=some (.slice Q H.length R)/\(convert 56 9 (.slice Z x (c-(j+2+k)))).run prog C= .ok (.string A) C:=⟨o.blk.cell 3,aB.2⟩;have bk:=bAl C (.cells #[.string A] 9);have F:=o.below bk;have aT:(C.alloc (.cells #[.string A] 9)).cell? ⟨m,3,none⟩=some (.slice Q H.length R)/\(convert 56 9 (.slice Z x (c-(j+2+k)))).run prog (C.alloc (.cells #[.string A] 9))= .ok (.string A) (C.alloc (.cells #[.string A] 9)):=⟨F.blk.cell 3,(ag.out _ F.bel).2⟩;clear d bA aB;have d:Hid _:=o;have D:Hid _:=F;clear o F bk;refine aj 0 cs ?_;refine aj 1 cs ?_;refine aj 2 cs ?_;refine aj 3 cs ?_;refine aj 4 cs ?_;refine aj 5 cs ?_;refine aj 6 cs ?_;refine aj 7 cs ?_;refine aM 8 (.slice Z x (c-(j+2+k))) cs ?hyq8 ?_
       case hyq8=>(intro w U;obtain⟨cL,cM⟩:=U;go_simp;first|done|(intro hx;exfalso;omega)|(rw[B4 uA,aA.out]))
       refine aj 9 cs ?_;refine ah 10 fun s f=> ?_;refine bU _ _ _ rfl (v:= .slice (some ⟨C.1.size,0,none⟩) 1 1) (w':=C.alloc (.cells #[.string A] 9)) ?bsq ?_
       case bsq=>
        simp only[wB,ws,wz];exact ey bM (.string A) rfl C
       refine ao f ?_;clear f s;refine ah 11 fun s f=> ?_;refine je _ _ bM rfl (m+1) Q H.length R (os H) rfl d.out.own.vals (.string A) rfl rfl uA uA d.out.blk.lt ?_;intro a7 bl b4 bd ab T t;refine ao f ?_;clear f s;have bf:Own1 9 (m+1) b4 (some ⟨a7,0,none⟩) (H++[A]).length bl (os (H++[A])):=by rw[wb,<-jm];exact bd
       have bg:=D.out.own.keys.grown D.out.own.vals T (fun g J L=>D.out.sep g L J);have X:=d.out.put (v':=⟨bT,ak,some ⟨a7,0,none⟩,bl,none,0,none,0⟩) (K':=⟨0,true,ks++[q],H++[A],[],[]⟩) ab 3 (.slice (some ⟨a7,0,none⟩) (H.length+1) bl) (by simp[ndc]) ⟨bg,bf,cQ _ _ _,cQ _ _ _⟩ (fun g J L=>by
        rcases t with t|t
        ·cases L;exact d.out.sep a7 J t
        ·cases L;have:=d.out.own.keys.lt J;omega)
       have ae:Blk b4 176 m _:=(ab.block m (x3 _)).trans d.out.blk;have bW:b4.cell? ⟨m,3,none⟩=some (.slice Q H.length R):=ae.cell 3;have bX:=ae.free 3;clear d D;have d:Hid _:=X;clear X ae bd ab T t bf bg aT;refine ah 12 fun s f=> ?_;go_wp2_with fail;refine ao f ?_;clear f s;refine ah 13 fun s f=> ?_;go_wp2_with fail;refine ao f ?_;clear f s;refine bi ?_;clear bW bX cs aX a0 a1 a2 a3 a4 a5 a6;go_wp2;go_roundw
       case rel=>
        refine⟨j+2+k+x,bT,some ⟨a7,0,none⟩,ak,bl,es++[(q,A)],uA,by go_num,by rw[wb];show es.length+1<=_;omega,I.out,?_⟩;have e:aZ (es++[(q,A)])=⟨0,true,ks++[q],H++[A],[],[]⟩:=by rw[<-bu.out.1,<-bu.out.2];simp[aZ]
        rw[e];exact d.out
       case measure=>simp[intOf];omega
      ·rw[CP f];have z:ee (l.drop j)=false:=by
        cases h:ee (l.drop j)with
        |false=>rfl
        |true=>
         have:=gI.1 h;rw[S.out]at this;exact absurd ⟨this.1,this.2.1⟩ f
       have y:lfP l=none:=by rw[G.out,iL (by rw[M.out];omega) z];rfl
       have I:Hid _:=y;clear y z;have af:=d.out.blk;have E:=d.out.res;have P:=E.setRow (ndc v (aZ es));go_wp2_with (first|(refine B5 rfl 176 _ rfl m rfl 176 (ndc v (aZ es)).toArray (0,0) _ af underlying176 rfl aD ?_)|(refine B8 rfl 176 _ _ rfl w.1.size (ndc v (aZ es)).toArray rfl rfl 176 _ E aD rfl (cy _ _) ?_));refine B3 (v:= .tuple #[.agg (ndc v (aZ es)).toArray,.bool false]) ?_ rfl ⟨v,aZ es,false,rfl,d.out.fin.1,d.out.fin.2,v6 ⟨rfl,v7 I.out⟩⟩;exact cI results140 _ _ w.1.size 176 (ndc v (aZ es)).toArray _ rfl P underlying176 rfl aD rfl
     ·have bY:70< (x:Int):=uA;have z:ee (l.drop j)=false:=by
       cases h:ee (l.drop j)with
       |false=>rfl
       |true=>
        have:=gI.1 h;rw[ap.out]at this;omega
      have y:lfP l=none:=by rw[G.out,iL (by rw[M.out];omega) z];rfl
      have I:Hid _:=y;clear y z;have af:=d.out.blk;have E:=d.out.res;have P:=E.setRow (ndc v (aZ es));go_wp2_with (first|(refine B5 rfl 176 _ rfl m rfl 176 (ndc v (aZ es)).toArray (0,0) _ af underlying176 rfl aD ?_)|(refine B8 rfl 176 _ _ rfl w.1.size (ndc v (aZ es)).toArray rfl rfl 176 _ E aD rfl (cy _ _) ?_));refine B3 (v:= .tuple #[.agg (ndc v (aZ es)).toArray,.bool false]) ?_ rfl ⟨v,aZ es,false,rfl,d.out.fin.1,d.out.fin.2,v6 ⟨rfl,v7 I.out⟩⟩;exact cI results140 _ _ w.1.size 176 (ndc v (aZ es)).toArray _ rfl P underlying176 rfl aD rfl
    ·have cf:(n:Int)< (j:Int)+2+(k:Int)+(x:Int):=uA;have z:ee (l.drop j)=false:=by
      cases h:ee (l.drop j)with
      |false=>rfl
      |true=>
       have:=gI.1 h;rw[S.out,ap.out,M.out]at this;omega
     have y:lfP l=none:=by rw[G.out,iL (by rw[M.out];omega) z];rfl
     have I:Hid _:=y;clear y z;have af:=d.out.blk;have E:=d.out.res;have P:=E.setRow (ndc v (aZ es));go_wp2_with (first|(refine B5 rfl 176 _ rfl m rfl 176 (ndc v (aZ es)).toArray (0,0) _ af underlying176 rfl aD ?_)|(refine B8 rfl 176 _ _ rfl w.1.size (ndc v (aZ es)).toArray rfl rfl 176 _ E aD rfl (cy _ _) ?_));refine B3 (v:= .tuple #[.agg (ndc v (aZ es)).toArray,.bool false]) ?_ rfl ⟨v,aZ es,false,rfl,d.out.fin.1,d.out.fin.2,v6 ⟨rfl,v7 I.out⟩⟩;exact cI results140 _ _ w.1.size 176 (ndc v (aZ es)).toArray _ rfl P underlying176 rfl aD rfl
   ·have ce:(n:Int)<=(j:Int)+1+(k:Int):=uA;have z:ee (l.drop j)=false:=by
     cases h:ee (l.drop j)with
     |false=>rfl
     |true=>
      have:=gI.1 h;rw[S.out,M.out]at this;omega
    have y:lfP l=none:=by rw[G.out,iL (by rw[M.out];omega) z];rfl
    have I:Hid _:=y;clear y z bm;have af:=d.out.blk;have E:=d.out.res;have P:=E.setRow (ndc v (aZ es));go_wp2_with (first|(refine B5 rfl 176 _ rfl m rfl 176 (ndc v (aZ es)).toArray (0,0) _ af underlying176 rfl aD ?_)|(refine B8 rfl 176 _ _ rfl w.1.size (ndc v (aZ es)).toArray rfl rfl 176 _ E aD rfl (cy _ _) ?_));refine B3 (v:= .tuple #[.agg (ndc v (aZ es)).toArray,.bool false]) ?_ rfl ⟨v,aZ es,false,rfl,d.out.fin.1,d.out.fin.2,v6 ⟨rfl,v7 I.out⟩⟩;exact cI results140 _ _ w.1.size 176 (ndc v (aZ es)).toArray _ rfl P underlying176 rfl aD rfl
  ·have e:j=n:=uA;subst e;have b0:¬(j:Int)< (j:Int):=uA;have y:lfP l=some es:=by
    rw[G.out,jg (by rw[wi,ac];omega)];simp
   have I:Hid _:=y;clear y W;go_upto_region 14 with fail
   have ca:=bDr an;have o:=d.out.below ca;have bx:∀u:World,Blk u 176 m (ndc v (aZ es))->(Instr.loadAt 176 (.pointer (some ⟨m,0,none⟩))).run prog u= .ok (.agg (ndc v (aZ es)).toArray) u/\u.cell? ⟨m,2,none⟩=some (.slice v.ka es.length v.kc):=fun u ad=>by
    refine⟨?_,(ad.cell 2).trans (by simp[ndc,aZ])⟩;simp only[Instr.loadAt,Instr.sureAddr,CT,C2,Result.andThen];exact DX u m 176 176 (ndc v (aZ es)).toArray (0,0) _ ad underlying176 rfl aD
   have Y:Hid _:=bx;clear bx;refine az (fun u=>(Instr.loadAt 176 (.pointer (some ⟨m,0,none⟩))).run prog u= .ok (.agg (ndc v (aZ es)).toArray) u/\u.cell? ⟨m,2,none⟩=some (.slice v.ka es.length v.kc)) (fun k=>false) vk ?_;generalize an.drew=b6 at*;have cs:=Y.out b6 o.blk;have E:=o.res;have P:=E.setRow (ndc v (aZ es));have cD:=o.gt;have cq:=du b6 w.1.size (ndc v (aZ es)).toArray;have b9:=Y.out _ (o.blk.only cq uA);have br:Hid _:=o.fin;clear d o ca cq Y cD;refine aM 0 (.agg (ndc v (aZ es)).toArray) cs ?hyz0 ?_
   case hyz0=>exact fun u U=>bo (p:= .pointer (some ⟨m,0,none⟩)) rfl rfl U.1
   refine aj 1 cs ?_;refine aj 2 cs ?_;refine aj 3 cs ?_;refine aj 4 cs ?_;refine ah 5 fun s f=> ?_;refine wp_store_row 176 _ _ rfl w.1.size (ndc v (aZ es)).toArray rfl rfl 176 _ E aD rfl (cy _ _) ?_;refine ao f ?_;clear f s;refine ah 6 fun s f=> ?_;go_wp2_with fail;refine ao f ?_;clear f s;refine bi ?_;clear cs b9;go_wp2_with fail;refine B3 (v:= .tuple #[.agg (ndc v (aZ es)).toArray,.bool (decide (0<es.length))]) ?_ rfl ⟨v,aZ es,decide (0<es.length),rfl,br.out.1,br.out.2,?_⟩
   ·exact cI results140 _ _ w.1.size 176 (ndc v (aZ es)).toArray _ rfl P underlying176 rfl aD rfl
   ·cases es with
    |nil=>exact v6 ⟨rfl,v6 I.out⟩
    |cons e es=>exact v7 ⟨vo,_,I.out,vo,rfl⟩
