import Derived.Test.YtglbanolhhjjiaaGreatDoorFo7
import Derived.Lib.SmallJoins
namespace Go.Proofs.YtglbanolhhjjiaaGreatDoor
open Go.Proofs.Tryz
open Go.RowKit Go.ChangeShapes Go.WideShapes Go.ChangeAt Go.Joins Go.Deep
set_option linter.unusedVariables false
set_option maxRecDepth 100000
set_option maxHeartbeats 32000000
section
variable {P:Program} {ops:Array Oper} {Q:Exit->Act->World->Prop} {md:Region.Mode} {S:World->Prop} {r:Nat}
def el(P:Program)(md:Region.Mode)(ops:Array Oper)(Q:Exit->Act->World->Prop)(S:World->Prop)(r:Nat):Nat->Array Bool->Act->World->Prop
 |0,listed,a,w=>Region.ready md ops listed=[]/\Q .normal a w
 |fuel+1,listed,a,w=>
  (Region.ready md ops listed=[]->Q .normal a w)/\
  ∀i∈Region.ready md ops listed,wpOp P ops Q i (fun a' w'=>((listed.setIfInBounds i true).getD r true=false->S w')/\el P md ops Q S r fuel (listed.setIfInBounds i true) a' w') a w
theorem uN:∀(b:Nat)(c:Array Bool)(a:Act)(w:World),el P md ops Q S r b c a w->wpAny P md ops Q b c a w
 |0,_,_,_,h=>h
 |b+1,_,_,_,h=>⟨h.1,fun i f=>wpOp_mono (fun d w' e=>uN b _ d w' e.2) (h.2 i f)⟩
theorem uO{i oi v T}(W:ops[i]?=some oi)(A:i≠r)(D:∀(j:Nat)(o:Oper) cs b,ops[j]?=some o->o.op≠ .select cs b)(ae:∀c a w,Q (.panic c) (a.put oi.dst v) w->Q (.panic c) a w):
 ∀(m:Nat)(d:Array Bool)(a:Act)(w:World),
  (∀j f,ops[j]?=some f->j≠i->d.getD j true=false->(∀e∈f.after,Region.binds md e=true->e.on≠i)->oi.apart ops f=true)->
  i∈Region.ready md ops d->YieldsIf P ops T oi v a->(d.getD r true=false->S w)->
  ((∀w,T w)\/(d.getD r true=false/\(∀w,S w->T w)/\∀f,ops[r]?=some f->∃e∈f.after,Region.binds md e=true/\e.on=i))->
  el P md ops Q S r m (d.setIfInBounds i true) (a.put oi.dst v) w->el P md ops Q S r (m+1) d a w:=by
 intro m;have J:∀(d:Array Bool)(w:World),(d.getD r true=false->S w)->((∀w,T w)\/(d.getD r true=false/\(∀w,S w->T w)/\∀f,ops[r]?=some f->∃e∈f.after,Region.binds md e=true/\e.on=i))->T w:=fun l w s h=>by
  rcases h with h|⟨n,O,_⟩
  ·exact h w
  ·exact O w (s n)
 induction m with
 |zero=>
  intro d a w _ t I s u H;refine⟨fun h=>(by rw[h]at t;cases t),fun j F=> ?_⟩;by_cases g:j=i
  ·subst g;exact I.wpOp W (J d w s u) ⟨fun h=>s (by rw[getD_set_ne true A]at h;exact h),H⟩
  ·have:=ready_mono F g;rw[H.1]at this;cases this
 |succ m ih=>
  intro d a w x t I s u H;refine⟨fun h=>(by rw[h]at t;cases t),fun j F=> ?_⟩;by_cases g:j=i
  ·subst g;exact I.wpOp W (J d w s u) ⟨fun h=>s (by rw[getD_set_ne true A]at h;exact h),H⟩
  ·have n:=H.2 j (ready_mono F g);obtain⟨B,f,y,R⟩:=mem_ready.1 F;have C:∀e∈f.after,Region.binds md e=true->e.on≠i:=fun e V U Y=>by
    have n:=R e V U;have X:=(mem_ready.1 t).1;rw[Y]at n;rcases xP i d.size with p|p
    ·simp[p]at X n;rw[X]at n;cases n
    ·simp[Array.getElem?_eq_none p]at n
   have O:=wpOp_putIf y (x j f y g B C) (fun cs b=>D i oi cs b W) (fun cs b=>D j f cs b y) ae I n;have z:∀k E,ops[k]?=some E->k≠i->(d.setIfInBounds j true).getD k true=false->
    (∀e∈E.after,Region.binds md e=true->e.on≠i)->oi.apart ops E=true:=fun k E af Z N ab=>by
    refine x k E af Z ?_ ab;by_cases L:j=k
    ·subst L;exact B
    ·rw[getD_set_ne true L]at N;exact N
   have G:(∀w,T w)\/((d.setIfInBounds j true).getD r true=false/\(∀w,S w->T w)/\∀f,ops[r]?=some f->∃e∈f.after,Region.binds md e=true/\e.on=i):=by
    rcases u with h|⟨h,p,q⟩
    ·exact v7 h
    ·refine v6 ⟨?_,p,q⟩;by_cases M:j=r
     ·subst M;obtain⟨e,V,U,ac⟩:=q f y;exact absurd ac (C e V U)
     ·rw[getD_set_ne true M];exact h
   have K:∀w',(((d.setIfInBounds i true).setIfInBounds j true).getD r true=false->S w')->(d.setIfInBounds j true).getD r true=false->S w':=fun w' h p=>h (by
    rw[Array.setIfInBounds_comm _ _ (ED g),getD_set_ne true A];exact p)
   refine wpOp_mono (fun ad w' q=>⟨K w' q.2.1,ih (d.setIfInBounds j true) ad w' z (ready_mono t (ED g)) q.1 (K w' q.2.1) G ?_⟩) O;rw[Array.setIfInBounds_comm _ _ g];exact q.2.2
def nI(md:Region.Mode)(ops:Array Oper)(r i:Nat):Bool:=match ops[r]? with|none=>true|some o=>o.after.any fun e=>Region.binds md e&&e.on==i
theorem BR{i}(h:nI md ops r i=true)(b)(d:ops[r]?=some b):∃e∈b.after,Region.binds md e=true/\e.on=i:=by
 unfold nI at h;rw[d]at h;simp only[Array.any_eq_true']at h;obtain⟨e,c,a⟩:=h;simp only[wX,beq_iff_eq]at a;exact⟨e,c,a.1,a.2⟩
theorem BT(i d:Nat){oi v e b a w}(f:ops[i]?=some oi)(l:oi.dst=some d)(g:(i !=r)=true)(n:b.getD r true=false)(p:Region.noSelect ops=true)(m:Region.free md ops b i=true)(o:(Region.ready md ops b).contains i=true)(q:nI md ops r i=true)(j:∀c a w,Q (.panic c) (a.put oi.dst v) w->Q (.panic c) a w)(s:YieldsIf P ops S oi v a)(k:S w)(h:el P md ops Q S r e (b.setIfInBounds i true) (a.put (some d) v) w):el P md ops Q S r (e+1) b a w:=
 uO f (by simpa using g) (Region.noSelect_spec p) j e b a w (Region.free_spec f m) (by simpa using o) s (fun _=>k) (v6 ⟨n,fun _ h=>h,BR q⟩) (by rw[l];exact h)
theorem BU(i d:Nat){oi v e b a w}(f:ops[i]?=some oi)(l:oi.dst=some d)(g:(i !=r)=true)(o:Region.noSelect ops=true)(m:Region.free md ops b i=true)(n:(Region.ready md ops b).contains i=true)(j:∀c a w,Q (.panic c) (a.put oi.dst v) w->Q (.panic c) a w)(p:YieldsIf P ops (fun _=>True) oi v a)(k:b.getD r true=false->S w)(h:el P md ops Q S r e (b.setIfInBounds i true) (a.put (some d) v) w):el P md ops Q S r (e+1) b a w:=
 uO f (by simpa using g) (Region.noSelect_spec o) j e b a w (Region.free_spec f m) (by simpa using n) p k (v7 fun _=>trivial) (by rw[l];exact h)
theorem BW(i){o c b a w}(f:Region.ready md ops b=[i])(m:ops[i]?=some o)(h:∀K':Act->World->Prop,Shut (∀a w,((b.setIfInBounds i true).getD r true=false->S w)->el P md ops Q S r c (b.setIfInBounds i true) a w->K' a w)->if Region.wanted o (yielded ops a.tmps)=true then Oper.wp P o a w K' Q else K' (a.put o.dst undef) w):el P md ops Q S r (c+1) b a w:=
 ⟨fun d=>(by rw[f]at d;cases d),fun j e=>by
  rw[f]at e;obtain rfl:j=i:=by simpa using e
  exact wpOp_step m (fun K' g=>h K' (fun a w k l=>g a w ⟨k,l⟩))⟩
theorem BY{b a w}(d:Region.ready md ops b=[])(h:Q .normal a w):∀c,el P md ops Q S r c b a w
 |0=>⟨d,h⟩
 |_+1=>⟨fun _=>h,by rw[d];simp⟩
theorem l7(S r){id a w}(b:P.follows .mixedOrders=true)(h:el P .any ops Q S r ops.size (Array.replicate ops.size false) a w.drew):(Code.region id ops true).wp P Q a w:=
 wp_region_any b (uN _ _ _ _ h)
end
section
variable {P:Program} {ops:Array Oper} {Q:Exit->Act->World->Prop} {md:Region.Mode} {S:World->Prop} {D:Nat->Bool} {r:Nat}
theorem bJ(i:Nat){d:Nat}{oi:Oper}{v:Value}{e:Nat}{b:Array Bool}{a g:Act}{w:World}
 (h:bh P md ops Q S D e (b.setIfInBounds i true) g w)(k:S w:=by rfl)(p:ops[i]?=some oi:=by rfl)(m:oi.dst=some d:=by rfl)(o:Region.wanted oi (yielded ops a.tmps)=true:=by rfl)
 (r:Region.noSelect ops=true:=by kernel_rfl)(n:Region.free md ops b i=true:=by kernel_rfl)(q:(Region.ready md ops b).contains i=true:=by kernel_rfl)(s:ie md ops D b i=true:=by kernel_rfl)
 (t:∀w,S w->(execOp a.eval oi).run P w= .ok (.value v) w:=by(intro w f;(try dsimp only at f);rw[f];go_simp;try with_reducible rfl))
 (l:a.put (some d) v=g:=by(simp only[Act.put,fx,List.set];first|done|exact rfl))
 (j:∀c a w,Q (.panic c) (a.put oi.dst v) w->Q (.panic c) a w:=by exact fun _ _ _ h=>h):bh P md ops Q S D (e+1) b a w:=
 iu i d p m r n q s j (v7 ⟨o,t⟩) k (by rw[l];exact h)
theorem gO(i:Nat){d:Nat}{oi:Oper}{v:Value}{e:Nat}{b:Array Bool}{a f:Act}{w:World}(k:S w)
 (h:bh P md ops Q S D e (b.setIfInBounds i true) f w)(p:ops[i]?=some oi:=by rfl)(m:oi.dst=some d:=by rfl)(o:Region.wanted oi (yielded ops a.tmps)=true:=by rfl)
 (r:Region.noSelect ops=true:=by kernel_rfl)(n:Region.free md ops b i=true:=by kernel_rfl)(q:(Region.ready md ops b).contains i=true:=by kernel_rfl)(s:ie md ops D b i=true:=by kernel_rfl)
 (t:∀w,S w->(execOp a.eval oi).run P w= .ok (.value v) w:=by(intro w g;obtain⟨u,x,y,z⟩:=g;go_simp;try with_reducible rfl))
 (l:a.put (some d) v=f:=by(simp only[Act.put,fx,List.set];first|done|exact rfl))
 (j:∀c a w,Q (.panic c) (a.put oi.dst v) w->Q (.panic c) a w:=by exact fun _ _ _ h=>h):bh P md ops Q S D (e+1) b a w:=
 iu i d p m r n q s j (v7 ⟨o,t⟩) k (by rw[l];exact h)
theorem l8(i:Nat){d:Nat}{oi:Oper}(v:Value){e:Nat}{b:Array Bool}{a f:Act}{w:World}(k:S w)(x:∀w,S w->(execOp a.eval oi).run P w= .ok (.value v) w)
 (h:el P md ops Q S r e (b.setIfInBounds i true) f w)(p:ops[i]?=some oi:=by rfl)(m:oi.dst=some d:=by rfl)(o:Region.wanted oi (yielded ops a.tmps)=true:=by rfl)(g:(i !=r)=true:=by decide)(q:b.getD r true=false:=by kernel_rfl)
 (t:Region.noSelect ops=true:=by kernel_rfl)(n:Region.free md ops b i=true:=by kernel_rfl)(s:(Region.ready md ops b).contains i=true:=by kernel_rfl)(u:nI md ops r i=true:=by kernel_rfl)
 (l:a.put (some d) v=f:=by(simp only[Act.put,fx,List.set];first|done|exact rfl))
 (j:∀c a w,Q (.panic c) (a.put oi.dst v) w->Q (.panic c) a w:=by exact fun _ _ _ h=>h):el P md ops Q S r (e+1) b a w:=
 BT i d p m g q t n s u j (v7 ⟨o,x⟩) k (by rw[l];exact h)
theorem cK(i:Nat){d:Nat}{oi:Oper}{v:Value}{e:Nat}{b:Array Bool}{a f:Act}{w:World}
 (h:el P md ops Q S r e (b.setIfInBounds i true) f w)(k:b.getD r true=false->S w:=by first|(intro _;assumption)|(intro h;exact absurd (show true=false from h) uB))(p:ops[i]?=some oi:=by rfl)(m:oi.dst=some d:=by rfl)(o:Region.wanted oi (yielded ops a.tmps)=true:=by rfl)(g:(i !=r)=true:=by decide)
 (s:Region.noSelect ops=true:=by kernel_rfl)(n:Region.free md ops b i=true:=by kernel_rfl)(q:(Region.ready md ops b).contains i=true:=by kernel_rfl)
 (t:∀w,True->(execOp a.eval oi).run P w= .ok (.value v) w:=by(intro w u;go_simp;try with_reducible rfl))
 (l:a.put (some d) v=f:=by(simp only[Act.put,fx,List.set];first|done|exact rfl))
 (j:∀c a w,Q (.panic c) (a.put oi.dst v) w->Q (.panic c) a w:=by exact fun _ _ _ h=>h):el P md ops Q S r (e+1) b a w:=
 BU i d p m g s n q j (v7 ⟨o,t⟩) k (by rw[l];exact h)
theorem eO(i:Nat){o:Oper}{c:Nat}{b:Array Bool}{a:Act}{w:World}
 (h:∀K':Act->World->Prop,Shut (∀a w,((b.setIfInBounds i true).getD r true=false->S w)->el P md ops Q S r c (b.setIfInBounds i true) a w->K' a w)->Oper.wp P o a w K' Q)(g:Region.ready md ops b=[i]:=by kernel_rfl)(f:ops[i]?=some o:=by rfl)(e:Region.wanted o (yielded ops a.tmps)=true:=by rfl):el P md ops Q S r (c+1) b a w:=
 BW i g f fun K' d=>by rw[B4 e];exact h K' d
theorem goR{c:Prop}{s:World->Prop}{R K':Act->World->Prop}{a:Act}{w:World}(b:Shut (∀a w,(c->s w)->R a w->K' a w))(h:R a w)(d:c->s w:=by(intro h;exact absurd (show true=false from h) uB)):K' a w:=b.out a w d h
theorem l9{c:Nat}{b:Array Bool}{a:Act}{w:World}(h:Q .normal a w)(d:Region.ready md ops b=[]:=by kernel_rfl):el P md ops Q S r c b a w:=BY d h c
end
theorem BZ{l}(h:IsB l){x}(a:0<=x)(b:x<256):IsB (l++[x]):=fun i=>by
 rw[yc,List.getElem?_append];split
 ·have:=h i;rwa [yc]at this
 ·rcases xP (i-l.length) 1 with hi|hi
  ·rw[show i-l.length=0 by omega];exact⟨a,b⟩
  ·rw[x8 (by simp;omega)];exact⟨vo,vo⟩
theorem qC{l m}(h:IsB l)(a:IsB m):IsB (l++m):=fun i=>by
 rw[yc,List.getElem?_append];split
 ·have:=h i;rwa [yc]at this
 ·have:=a (i-l.length);rwa [yc]at this
theorem B6(a:Int):((a.tdiv 256<=a\/a.tdiv 256<=0)/\(a<=a.tdiv 256\/0<=a.tdiv 256))/\ -256<a.tmod 256/\a.tmod 256<256:=by
 rcases Int.le_total 0 a with h|h
 ·rw[z2 h,A3 h];omega
 ·obtain⟨y,rfl⟩:∃y,a= -y:=⟨-a,uA⟩;rw[Int.neg_tdiv,Int.neg_tmod,z2 uA,A3 uA];omega
def nmT:Int->Nat->List Int
 |_,0=>[]
 |z,j+1=>(z.tmod 256%256)::nmT (z.tdiv 256) j
theorem nJ(v)(k:Nat)(w)(H: -1000000000000000<=v)(I:v<=1000000000000000)(S:k<=8)(J:0<k):
 Calls prog 128 #[.int .i64 v,.int .i64 k] w fun e w'=> ∃g c,e= .returned (.slice (some ⟨g,0,none⟩) k c)/\Below w.1.size w w'/\Own w.1.size w' (some ⟨g,0,none⟩) k c (nmT v k)/\IsB (nmT v k):=by
 go_enter func128,ntmps128;go_wp2;go_loopw [0,5,6] (fun x o i wr=> ∃j a c l m,j<=k/\i= .int .i64 (j:Nat)/\o= .slice a j c/\x= .int .i64 m/\(-1000000000000000<=m/\m<=1000000000000000)/\Below w.1.size w wr/\Own w.1.size wr a j c l/\IsB l/\l++nmT m (k-j)=nmT v k) (fun _ _ i _=>k-(intOf i).toNat)
 case atStart=>
  refine⟨0,_,0,[],v,wa _,rfl,rfl,rfl,⟨H,I⟩,bAl _ _,?_,eX,rfl⟩;exact eI w [] 0 rfl uA _ t6
 case round=>
  obtain⟨j,a,c,l,m,R,rfl,rfl,rfl,⟨K,L⟩,b,d,u,y⟩:=hrel;have p:Hid _:=y;clear y;by_cases M:j<k
  ·obtain⟨r,E⟩:=cO (m.tmod 256);obtain⟨q,C⟩:=cO (m.tdiv 256);have s:Hid ((l++[r%256])++nmT q (k-(j+1))=nmT v k):=by
    show _= _;rw[<-p.out,show k-j=(k-(j+1))+1 by omega,nmT,E,C];simp
   have n:=B6 m;rw[E,C]at n;have D: -1000000000000000<=q/\q<=1000000000000000:=uA;have N:=n.2;clear n;have P:IntKind.i64.wrap r=r:=by simp[IntKind.wrap,IntKind.bits,IntKind.signed];omega
   have O:IntKind.i64.wrap q=q:=by simp[IntKind.wrap,IntKind.bits,IntKind.signed];omega
   have Q:IntKind.u8.wrap r=r%256:=by simp[IntKind.wrap,IntKind.bits,IntKind.signed]
   have u0:0<=r%256:=uA;have u1:r%256<256:=uA;clear K L;go_wp2_with (at_builtin;refine eu rfl _ _ rfl w.1.size a j c l rfl ?own _ 1 1 [r%256] rfl ?bs ?len ?B ?_)
   case own=>exact CV d _
   case bs=>exact fL wr (r%256) u0 u1
   case len=>omega
   case B=>have:=b.size;simp;omega
   intro F G w' A f _;have z:=(b.alloc b.size _).trans f;clear d b f;go_wp2;go_roundw
   case rel=>exact⟨j+1,F,G,_,q,uA,by go_num,rfl,rfl,D,z,A,BZ u u0 u1,s.out⟩
   case measure=>simp[intOf];omega
  ·have e:j=k:=uA;subst e;go_wp2;go_ret;obtain⟨g,rfl,_⟩:=mM d J;have t:=p.out;rw[Nat.sub_self,nmT,wP]at t;rw[<-t];exact⟨g,c,rfl,b,d,u⟩
def sbT(gen root used free:Int):List Int:=nmT gen 8++nmT root 4++nmT used 4++nmT free 4
theorem B7(f b d g w)(a4: -1000<=f)(ag:f<=1000000000001)(a5: -1000<=b)(a6:b<=10240)(u0: -1000<=d)(u1:d<=10240)(a3: -1000<=g)(f1:g<=10240):
 Calls prog 94 #[.agg #[.int .i64 f,.int .i64 b,.int .i64 d,.int .i64 g]] w fun e w'=> ∃a c,e= .returned (.slice a 20 c)/\Below w.1.size w w'/\Own w.1.size w' a 20 c (sbT f b d g)/\IsB (sbT f b d g):=by
 unfold sbT;go_enter func94,ntmps94;go_wp2_with fail;go_cut [3] (fun aS j=> ∃k l,aS= .slice k 12 l/\Below w.1.size w j/\w.1.size+1<=j.1.size/\Own (w.1.size+1) j k 12 l (nmT f 8++nmT b 4)/\IsB (nmT f 8++nmT b 4)/\j.cell? ⟨w.1.size,0,none⟩=some (.int .i64 f)/\j.cell? ⟨w.1.size,1,none⟩=some (.int .i64 b)/\j.cell? ⟨w.1.size,2,none⟩=some (.int .i64 d)/\j.cell? ⟨w.1.size,3,none⟩=some (.int .i64 g))
 case first=>
  go_region_law (first
   |(refine jY rfl _ _ rfl (w.1.size+1) _ 8 ac (nmT f 8) rfl (A.below n) ak 4 ad (nmT b 4) rfl (L.bs H) uA uA ?_;intro k l U x u)
   |(rw[B4 (show Region.wanted _ _=true from rfl)];go_wp2_with (first
    |(go_at_call_of 128 f;refine(nJ f 8 _ uA uA uA uA).mono ?_;rintro e w1 ⟨ag,ac,rfl,m,A,ap⟩;simp only[EB,World.size_alloc]at m A;obtain⟨k0,p,q,r⟩:=pR (w:=w) (v0:= .int .i64 f) (v1:= .int .i64 b) (v2:= .int .i64 d) (v3:= .int .i64 g) (t:=36) m (x3 _) rfl;have W:=m.size;simp only[EB,World.size_alloc]at W)
    |(go_at_call_of 128 b;refine(nJ b 4 _ uA uA uA uA).mono ?_;rintro e a7 ⟨ak,ad,rfl,n,L,H⟩;have a2:=n.size))))
  all_goals
   have K:=ge (w:=w) (ge (w:=w) ⟨k0,p,q,r⟩ n uA) u uA;have y:Below w.1.size w U:=((bAl _ _).drew.trans (m.mono (x0 _))).trans ((n.mono uA).trans (u.mono (x0 _)));have X:w.1.size+1<=U.1.size:=by have:=u.size;omega
   have Y:Hid _:=K;clear m n u A L W a2 k0 p q r K;go_wp2_with fail
   go_meet
   exact⟨k,l,rfl,y,X,x,qC ap H,Y.out⟩
 case rest=>
 obtain⟨k,l,rfl,y,X,x,aA,k0,p,q,r⟩:=hcut;have s:True:=trivial;go_wp2_with fail
 go_region_law (first
  |(have Z:=s;refine jY rfl _ _ rfl (w.1.size+1) k 12 l (nmT f 8++nmT b 4) rfl ?_ am 4 ae (nmT d 4) rfl ?_ ?_ ?_ ?_;exact x.below i;exact B.bs I;omega;omega;intro C F a1 M v;have bb:=v.size;have z:Own (w.1.size+1) a1 C 16 F ((nmT f 8++nmT b 4)++(nmT d 4)):=(by simpa using M);obtain⟨t0,aT,aX,a0⟩:=ge (w:=w) ⟨Q,R,S,T⟩ v uA;clear s Z)
  |(have ab:=o;refine jY rfl _ _ rfl (w.1.size+1) C 16 F ((nmT f 8++nmT b 4)++(nmT d 4)) rfl ?_ an 4 af (nmT g 4) rfl ?_ ?_ ?_ ?_;exact z.below o;exact N.bs J;omega;omega;intro D G V O E;clear ab)
  |(rw[B4 (show Region.wanted _ _=true from rfl)];go_wp2_with (first
   |(go_at_call_of 128 d;refine(nJ d 4 _ uA uA uA uA).mono ?_;rintro e a8 ⟨am,ae,rfl,i,B,I⟩;simp only[EB]at i B;replace i:=pQ i;have ba:=i.size;obtain⟨Q,R,S,T⟩:=ge (w:=w) ⟨k0,p,q,r⟩ i uA)
   |(go_at_call_of 128 g;refine(nJ g 4 _ uA uA uA uA).mono ?_;rintro e a9 ⟨an,af,rfl,o,N,J⟩;have bc:=o.size))))
 all_goals
  have aB:Below w.1.size w V:=y.trans (((i.mono uA).trans (v.mono (x0 _))).trans ((o.mono uA).trans (E.mono (x0 _))));have P:Own w.1.size V D 20 G ((nmT f 8++nmT b 4)++(nmT d 4)++(nmT g 4)):=by
   have:=O.mono (x0 _);simpa using this
  clear i v o E O N M z B x k0 p q r Q R S T t0 aT aX a0 y;go_wp2;go_ret;exact⟨D,G,rfl,aB,P,qC (qC aA I) J⟩
def kq(l:List Int)(p:Nat):Nat:=(l.getD p 0%9).toNat
def iz(l:List Int)(n p:Nat):List Int:=if 240<=l.getD p 0 then List.replicate (239+(l.getD p 0%3).toNat) 0 else rdL l n (rdP n p) (kq l p)
def uP(l:List Int)(n p:Nat):Nat:=rdN n (rdP n p) (kq l p)
theorem B9{l}(h:IsB l)(n p):IsB (iz l n p)/\(iz l n p).length<=241:=by
 unfold iz;split
 ·exact⟨lH _,by simp;omega⟩
 ·exact⟨qz h _ _ _,by rw[qx];unfold kq;omega⟩
theorem Ca(g a n c l p w)(h:IsRd w g a n c l p)(b A)(E:b=iz l n p)(F:A=uP l n p):
 Calls prog 95 #[.pointer (some ⟨g,0,none⟩)] w fun e w'=> ∃d f,e= .returned (.slice d b.length f)/\OnlyB g w w'/\IsRd w' g a n c l A/\Own w.1.size w' d b.length f b:=by
 have aA:=h.bs.byte p;have aB:=h.lt;go_enter func95,ntmps95;go_wp2_with fail;refine(cZ g a n c l p w h).mono ?_;rintro e w1 ⟨rfl,C,ac⟩;obtain⟨m,W⟩:∃m:Nat,l.getD p 0%9=(m:Int):=⟨(l.getD p 0%9).toNat,uA⟩;have R:Hid (kq l p=m):=by show kq l p=m;unfold kq;rw[W];rfl
 have Q:Hid (b=if 240<=l.getD p 0 then List.replicate (239+(l.getD p 0%3).toNat) 0 else rdL l n (rdP n p) m):=by show b= _;rw[E,<-R.out];rfl
 have S:Hid (A=rdN n (rdP n p) m):=by show A= _;rw[F,<-R.out];rfl
 clear E F;generalize l.getD p 0=k at*;obtain⟨k0,a6⟩:=aA;have Y:k.tmod 9=k%9:=A3 k0;have X:k.tmod 3=k%3:=A3 k0;have a2:m<=8:=uA;have N:=(B2 w1.1.size w1).alloc t6 (.cells #[] 5);have s:=C.thenB N C.size;have z:=ac.below N;have ae:=eI w1 [] 0 rfl uA w.1.size C.size;rw[W]at Y;have H:Hid (IsRd w g a n c l p):=h;clear N C ac h;go_wp2_with fail;go_loopw [4,5] (fun o i wr=> ∃(j:Nat)(d:Option Addr)(f:Nat),j<=m/\i= .int .i64 (j:Nat)/\o= .slice d j f/\OnlyB g w wr/\IsRd wr g a n c l (rdN n (rdP n p) j)/\Own w.1.size wr d j f (rdL l n (rdP n p) j)) (fun _ i _=>m-(intOf i).toNat)
 case atStart=>exact⟨0,_,0,wa _,rfl,rfl,s,z,ae⟩
 case round=>
  obtain⟨j,d,f,a5,rfl,rfl,u,x,y⟩:=hrel;clear s z ae;by_cases a1:j<m
  ·have L:(j:Int)< (m:Int):=uA;have aT:=x.bs.byte (rdN n (rdP n p) j);go_wp2_with fail;refine(cZ g a n c l _ wr x).mono ?_;rintro e O ⟨rfl,s,z⟩;have Z:(Value.slice d j f).ownBlock≠some g:=fun e=>by have:=(Ct y g e).1;omega
   have G:=s.own y Z;have aX:=wg u.size s.size;have T:Hid _:=u.trans s;have J:Hid _:=z;have D:Hid _:=G;have af:Hid (rdL l n (rdP n p) (j+1)=rdL l n (rdP n p) j++[l.getD (rdN n (rdP n p) j) 0]):=rfl;generalize l.getD (rdN n (rdP n p) j) 0=v at*;obtain⟨a3,a4⟩:=aT;clear y x u s z G;go_wp2_with (at_builtin;refine eu rfl _ _ rfl w.1.size d j f (rdL l n (rdP n p) j) rfl ?own _ 1 1 [v] rfl ?bs ?len ?B ?_)
   case own=>exact CV D.out _
   case bs=>exact fL O v uA uA
   case len=>omega
   case B=>simp;omega
   intro an ap a8 ab U _;have q:=(B2 O.1.size O).alloc t6 (.cells #[.int .u8 v] 5);have K:=(q.mono aX).trans U;have M:=T.out.thenB K t6;have ad:=H.out.only M (by rw[K.block g aB];exact J.out.box) J.out.at_;have ak:Hid _:=M;have am:Hid _:=ad;have ag:Hid _:=ab;clear ab U q K M ad T J D;go_wp2;go_roundw
   case rel=>exact⟨j+1,an,ap,uA,by go_num,rfl,ak.out,am.out,by rw[af.out];exact ag.out⟩
   case measure=>simp[intOf];omega
  ·have e:j=m:=uA;subst e;have P:=uv u (vJ x y);have L:¬(j:Int)< (j:Int):=uA;clear u x y;by_cases V:240<=k
   ·obtain⟨r,I⟩:∃r:Nat,k%3=(r:Int):=⟨(k%3).toNat,uA⟩;have aS:r<=2:=uA;have t:Hid (b=List.replicate (239+r) 0):=by show b= _;rw[Q.out,B4 V,I];rfl
    rw[I]at X;have a7:=fun(w:World)=>qA (239+r) (239+(r:Int)) uA uA w;go_wp2;go_ret;have q:=(B2 wr.1.size wr).alloc t6 (.cells (madeCells #[.int .u8 0] (239+r)) 5);rw[t.out,S.out,List.length_replicate];refine⟨_,_,rfl,P.out.1.thenB q P.out.1.size,P.out.2.1.below q,?_⟩;have e:madeCells #[Value.int .u8 0] (239+r)=(ob (List.replicate (239+r) 0)).toArray:=by
     apply Array.toList_inj.1;rw[toList_madeCells_one];simp[ob]
    rw[e];exact eI wr _ _ vo uA _ P.out.1.size
   ·have a0:k<240:=uA;have t:Hid (b=rdL l n (rdP n p) j):=by show b= _;rw[Q.out,CH V]
    go_wp2;go_ret;rw[t.out,S.out,qx];exact⟨d,f,rfl,P.out⟩
theorem Cb:(prog.info? 3).map (fun i=>(i.zero,i.size,i.bytes))=some (some (.int .i64 0),1,8):=vk
def oi(l:List Int):List Value:=l.map (Value.int .i64)
theorem Cc?(l:List Int)(j:Nat)(h:j<l.length):(oi l)[j]?=some (.int .i64 (l.getD j 0)):=by simp[oi,List.getD,h]
theorem Cd(l i x):(oi l).set i (.int .i64 x)=oi (l.set i x):=by simp[oi,List.map_set]
def OwnI(B:Nat)(w:World)(a:Option Addr)(n c:Nat)(l:List Int):Prop:=w.ownsRow B 3 1 (.slice a n c) n (oi l)
theorem OwnI.len{B w a n c l}(h:OwnI B w a n c l):l.length=n:=by
 have:=h.1;simpa [oi]using this
theorem OwnI.below{B w w' a n c l}(h:OwnI B w a n c l)(b:Below w.1.size w w'):OwnI B w' a n c l:=bQ h b
theorem OwnI.mono{B B' w a n c l}(h:OwnI B w a n c l)(b:B'<=B):OwnI B' w a n c l:=World.ownsRow.mono h b
theorem OwnI.cell{B g w n c l}(h:OwnI B w (some ⟨g,0,none⟩) n c l)(i)(a:i<n):w.cell? ⟨g,i,none⟩=some (.int .i64 (l.getD i 0)):=by
 rw[DP h i uA];exact Cc? l i (by have:=h.len;omega)
theorem Ce(w:World)(cs l n)(a:cs.toList=oi l)(c:l.length=n)(h:n<=1048576)(B)(b:B<=w.1.size):OwnI B (w.alloc (.cells cs 3)) (some ⟨w.1.size,0,none⟩) n n l:=by
 have:=World.ownsRow_lit (base:=B) (e:=3) (size:=1) w cs n b (by unfold maxLen;omega) (by rw[<-Array.length_toList,a];simp[oi];omega);unfold OwnI;rw[<-a];exact this
theorem Cf{l m:List Int}(c:l.length=m.length)(h:∀i,i<l.length->l.getD i 0=m.getD i 0):l=m:=by
 apply List.ext_getElem c;intro i a b;have:=h i a;simpa [List.getD_eq_getElem?_getD,a,b]using this
theorem uQ(a b n m G H l k w)(h:Bs w a n G l)(d:Bs w b m H k):
 Calls prog 105 #[.slice a n G,.slice b m H] w fun e w'=>e= .returned (.bool (decide (l=k)))/\Below w.1.size w w':=by
 have I:n<=maxLen:=wg h.le h.le';have J:m<=maxLen:=wg d.le d.le';unfold maxLen at I J;by_cases u:n=m
 case neg=>
  have K:((n:Int) !=(m:Int))=true:=by simp;omega
  rw[show decide (l=k)=false from CP (fun e=>u (by rw[<-h.len_eq,<-d.len_eq,e]))];go_enter func105,ntmps105;go_wp2;go_ret;exact⟨rfl,t7⟩
 subst u;have K:((n:Int) !=(n:Int))=false:=by simp
 have O:Hid ((∀i,i<n->l.getD i 0=k.getD i 0)->decide (l=k)=true):=fun Q=>CR (Cf (by rw[h.len_eq,d.len_eq]) (fun i c=>Q i (by rw[h.len_eq]at c;exact c)));have N:Hid (∀i,l.getD i 0≠k.getD i 0->decide (l=k)=false):=fun i c=>CP (fun e=>c (by rw[e]));go_enter func105,ntmps105;go_wp2;go_loopw [5] (fun i wr=> ∃j:Nat,j<=n/\i= .int .i64 j/\Below w.1.size w wr/\∀i,i<j->l.getD i 0=k.getD i 0) (fun i _=>n-(intOf i).toNat)
 case atStart=>exact⟨0,wa _,rfl,t7,fun i c=>absurd c uA⟩
 case round=>
  obtain⟨j,V,rfl,g,f⟩:=hrel;have A:Hid _:=f;clear f;by_cases t:j<n
  ·obtain⟨E,o,rfl,v,r⟩:=h.at_ uA;obtain⟨F,q,rfl,z,s⟩:=d.at_ uA;have W:wr.cell? ⟨E,o+j,none⟩=some (.int .u8 (l.getD j 0)):=by rw[g.cell (p:=⟨E,o+j,none⟩) v];exact r j t
   have X:wr.cell? ⟨F,q+j,none⟩=some (.int .u8 (k.getD j 0)):=by rw[g.cell (p:=⟨F,q+j,none⟩) z];exact s j t
   have R:(0:Int)<=(j:Int):=uA;have S:(j:Int)< (n:Int):=uA;have B:Hid _:=g;clear r s h d g;generalize hx:l.getD j 0=x at*;generalize L:k.getD j 0=y at*;have C:Hid _:=hx;have D:Hid _:=L;clear hx L;by_cases e:x=y
   ·subst e;have T:(x !=x)=false:=by simp
    go_wp2_with fail;go_region
    all_goals
     go_wp2;go_roundw
     case rel=>
      refine⟨j+1,uA,by go_num,B.out.drew,fun i c=> ?_⟩;by_cases e:i=j
      ·subst e;rw[C.out,D.out]
      ·exact A.out i uA
     case measure=>simp[intOf];omega
   ·have U:(x !=y)=true:=by simp[e]
    have M:Hid (decide (l=k)=false):=N.out j (by rw[C.out,D.out];exact e);clear e;go_wp2_with fail;go_region
    all_goals
     go_wp2;go_ret;exact⟨by rw[M.out];rfl,B.out.drew⟩
  ·have e:j=n:=uA;subst e;have P:Hid (decide (l=k)=true):=O.out A.out;go_wp2;go_ret;exact⟨by rw[P.out];rfl,g⟩
theorem Cg(d a K w)(h:RDisk w d K)(W:RDisk w a K)(ab:Small d K):
 Calls prog 61 #[av d K,av a K] w fun e w'=>e= .returned (.bool true)/\Below w.1.size w w':=by
 have aT:=ab.n;have aS:=ab.m;have O:=fK w (.cells #[.slice d.sa K.n d.sc,.slice d.pa K.m d.pc] 35) (.cells #[.slice a.sa K.n a.sc,.slice a.pa K.m a.pc] 35);have P:((w.alloc (.cells #[.slice d.sa K.n d.sc,.slice d.pa K.m d.pc] 35)).alloc (.cells #[.slice a.sa K.n a.sc,.slice a.pa K.m a.pc] 35)).heap[w.1.size]?=some (.cells #[.slice d.sa K.n d.sc,.slice d.pa K.m d.pc] 35 (0,0)):=by
  rw[Below.heap_alloc _ _ _ vo];exact D6 w _
 have Q:((w.alloc (.cells #[.slice d.sa K.n d.sc,.slice d.pa K.m d.pc] 35)).alloc (.cells #[.slice a.sa K.n a.sc,.slice a.pa K.m a.pc] 35)).heap[w.1.size+1]?=some (.cells #[.slice a.sa K.n a.sc,.slice a.pa K.m a.pc] 35 (0,0)):=by
  have:=D6 (w.alloc (.cells #[.slice d.sa K.n d.sc,.slice d.pa K.m d.pc] 35)) (.cells #[.slice a.sa K.n a.sc,.slice a.pa K.m a.pc] 35);rw[World.size_alloc]at this;exact this
 have a0:((w.alloc (.cells #[.slice d.sa K.n d.sc,.slice d.pa K.m d.pc] 35)).alloc (.cells #[.slice a.sa K.n a.sc,.slice a.pa K.m a.pc] 35)).1.size=w.1.size+1+1:=by simp
 have ac:=h.below O;have ad:=W.below O;have x:=DC _ _ 0 _ _ _ P;have y:=DC _ _ 1 _ _ _ P;have e0:=DC _ _ 0 _ _ _ Q;have z:=DC _ _ 1 _ _ _ Q;have ae:Hid _:=O;clear O h W;unfold av;go_enter func61,ntmps61;go_wp2;generalize ag:(w.alloc (.cells #[.slice d.sa K.n d.sc,.slice d.pa K.m d.pc] 35)).alloc (.cells #[.slice a.sa K.n a.sc,.slice a.pa K.m a.pc] 35)=T at*;clear ag;have A:Hid (∀v:World,Below T.1.size T v->v.cell? ⟨w.1.size,0,none⟩=some (.slice d.sa K.n d.sc)/\v.cell? ⟨w.1.size,1,none⟩=some (.slice d.pa K.m d.pc)/\v.cell? ⟨w.1.size+1,0,none⟩=some (.slice a.sa K.n a.sc)/\v.cell? ⟨w.1.size+1,1,none⟩=some (.slice a.pa K.m a.pc)/\RDisk v d K/\RDisk v a K):=fun v N=>by
  have u0:=(N.block w.1.size uA).trans P;have u1:=(N.block (w.1.size+1) uA).trans Q;exact⟨DC _ _ 0 _ _ _ u0,DC _ _ 1 _ _ _ u0,DC _ _ 0 _ _ _ u1,DC _ _ 1 _ _ _ u1,ac.below N,ad.below N⟩
 clear P Q ac ad x y e0 z;go_loopw [5] (fun i wr=> ∃j:Nat,j<=K.n/\i= .int .i64 j/\Below T.1.size T wr) (fun i _=>K.n-(intOf i).toNat)
 case atStart=>exact⟨0,wa _,rfl,t7⟩
 case round=>
  obtain⟨j,aB,rfl,g⟩:=hrel;obtain⟨x,y,e0,z,L,s⟩:=A.out wr g;by_cases B:j<K.n
  ·have G:=bDr wr;have m:=g.trans (G.mono g.size);obtain⟨I,_,J,_,n,c⟩:=A.out wr.drew m;obtain⟨b,C,H,_,D⟩:=n.safe.at_ uA;obtain⟨M,q,r,_,o⟩:=c.safe.at_ uA;have k0:wr.drew.cell? ⟨b,C+j,none⟩=some (.slice (d.sA j) (d.sN j) (d.sC j)):=by have:=(D j B).2;simpa using this
   have S:wr.drew.cell? ⟨M,q+j,none⟩=some (.slice (a.sA j) (a.sN j) (a.sC j)):=by have:=(o j B).2;simpa using this
   have u:=uQ _ _ _ _ _ _ _ _ wr.drew (n.safe.data j B) (c.safe.data j B);rw[CR rfl]at u;rw[H]at I x;rw[r]at J e0;have Y:(0:Int)<=(j:Int):=uA;have Z:(j:Int)< (K.n:Int):=uA;have E:Hid _:=m;clear D o L s n c g m G H r;go_wp2_with fail;refine az (fun v=>v=wr.drew) (fun k=>decide (10<=k)) vk ?_;generalize wr.drew=af at*;refine bJ 0 ?_;refine bJ 1 ?_;refine bJ 2 ?_;refine bJ 3 ?_;refine bJ 4 ?_;refine bJ 5 ?_;refine bJ 6 ?_;refine bJ 7 ?_;refine bJ 8 ?_;refine bJ 9 ?_;refine ah 10 fun p f=> ?_;go_wp2_with fail;refine u.mono ?_;rintro e an ⟨rfl,F⟩;go_wp2_with fail;refine f.out _ _ (fun h=>absurd h uB) ?_;clear f p;refine ah 11 fun p f=> ?_;go_wp2_with fail;refine f.out _ _ (fun h=>absurd h uB) ?_;clear f p;refine bi ?_;have R:Hid _:=E.out.trans (F.mono E.out.size);clear F u k0 S I J x y e0 z;go_wp2;go_roundw
   case rel=>exact⟨j+1,uA,by go_num,R.out⟩
   case measure=>simp[intOf];omega
  ·have V:Hid _:=g;obtain⟨aA,X⟩:=aa wr;subst X;clear L s g;go_wp2;clear x y e0 z;go_loopw [6] (fun i wr=> ∃j:Nat,j<=K.m/\i= .int .i64 j/\Below T.1.size T wr) (fun i _=>K.m-(intOf i).toNat)
   case atStart=>exact⟨0,wa _,rfl,V.out⟩
   case round=>
    obtain⟨t,aX,rfl,g⟩:=hrel;obtain⟨x,y,e0,z,L,s⟩:=A.out wr g;by_cases l:t<K.m
    ·have G:=bDr wr;have m:=g.trans (G.mono g.size);obtain⟨_,I,_,J,n,c⟩:=A.out wr.drew m;obtain⟨b,C,H,_,D⟩:=n.pend.at_ uA;obtain⟨M,q,r,_,o⟩:=c.pend.at_ uA;have k0:wr.drew.cell? ⟨b,C+t*2,none⟩=some (.int .i64 (K.At t)):=by have:=(D t l).1 0 uA;exact this
     have S:wr.drew.cell? ⟨M,q+t*2,none⟩=some (.int .i64 (K.At t)):=by have:=(o t l).1 0 uA;exact this
     have ak:wr.drew.cell? ⟨b,C+t*2+1,none⟩=some (.slice (d.pA t) (d.pN t) (d.pC t)):=(D t l).2;have am:wr.drew.cell? ⟨M,q+t*2+1,none⟩=some (.slice (a.pA t) (a.pN t) (a.pC t)):=(o t l).2;have u:=uQ _ _ _ _ _ _ _ _ wr.drew (n.pend.data t l) (c.pend.data t l);rw[CR rfl]at u;rw[H]at I y;rw[r]at J z;have Y:(0:Int)<=(t:Int):=uA;have Z:(t:Int)< (K.m:Int):=uA;have E:Hid _:=m;clear D o L s n c g m G H r;generalize K.At t=ap at*;go_wp2_with fail;refine az (fun v=>v=wr.drew) (fun k=>decide (26<=k)) vk ?_;generalize wr.drew=af at*;refine bJ 0 ?_;refine bJ 1 ?_;refine bJ 2 ?_;refine bJ 3 ?_;refine bJ 4 ?_;refine bJ 5 ?_;refine bJ 6 ?_;refine bJ 7 ?_;refine bJ 8 ?_;refine bJ 9 ?_;refine bJ 10 ?_;refine bJ 11 ?_;refine bJ 12 ?_;refine bJ 13 ?_;refine bJ 14 ?_;refine bJ 15 ?_;refine bJ 16 ?_;refine bJ 17 ?_;refine bJ 18 ?_;refine bJ 19 ?_;refine bJ 20 ?_;refine bJ 21 ?_;refine bJ 22 ?_;refine bJ 23 ?_;refine bJ 24 ?_;refine bJ 25 ?_;refine ah 26 fun p f=> ?_;go_wp2_with fail;refine u.mono ?_;rintro e an ⟨rfl,F⟩;go_wp2_with fail;refine f.out _ _ (fun h=>absurd h uB) ?_;clear f p;refine ah 27 fun p f=> ?_;go_wp2_with fail;refine f.out _ _ (fun h=>absurd h uB) ?_;clear f p;refine ah 28 fun p f=> ?_;go_wp2_with fail;refine f.out _ _ (fun h=>absurd h uB) ?_;clear f p;refine bi ?_;have R:Hid _:=E.out.trans (F.mono E.out.size);clear F u k0 S ak am I J x y e0 z;go_wp2;go_roundw
     case rel=>exact⟨t+1,uA,by go_num,R.out⟩
     case measure=>simp[intOf];omega
    ·have U:Hid (Below w.1.size w wr):=ae.out.trans (g.mono uA);clear g L s;go_wp2;go_ret;exact⟨rfl,U.out⟩
def stV(d:DV)(K:DK)(g r u f:Int):List Value:=[.slice d.sa K.n d.sc,.slice d.pa K.m d.pc,.int .i64 g,.int .i64 r,.int .i64 u,.int .i64 f]
def stZ:List Value:=[.slice none 0 0,.slice none 0 0,.int .i64 0,.int .i64 0,.int .i64 0,.int .i64 0]
theorem ku:∀u∈stZ,u.oneCell'=true:=by intro u a;simp[stZ]at a;rcases a with rfl|rfl<;>rfl
theorem nK(d K g r u f):∀x∈stV d K g r u f,x.oneCell'=true:=by intro x hx;simp[stV]at hx;rcases hx with rfl|rfl|rfl|rfl|rfl|rfl<;>rfl
theorem dY:(prog.info? 38).map (·.size)=some 6:=vk
theorem IX:prog.built 38 []=some stZ.toArray:=vk
theorem uR(d K g r u f):prog.built 38 [(0,.agg #[.slice d.sa K.n d.sc,.slice d.pa K.m d.pc]),(1,.agg #[.int .i64 g,.int .i64 r,.int .i64 u,.int .i64 f])]=some (stV d K g r u f).toArray:=vk
theorem uS{B e s:Nat}{w w':World}{v n xs}(h:w.ownsRow B e s v n xs)(a:∀k,B<=k->k<w.1.size->w'.heap[k]?=w.heap[k]?):w'.ownsRow B e s v n xs:=by
 refine⟨h.1,?_⟩;rcases h.2 with h2|⟨g,cap,cur,e1,hB,hh,r⟩
 ·exact v7 h2
 ·exact v6 ⟨g,cap,cur,e1,hB,(a g hB (wy.1 hh).1).trans hh,r⟩
theorem ORecs.low{p e B w w' a n c j f N g L}(h:ORecs p e B w a n c j f N g L)(b:∀k,B<=k->k<w.1.size->w'.heap[k]?=w.heap[k]?):ORecs p e B w' a n c j f N g L:=
 ⟨uS h.row b,fun i d=>uS (h.data i d) b,h.byte,h.sep1⟩
theorem IZ{B B0 g w w' d K}(h:ODisk B w d K)(o:OnlyB g w w')(a:B0<=B)(f:g<B):ODisk B0 w' d K:=by
 have b:∀k,B<=k->k<w.1.size->w'.heap[k]?=w.heap[k]?:=fun k e c=>o.block k c uA;exact⟨(h.safe.low b).mono a,(h.pend.low b).mono a,h.sepX⟩
theorem uT{B B0 g w d K a}(h:ODisk B w d K)(b:B0<=B)(i:g<B):ODisk B0 (w.setRow g a) d K:=by
 have o:=du w g a;have c:∀k,B<=k->k<w.1.size->(w.setRow g a).heap[k]?=w.heap[k]?:=fun k f e=>o.block k e uA;exact⟨(h.safe.low c).mono b,(h.pend.low c).mono b,h.sepX⟩
theorem Ci(d a K g r u f w)(h:RDisk w d K)(A:RDisk w a K)(G:Small d K):
 Calls prog 26 #[.agg (stV d K g r u f).toArray,.agg (stV a K g r u f).toArray] w fun e w'=>e= .returned (.bool true)/\Below w.1.size w w':=by
 obtain⟨k,b⟩:=aa (w.alloc (.cells (stV d K g r u f).toArray 38));obtain⟨l,m⟩:=aa (k.alloc (.cells (stV a K g r u f).toArray 38));have v:Below w.1.size w k:=by rw[b];exact bAl _ _
 have x:Below k.1.size k l:=by rw[m];exact bAl _ _
 have B:k.1.size=w.1.size+1:=by rw[b];simp
 have q:=(by rw[b];exact aq w _ _:Blk k 38 w.1.size (stV d K g r u f)).below x;have s:Blk l 38 (w.1.size+1) (stV a K g r u f):=by rw[m,<-B];exact aq k _ _
 have n:=v.trans (x.mono v.size);have t:=Cg d a K l (h.below n) (A.below n) G;have p:=uv q (vJ s n);have C:l.cell? ⟨w.1.size,0,none⟩=some (.slice d.sa K.n d.sc):=q.cell 0;have D:l.cell? ⟨w.1.size,1,none⟩=some (.slice d.pa K.m d.pc):=q.cell 1;have E:l.cell? ⟨w.1.size+1,0,none⟩=some (.slice a.sa K.n a.sc):=s.cell 0;have F:l.cell? ⟨w.1.size+1,1,none⟩=some (.slice a.pa K.m a.pc):=s.cell 1;unfold av at t;clear v x B n q s h A;go_enter func26,ntmps26;go_upto_region 1 with fail
 change Code.wp _ _ _ _ ((w.alloc (.cells (stV d K g r u f).toArray 38)).alloc (.cells (stV a K g r u f).toArray 38));rw[<-b,<-m];clear b m;go_wp2_with fail;refine t.mono ?_;rintro e j ⟨rfl,o⟩;have c:=p.out.1.below o;have i:=p.out.2.1.below o;have z:=p.out.2.2.trans (o.mono p.out.2.2.size);clear C D E F t o;have H:j.cell? ⟨w.1.size,2,none⟩=some (.int .i64 g):=c.cell 2;have I:j.cell? ⟨w.1.size,3,none⟩=some (.int .i64 r):=c.cell 3;have J:j.cell? ⟨w.1.size,4,none⟩=some (.int .i64 u):=c.cell 4;have L:j.cell? ⟨w.1.size,5,none⟩=some (.int .i64 f):=c.cell 5;have M:j.cell? ⟨w.1.size+1,2,none⟩=some (.int .i64 g):=i.cell 2;have o:j.cell? ⟨w.1.size+1,3,none⟩=some (.int .i64 r):=i.cell 3;have N:j.cell? ⟨w.1.size+1,4,none⟩=some (.int .i64 u):=i.cell 4;have O:j.cell? ⟨w.1.size+1,5,none⟩=some (.int .i64 f):=i.cell 5;have y:Hid _:=z;clear c i z;go_wp2_with fail;go_ret;exact⟨rfl,y.out⟩
section
variable {H:Type} {enc:TypeId×Value->H} {W:World}
theorem Cj{e v x}(h:DataW.trod enc prog W 0 (fun _=>true) true e 56 [v]=some x):∃y:Option Addr×Nat×Nat×List Int,v= .slice y.1 y.2.1 y.2.2.1/\Bs W y.1 y.2.1 y.2.2.1 y.2.2.2:=by
 rcases open_ints underlying56 D0 y5 h with⟨b,_⟩|⟨a,l,c,k,b,_,g,i,j,_,d,f⟩
 ·simp at b;subst b;exact⟨(none,0,0,[]),rfl,⟨rfl,t6,wa _,fun _=>rfl,fun h=>absurd h (Nat.lt_irrefl 0),eX⟩⟩
 ·simp at b;subst b;exact⟨(some a,l,c,k.take l),rfl,y9 (v6 ⟨a,rfl,g,i,by simpa using j,d,f⟩)⟩
end
