import Derived.Test.YtglbanolhhjjiaaGreatDoorFo7
import Derived.Lib.SmallJoins
namespace Go.Proofs.YtglbanolhhjjiaaGreatDoor
open Go.Proofs.Tryz
open Go.RowKit Go.ChangeShapes Go.WideShapes Go.ChangeAt Go.Joins Go.Deep
set_option linter.unusedVariables false
set_option maxRecDepth 100000
set_option maxHeartbeats 32000000
section
variable {P:Program} {ops:Array Oper} {Q:Exit->Act->World->Prop} {md:Region.Mode} {S:World->Prop} {r:Nat}
def el(P:Program)(md:Region.Mode)(ops:Array Oper)(Q:Exit->Act->World->Prop)(S:World->Prop)(r:Nat):Nat->Array Bool->Act->World->Prop
 |0,listed,a,w=>Region.ready md ops listed=[]/\Q .normal a w
 |fuel+1,listed,a,w=>
  (Region.ready md ops listed=[]->Q .normal a w)/\
  ∀i∈Region.ready md ops listed,wpOp P ops Q i (fun a' w'=>((listed.setIfInBounds i true).getD r true=false->S w')/\el P md ops Q S r fuel (listed.setIfInBounds i true) a' w') a w
theorem uN:∀(b:Nat)(c:Array Bool)(a:Act)(w:World),el P md ops Q S r b c a w->wpAny P md ops Q b c a w
 |0,_,_,_,d=>d
 |b+1,_,_,_,d=>⟨d.1,fun i g=>wpOp_mono (fun e w' f=>uN b _ e w' f.2) (d.2 i g)⟩
theorem uO{i oi v T}(W:ops[i]?=some oi)(A:i≠r)(D:∀(j:Nat)(o:Oper) cs b,ops[j]?=some o->o.op≠ .select cs b)(ae:∀c a w,Q (.panic c) (a.put oi.dst v) w->Q (.panic c) a w):
 ∀(h:Nat)(d:Array Bool)(a:Act)(w:World),
  (∀j f,ops[j]?=some f->j≠i->d.getD j true=false->(∀e∈f.after,Region.binds md e=true->e.on≠i)->oi.apart ops f=true)->
  i∈Region.ready md ops d->YieldsIf P ops T oi v a->(d.getD r true=false->S w)->
  ((∀w,T w)\/(d.getD r true=false/\(∀w,S w->T w)/\∀f,ops[r]?=some f->∃e∈f.after,Region.binds md e=true/\e.on=i))->
  el P md ops Q S r h (d.setIfInBounds i true) (a.put oi.dst v) w->el P md ops Q S r (h+1) d a w:=by
 intro h;have J:∀(d:Array Bool)(w:World),(d.getD r true=false->S w)->((∀w,T w)\/(d.getD r true=false/\(∀w,S w->T w)/\∀f,ops[r]?=some f->∃e∈f.after,Region.binds md e=true/\e.on=i))->T w:=fun l w s m=>by
  rcases m with m|⟨n,O,_⟩
  ·exact m w
  ·exact O w (s n)
 induction h with
 |zero=>
  intro d a w _ t I s u H;refine⟨fun m=>(by rw[m]at t;cases t),fun j F=> ?_⟩;by_cases g:j=i
  ·subst g;exact I.wpOp W (J d w s u) ⟨fun m=>s (by rw[getD_set_ne true A]at m;exact m),H⟩
  ·have:=ready_mono F g;rw[H.1]at this;cases this
 |succ h ih=>
  intro d a w x t I s u H;refine⟨fun m=>(by rw[m]at t;cases t),fun j F=> ?_⟩;by_cases g:j=i
  ·subst g;exact I.wpOp W (J d w s u) ⟨fun m=>s (by rw[getD_set_ne true A]at m;exact m),H⟩
  ·have n:=H.2 j (ready_mono F g);obtain⟨B,f,y,R⟩:=mem_ready.1 F;have C:∀e∈f.after,Region.binds md e=true->e.on≠i:=fun e V U Y=>by
    have n:=R e V U;have X:=(mem_ready.1 t).1;rw[Y]at n;rcases w9 i d.size with p|p
    ·simp[p]at X n;rw[X]at n;cases n
    ·simp[Array.getElem?_eq_none p]at n
   have O:=wpOp_putIf y (x j f y g B C) (fun cs b=>D i oi cs b W) (fun cs b=>D j f cs b y) ae I n;have z:∀k E,ops[k]?=some E->k≠i->(d.setIfInBounds j true).getD k true=false->
    (∀e∈E.after,Region.binds md e=true->e.on≠i)->oi.apart ops E=true:=fun k E af Z N ab=>by
    refine x k E af Z ?_ ab;by_cases L:j=k
    ·subst L;exact B
    ·rw[getD_set_ne true L]at N;exact N
   have G:(∀w,T w)\/((d.setIfInBounds j true).getD r true=false/\(∀w,S w->T w)/\∀f,ops[r]?=some f->∃e∈f.after,Region.binds md e=true/\e.on=i):=by
    rcases u with m|⟨m,p,q⟩
    ·exact u5 m
    ·refine u4 ⟨?_,p,q⟩;by_cases M:j=r
     ·subst M;obtain⟨e,V,U,ac⟩:=q f y;exact absurd ac (C e V U)
     ·rw[getD_set_ne true M];exact m
   have K:∀w',(((d.setIfInBounds i true).setIfInBounds j true).getD r true=false->S w')->(d.setIfInBounds j true).getD r true=false->S w':=fun w' m p=>m (by
    rw[Array.setIfInBounds_comm _ _ (DX g),getD_set_ne true A];exact p)
   refine wpOp_mono (fun ad w' q=>⟨K w' q.2.1,ih (d.setIfInBounds j true) ad w' z (ready_mono t (DX g)) q.1 (K w' q.2.1) G ?_⟩) O;rw[Array.setIfInBounds_comm _ _ g];exact q.2.2
def nI(md:Region.Mode)(ops:Array Oper)(r i:Nat):Bool:=match ops[r]? with|none=>true|some o=>o.after.any fun e=>Region.binds md e&&e.on==i
theorem BR{i}(c:nI md ops r i=true)(b)(f:ops[r]?=some b):∃e∈b.after,Region.binds md e=true/\e.on=i:=by
 unfold nI at c;rw[f]at c;simp only[Array.any_eq_true']at c;obtain⟨e,d,a⟩:=c;simp only[wz,beq_iff_eq]at a;exact⟨e,d,a.1,a.2⟩
theorem BT(i d:Nat){oi v e b a w}(f:ops[i]?=some oi)(l:oi.dst=some d)(g:(i !=r)=true)(n:b.getD r true=false)(p:Region.noSelect ops=true)(m:Region.free md ops b i=true)(o:(Region.ready md ops b).contains i=true)(q:nI md ops r i=true)(j:∀c a w,Q (.panic c) (a.put oi.dst v) w->Q (.panic c) a w)(s:YieldsIf P ops S oi v a)(k:S w)(h:el P md ops Q S r e (b.setIfInBounds i true) (a.put (some d) v) w):el P md ops Q S r (e+1) b a w:=
 uO f (by simpa using g) (Region.noSelect_spec p) j e b a w (Region.free_spec f m) (by simpa using o) s (fun _=>k) (u4 ⟨n,fun _ h=>h,BR q⟩) (by rw[l];exact h)
theorem BU(i d:Nat){oi v e b a w}(f:ops[i]?=some oi)(k:oi.dst=some d)(g:(i !=r)=true)(n:Region.noSelect ops=true)(l:Region.free md ops b i=true)(m:(Region.ready md ops b).contains i=true)(h:∀c a w,Q (.panic c) (a.put oi.dst v) w->Q (.panic c) a w)(o:YieldsIf P ops (fun _=>True) oi v a)(j:b.getD r true=false->S w)(p:el P md ops Q S r e (b.setIfInBounds i true) (a.put (some d) v) w):el P md ops Q S r (e+1) b a w:=
 uO f (by simpa using g) (Region.noSelect_spec n) h e b a w (Region.free_spec f l) (by simpa using m) o j (u5 fun _=>trivial) (by rw[k];exact p)
theorem BW(i){o c b a w}(f:Region.ready md ops b=[i])(l:ops[i]?=some o)(m:∀K':Act->World->Prop,Shut (∀a w,((b.setIfInBounds i true).getD r true=false->S w)->el P md ops Q S r c (b.setIfInBounds i true) a w->K' a w)->if Region.wanted o (yielded ops a.tmps)=true then Oper.wp P o a w K' Q else K' (a.put o.dst undef) w):el P md ops Q S r (c+1) b a w:=
 ⟨fun d=>(by rw[f]at d;cases d),fun j e=>by
  rw[f]at e;obtain rfl:j=i:=by simpa using e
  exact wpOp_step l (fun K' g=>m K' (fun a w h k=>g a w ⟨h,k⟩))⟩
theorem BY{b a w}(d:Region.ready md ops b=[])(e:Q .normal a w):∀c,el P md ops Q S r c b a w
 |0=>⟨d,e⟩
 |_+1=>⟨fun _=>e,by rw[d];simp⟩
theorem l7(S r){id a w}(b:P.follows .mixedOrders=true)(c:el P .any ops Q S r ops.size (Array.replicate ops.size false) a w.drew):(Code.region id ops true).wp P Q a w:=
 wp_region_any b (uN _ _ _ _ c)
end
section
variable {P:Program} {ops:Array Oper} {Q:Exit->Act->World->Prop} {md:Region.Mode} {S:World->Prop} {D:Nat->Bool} {r:Nat}
theorem bJ(i:Nat){d:Nat}{oi:Oper}{v:Value}{e:Nat}{b:Array Bool}{a g:Act}{w:World}
 (h:bh P md ops Q S D e (b.setIfInBounds i true) g w)(k:S w:=by rfl)(p:ops[i]?=some oi:=by rfl)(m:oi.dst=some d:=by rfl)(o:Region.wanted oi (yielded ops a.tmps)=true:=by rfl)
 (r:Region.noSelect ops=true:=by kernel_rfl)(n:Region.free md ops b i=true:=by kernel_rfl)(q:(Region.ready md ops b).contains i=true:=by kernel_rfl)(s:ie md ops D b i=true:=by kernel_rfl)
 (t:∀w,S w->(execOp a.eval oi).run P w= .ok (.value v) w:=by(intro w f;(try dsimp only at f);rw[f];go_simp;try with_reducible rfl))
 (l:a.put (some d) v=g:=by(simp only[Act.put,fx,List.set];first|done|exact rfl))
 (j:∀c a w,Q (.panic c) (a.put oi.dst v) w->Q (.panic c) a w:=by exact fun _ _ _ h=>h):bh P md ops Q S D (e+1) b a w:=
 iu i d p m r n q s j (u5 ⟨o,t⟩) k (by rw[l];exact h)
theorem gO(i:Nat){d:Nat}{oi:Oper}{v:Value}{e:Nat}{b:Array Bool}{a f:Act}{w:World}(k:S w)
 (h:bh P md ops Q S D e (b.setIfInBounds i true) f w)(p:ops[i]?=some oi:=by rfl)(m:oi.dst=some d:=by rfl)(o:Region.wanted oi (yielded ops a.tmps)=true:=by rfl)
 (r:Region.noSelect ops=true:=by kernel_rfl)(n:Region.free md ops b i=true:=by kernel_rfl)(q:(Region.ready md ops b).contains i=true:=by kernel_rfl)(s:ie md ops D b i=true:=by kernel_rfl)
 (t:∀w,S w->(execOp a.eval oi).run P w= .ok (.value v) w:=by(intro w g;obtain⟨u,x,y,z⟩:=g;go_simp;try with_reducible rfl))
 (l:a.put (some d) v=f:=by(simp only[Act.put,fx,List.set];first|done|exact rfl))
 (j:∀c a w,Q (.panic c) (a.put oi.dst v) w->Q (.panic c) a w:=by exact fun _ _ _ h=>h):bh P md ops Q S D (e+1) b a w:=
 iu i d p m r n q s j (u5 ⟨o,t⟩) k (by rw[l];exact h)
theorem l8(i:Nat){d:Nat}{oi:Oper}(v:Value){e:Nat}{b:Array Bool}{a f:Act}{w:World}(k:S w)(x:∀w,S w->(execOp a.eval oi).run P w= .ok (.value v) w)
 (h:el P md ops Q S r e (b.setIfInBounds i true) f w)(p:ops[i]?=some oi:=by rfl)(m:oi.dst=some d:=by rfl)(o:Region.wanted oi (yielded ops a.tmps)=true:=by rfl)(g:(i !=r)=true:=by decide)(q:b.getD r true=false:=by kernel_rfl)
 (t:Region.noSelect ops=true:=by kernel_rfl)(n:Region.free md ops b i=true:=by kernel_rfl)(s:(Region.ready md ops b).contains i=true:=by kernel_rfl)(u:nI md ops r i=true:=by kernel_rfl)
 (l:a.put (some d) v=f:=by(simp only[Act.put,fx,List.set];first|done|exact rfl))
 (j:∀c a w,Q (.panic c) (a.put oi.dst v) w->Q (.panic c) a w:=by exact fun _ _ _ h=>h):el P md ops Q S r (e+1) b a w:=
 BT i d p m g q t n s u j (u5 ⟨o,x⟩) k (by rw[l];exact h)
theorem cK(i:Nat){d:Nat}{oi:Oper}{v:Value}{e:Nat}{b:Array Bool}{a f:Act}{w:World}
 (g:el P md ops Q S r e (b.setIfInBounds i true) f w)(k:b.getD r true=false->S w:=by first|(intro _;assumption)|(intro g;exact absurd (show true=false from g) uv))(p:ops[i]?=some oi:=by rfl)(m:oi.dst=some d:=by rfl)(o:Region.wanted oi (yielded ops a.tmps)=true:=by rfl)(h:(i !=r)=true:=by decide)
 (s:Region.noSelect ops=true:=by kernel_rfl)(n:Region.free md ops b i=true:=by kernel_rfl)(q:(Region.ready md ops b).contains i=true:=by kernel_rfl)
 (t:∀w,True->(execOp a.eval oi).run P w= .ok (.value v) w:=by(intro w u;go_simp;try with_reducible rfl))
 (l:a.put (some d) v=f:=by(simp only[Act.put,fx,List.set];first|done|exact rfl))
 (j:∀c a w,Q (.panic c) (a.put oi.dst v) w->Q (.panic c) a w:=by exact fun _ _ _ g=>g):el P md ops Q S r (e+1) b a w:=
 BU i d p m h s n q j (u5 ⟨o,t⟩) k (by rw[l];exact g)
theorem eO(i:Nat){o:Oper}{c:Nat}{b:Array Bool}{a:Act}{w:World}
 (h:∀K':Act->World->Prop,Shut (∀a w,((b.setIfInBounds i true).getD r true=false->S w)->el P md ops Q S r c (b.setIfInBounds i true) a w->K' a w)->Oper.wp P o a w K' Q)(g:Region.ready md ops b=[i]:=by kernel_rfl)(f:ops[i]?=some o:=by rfl)(e:Region.wanted o (yielded ops a.tmps)=true:=by rfl):el P md ops Q S r (c+1) b a w:=
 BW i g f fun K' d=>by rw[BC e];exact h K' d
theorem goR{c:Prop}{s:World->Prop}{R K':Act->World->Prop}{a:Act}{w:World}(d:Shut (∀a w,(c->s w)->R a w->K' a w))(b:R a w)(e:c->s w:=by(intro b;exact absurd (show true=false from b) uv)):K' a w:=d.out a w e b
theorem l9{c:Nat}{b:Array Bool}{a:Act}{w:World}(e:Q .normal a w)(d:Region.ready md ops b=[]:=by kernel_rfl):el P md ops Q S r c b a w:=BY d e c
end
theorem BZ{l}(c:IsB l){x}(a:0<=x)(b:x<256):IsB (l++[x]):=fun i=>by
 rw[x3,List.getElem?_append];split
 ·have:=c i;rwa [x3]at this
 ·rcases w9 (i-l.length) 1 with hi|hi
  ·rw[show i-l.length=0 by omega];exact⟨a,b⟩
  ·rw[xN (by simp;omega)];exact⟨uB,uB⟩
theorem qC{l m}(b:IsB l)(a:IsB m):IsB (l++m):=fun i=>by
 rw[x3,List.getElem?_append];split
 ·have:=b i;rwa [x3]at this
 ·have:=a (i-l.length);rwa [x3]at this
theorem B6(a:Int):((a.tdiv 256<=a\/a.tdiv 256<=0)/\(a<=a.tdiv 256\/0<=a.tdiv 256))/\ -256<a.tmod 256/\a.tmod 256<256:=by
 rcases Int.le_total 0 a with h|h
 ·rw[y6 h,z6 h];omega
 ·obtain⟨y,rfl⟩:∃y,a= -y:=⟨-a,t7⟩;rw[Int.neg_tdiv,Int.neg_tmod,y6 t7,z6 t7];omega
def nmT:Int->Nat->List Int
 |_,0=>[]
 |z,j+1=>(z.tmod 256%256)::nmT (z.tdiv 256) j
theorem nJ(v)(k:Nat)(w)(G: -1000000000000000<=v)(H:v<=1000000000000000)(R:k<=8)(I:0<k):
 Calls prog 128 #[.int .i64 v,.int .i64 k] w fun e w'=> ∃g c,e= .returned (.slice (some ⟨g,0,none⟩) k c)/\Below w.1.size w w'/\Own w.1.size w' (some ⟨g,0,none⟩) k c (nmT v k)/\IsB (nmT v k):=by
 go_enter func128,ntmps128;go_wp2;go_loopw [0,5,6] (fun x o i wr=> ∃j a c l h,j<=k/\i= .int .i64 (j:Nat)/\o= .slice a j c/\x= .int .i64 h/\(-1000000000000000<=h/\h<=1000000000000000)/\Below w.1.size w wr/\Own w.1.size wr a j c l/\IsB l/\l++nmT h (k-j)=nmT v k) (fun _ _ i _=>k-(intOf i).toNat)
 case atStart=>
  refine⟨0,_,0,[],v,u6 _,rfl,rfl,rfl,⟨G,H⟩,bAl _ _,?_,eX,rfl⟩;exact eI w [] 0 rfl t7 _ t1
 case round=>
  obtain⟨j,a,c,l,h,Q,rfl,rfl,rfl,⟨J,K⟩,b,d,t,u⟩:=hrel;have n:Hid _:=u;clear u;by_cases L:j<k
  ·obtain⟨r,D⟩:=cO (h.tmod 256);obtain⟨q,A⟩:=cO (h.tdiv 256);have p:Hid ((l++[r%256])++nmT q (k-(j+1))=nmT v k):=by
    show _= _;rw[<-n.out,show k-j=(k-(j+1))+1 by omega,nmT,D,A];simp
   have m:=B6 h;rw[D,A]at m;have C: -1000000000000000<=q/\q<=1000000000000000:=t7;have M:=m.2;clear m;have O:IntKind.i64.wrap r=r:=by simp[IntKind.wrap,IntKind.bits,IntKind.signed];omega
   have N:IntKind.i64.wrap q=q:=by simp[IntKind.wrap,IntKind.bits,IntKind.signed];omega
   have P:IntKind.u8.wrap r=r%256:=by simp[IntKind.wrap,IntKind.bits,IntKind.signed]
   have u0:0<=r%256:=t7;have u1:r%256<256:=t7;clear J K;go_wp2_with (at_builtin;refine eu rfl _ _ rfl w.1.size a j c l rfl ?own _ 1 1 [r%256] rfl ?bs ?len ?B ?_)
   case own=>exact B4 d _
   case bs=>exact fL wr (r%256) u0 u1
   case len=>omega
   case B=>have:=b.size;simp;omega
   intro E F w' z f _;have y:=(b.alloc b.size _).trans f;clear d b f;go_wp2;go_roundw
   case rel=>exact⟨j+1,E,F,_,q,t7,by go_num,rfl,rfl,C,y,z,BZ t u0 u1,p.out⟩
   case measure=>simp[intOf];omega
  ·have e:j=k:=t7;subst e;go_wp2;go_ret;obtain⟨g,rfl,_⟩:=mM d I;have s:=n.out;rw[Nat.sub_self,nmT,wi]at s;rw[<-s];exact⟨g,c,rfl,b,d,t⟩
def sbT(gen root used free:Int):List Int:=nmT gen 8++nmT root 4++nmT used 4++nmT free 4
theorem B7(f b d g w)(a3: -1000<=f)(af:f<=1000000000001)(a4: -1000<=b)(a5:b<=10240)(u0: -1000<=d)(u1:d<=10240)(a2: -1000<=g)(f1:g<=10240):
 Calls prog 94 #[.agg #[.int .i64 f,.int .i64 b,.int .i64 d,.int .i64 g]] w fun e w'=> ∃a c,e= .returned (.slice a 20 c)/\Below w.1.size w w'/\Own w.1.size w' a 20 c (sbT f b d g)/\IsB (sbT f b d g):=by
 unfold sbT;go_enter func94,ntmps94;go_wp2_with fail;go_cut [3] (fun aB i=> ∃j k,aB= .slice j 12 k/\Below w.1.size w i/\w.1.size+1<=i.1.size/\Own (w.1.size+1) i j 12 k (nmT f 8++nmT b 4)/\IsB (nmT f 8++nmT b 4)/\i.cell? ⟨w.1.size,0,none⟩=some (.int .i64 f)/\i.cell? ⟨w.1.size,1,none⟩=some (.int .i64 b)/\i.cell? ⟨w.1.size,2,none⟩=some (.int .i64 d)/\i.cell? ⟨w.1.size,3,none⟩=some (.int .i64 g))
 case first=>
  go_region_law (first
   |(refine jY rfl _ _ rfl (w.1.size+1) _ 8 ab (nmT f 8) rfl (z.below m) ag 4 ac (nmT b 4) rfl (K.bs G) t7 t7 ?_;intro j k T v s)
   |(rw[BC (show Region.wanted _ _=true from rfl)];go_wp2_with (first
    |(go_at_call_of 128 f;refine(nJ f 8 _ t7 t7 t7 t7).mono ?_;rintro e w1 ⟨af,ab,rfl,l,z,an⟩;simp only[DR,World.size_alloc]at l z;obtain⟨k0,o,p,q⟩:=pR (w:=w) (v0:= .int .i64 f) (v1:= .int .i64 b) (v2:= .int .i64 d) (v3:= .int .i64 g) (t:=36) l (xc _) rfl;have V:=l.size;simp only[DR,World.size_alloc]at V)
    |(go_at_call_of 128 b;refine(nJ b 4 _ t7 t7 t7 t7).mono ?_;rintro e a6 ⟨ag,ac,rfl,m,K,G⟩;have a1:=m.size))))
  all_goals
   have J:=ge (w:=w) (ge (w:=w) ⟨k0,o,p,q⟩ m t7) s t7;have x:Below w.1.size w T:=((bAl _ _).drew.trans (l.mono (xa _))).trans ((m.mono t7).trans (s.mono (xa _)));have W:w.1.size+1<=T.1.size:=by have:=s.size;omega
   have X:Hid _:=J;clear l m s z K V a1 k0 o p q J;go_wp2_with fail
   go_meet
   exact⟨j,k,rfl,x,W,v,qC an G,X.out⟩
 case rest=>
 obtain⟨j,k,rfl,x,W,v,ap,k0,o,p,q⟩:=hcut;have r:True:=trivial;go_wp2_with fail
 go_region_law (first
  |(have Y:=r;refine jY rfl _ _ rfl (w.1.size+1) j 12 k (nmT f 8++nmT b 4) rfl ?_ ak 4 ad (nmT d 4) rfl ?_ ?_ ?_ ?_;exact v.below h;exact A.bs H;omega;omega;intro B E a0 L u;have ba:=u.size;have y:Own (w.1.size+1) a0 B 16 E ((nmT f 8++nmT b 4)++(nmT d 4)):=(by simpa using L);obtain⟨t0,aS,aT,aX⟩:=ge (w:=w) ⟨P,Q,R,S⟩ u t7;clear r Y)
  |(have Z:=n;refine jY rfl _ _ rfl (w.1.size+1) B 16 E ((nmT f 8++nmT b 4)++(nmT d 4)) rfl ?_ am 4 ae (nmT g 4) rfl ?_ ?_ ?_ ?_;exact y.below n;exact M.bs I;omega;omega;intro C F U N D;clear Z)
  |(rw[BC (show Region.wanted _ _=true from rfl)];go_wp2_with (first
   |(go_at_call_of 128 d;refine(nJ d 4 _ t7 t7 t7 t7).mono ?_;rintro e a7 ⟨ak,ad,rfl,h,A,H⟩;simp only[DR]at h A;replace h:=pQ h;have a9:=h.size;obtain⟨P,Q,R,S⟩:=ge (w:=w) ⟨k0,o,p,q⟩ h t7)
   |(go_at_call_of 128 g;refine(nJ g 4 _ t7 t7 t7 t7).mono ?_;rintro e a8 ⟨am,ae,rfl,n,M,I⟩;have bb:=n.size))))
 all_goals
  have aA:Below w.1.size w U:=x.trans (((h.mono t7).trans (u.mono (xa _))).trans ((n.mono t7).trans (D.mono (xa _))));have O:Own w.1.size U C 20 F ((nmT f 8++nmT b 4)++(nmT d 4)++(nmT g 4)):=by
   have:=N.mono (xa _);simpa using this
  clear h u n D N M L y A v k0 o p q P Q R S t0 aS aT aX x;go_wp2;go_ret;exact⟨C,F,rfl,aA,O,qC (qC ap H) I⟩
def kq(l:List Int)(p:Nat):Nat:=(l.getD p 0%9).toNat
def iz(l:List Int)(n p:Nat):List Int:=if 240<=l.getD p 0 then List.replicate (239+(l.getD p 0%3).toNat) 0 else rdL l n (rdP n p) (kq l p)
def uP(l:List Int)(n p:Nat):Nat:=rdN n (rdP n p) (kq l p)
theorem B9{l}(a:IsB l)(n p):IsB (iz l n p)/\(iz l n p).length<=241:=by
 unfold iz;split
 ·exact⟨lH _,by simp;omega⟩
 ·exact⟨qz a _ _ _,by rw[qx];unfold kq;omega⟩
theorem Ca(g a n c l p w)(U:IsRd w g a n c l p)(b z)(D:b=iz l n p)(E:z=uP l n p):
 Calls prog 95 #[.pointer (some ⟨g,0,none⟩)] w fun e w'=> ∃d f,e= .returned (.slice d b.length f)/\OnlyB g w w'/\IsRd w' g a n c l z/\Own w.1.size w' d b.length f b:=by
 have aA:=U.bs.byte p;have aB:=U.lt;go_enter func95,ntmps95;go_wp2_with fail;refine(cZ g a n c l p w U).mono ?_;rintro e w1 ⟨rfl,A,ac⟩;obtain⟨m,W⟩:∃m:Nat,l.getD p 0%9=(m:Int):=⟨(l.getD p 0%9).toNat,t7⟩;have Q:Hid (kq l p=m):=by show kq l p=m;unfold kq;rw[W];rfl
 have P:Hid (b=if 240<=l.getD p 0 then List.replicate (239+(l.getD p 0%3).toNat) 0 else rdL l n (rdP n p) m):=by show b= _;rw[D,<-Q.out];rfl
 have R:Hid (z=rdN n (rdP n p) m):=by show z= _;rw[E,<-Q.out];rfl
 clear D E;generalize l.getD p 0=k at*;obtain⟨k0,a6⟩:=aA;have Y:k.tmod 9=k%9:=z6 k0;have X:k.tmod 3=k%3:=z6 k0;have a2:m<=8:=t7;have M:=(Bn w1.1.size w1).alloc t1 (.cells #[] 5);have r:=A.thenB M A.size;have y:=ac.below M;have ae:=eI w1 [] 0 rfl t7 w.1.size A.size;rw[W]at Y;have H:Hid (IsRd w g a n c l p):=U;clear M A ac U;go_wp2_with fail;go_loopw [4,5] (fun o i wr=> ∃(j:Nat)(d:Option Addr)(f:Nat),j<=m/\i= .int .i64 (j:Nat)/\o= .slice d j f/\OnlyB g w wr/\IsRd wr g a n c l (rdN n (rdP n p) j)/\Own w.1.size wr d j f (rdL l n (rdP n p) j)) (fun _ i _=>m-(intOf i).toNat)
 case atStart=>exact⟨0,_,0,u6 _,rfl,rfl,r,y,ae⟩
 case round=>
  obtain⟨j,d,f,a5,rfl,rfl,t,u,x⟩:=hrel;clear r y ae;by_cases a1:j<m
  ·have K:(j:Int)< (m:Int):=t7;have aT:=u.bs.byte (rdN n (rdP n p) j);go_wp2_with fail;refine(cZ g a n c l _ wr u).mono ?_;rintro e N ⟨rfl,r,y⟩;have Z:(Value.slice d j f).ownBlock≠some g:=fun e=>by have:=(BS x g e).1;omega
   have F:=r.own x Z;have aX:=u9 t.size r.size;have S:Hid _:=t.trans r;have I:Hid _:=y;have C:Hid _:=F;have af:Hid (rdL l n (rdP n p) (j+1)=rdL l n (rdP n p) j++[l.getD (rdN n (rdP n p) j) 0]):=rfl;generalize l.getD (rdN n (rdP n p) j) 0=v at*;obtain⟨a3,a4⟩:=aT;clear x u t r y F;go_wp2_with (at_builtin;refine eu rfl _ _ rfl w.1.size d j f (rdL l n (rdP n p) j) rfl ?own _ 1 1 [v] rfl ?bs ?len ?B ?_)
   case own=>exact B4 C.out _
   case bs=>exact fL N v t7 t7
   case len=>omega
   case B=>simp;omega
   intro an ap a8 ab T _;have q:=(Bn N.1.size N).alloc t1 (.cells #[.int .u8 v] 5);have J:=(q.mono aX).trans T;have L:=S.out.thenB J t1;have ad:=H.out.only L (by rw[J.block g aB];exact I.out.box) I.out.at_;have ak:Hid _:=L;have am:Hid _:=ad;have ag:Hid _:=ab;clear ab T q J L ad S I C;go_wp2;go_roundw
   case rel=>exact⟨j+1,an,ap,t7,by go_num,rfl,ak.out,am.out,by rw[af.out];exact ag.out⟩
   case measure=>simp[intOf];omega
  ·have e:j=m:=t7;subst e;have O:=t6 t (u2 u x);have K:¬(j:Int)< (j:Int):=t7;clear t u x;by_cases V:240<=k
   ·obtain⟨h,G⟩:∃h:Nat,k%3=(h:Int):=⟨(k%3).toNat,t7⟩;have aS:h<=2:=t7;have s:Hid (b=List.replicate (239+h) 0):=by show b= _;rw[P.out,BC V,G];rfl
    rw[G]at X;have a7:=fun(w:World)=>qA (239+h) (239+(h:Int)) t7 t7 w;go_wp2;go_ret;have q:=(Bn wr.1.size wr).alloc t1 (.cells (madeCells #[.int .u8 0] (239+h)) 5);rw[s.out,R.out,List.length_replicate];refine⟨_,_,rfl,O.out.1.thenB q O.out.1.size,O.out.2.1.below q,?_⟩;have e:madeCells #[Value.int .u8 0] (239+h)=(ob (List.replicate (239+h) 0)).toArray:=by
     apply Array.toList_inj.1;rw[toList_madeCells_one];simp[ob]
    rw[e];exact eI wr _ _ uB t7 _ O.out.1.size
   ·have a0:k<240:=t7;have s:Hid (b=rdL l n (rdP n p) j):=by show b= _;rw[P.out,BX V]
    go_wp2;go_ret;rw[s.out,R.out,qx];exact⟨d,f,rfl,O.out⟩
theorem Cb:(prog.info? 3).map (fun i=>(i.zero,i.size,i.bytes))=some (some (.int .i64 0),1,8):=uA
def oi(l:List Int):List Value:=l.map (Value.int .i64)
theorem Cc?(l:List Int)(j:Nat)(a:j<l.length):(oi l)[j]?=some (.int .i64 (l.getD j 0)):=by simp[oi,List.getD,a]
theorem Cd(l i x):(oi l).set i (.int .i64 x)=oi (l.set i x):=by simp[oi,List.map_set]
def OwnI(B:Nat)(w:World)(a:Option Addr)(n c:Nat)(l:List Int):Prop:=w.ownsRow B 3 1 (.slice a n c) n (oi l)
theorem OwnI.len{B w a n c l}(b:OwnI B w a n c l):l.length=n:=by
 have:=b.1;simpa [oi]using this
theorem OwnI.below{B w w' a n c l}(d:OwnI B w a n c l)(b:Below w.1.size w w'):OwnI B w' a n c l:=bQ d b
theorem OwnI.mono{B B' w a n c l}(d:OwnI B w a n c l)(b:B'<=B):OwnI B' w a n c l:=World.ownsRow.mono d b
theorem OwnI.cell{B g w n c l}(a:OwnI B w (some ⟨g,0,none⟩) n c l)(i)(b:i<n):w.cell? ⟨g,i,none⟩=some (.int .i64 (l.getD i 0)):=by
 rw[C1 a i t7];exact Cc? l i (by have:=a.len;omega)
theorem Ce(w:World)(cs l n)(a:cs.toList=oi l)(c:l.length=n)(d:n<=1048576)(B)(b:B<=w.1.size):OwnI B (w.alloc (.cells cs 3)) (some ⟨w.1.size,0,none⟩) n n l:=by
 have:=World.ownsRow_lit (base:=B) (e:=3) (size:=1) w cs n b (by unfold maxLen;omega) (by rw[<-Array.length_toList,a];simp[oi];omega);unfold OwnI;rw[<-a];exact this
theorem Cf{l m:List Int}(c:l.length=m.length)(d:∀i,i<l.length->l.getD i 0=m.getD i 0):l=m:=by
 apply List.ext_getElem c;intro i a b;have:=d i a;simpa [List.getD_eq_getElem?_getD,a,b]using this
theorem uQ(a b n m G H l k w)(u:Bs w a n G l)(d:Bs w b m H k):
 Calls prog 105 #[.slice a n G,.slice b m H] w fun e w'=>e= .returned (.bool (decide (l=k)))/\Below w.1.size w w':=by
 have I:n<=maxLen:=u9 u.le u.le';have J:m<=maxLen:=u9 d.le d.le';unfold maxLen at I J;by_cases t:n=m
 case neg=>
  have K:((n:Int) !=(m:Int))=true:=by simp;omega
  rw[show decide (l=k)=false from B1 (fun e=>t (by rw[<-u.len_eq,<-d.len_eq,e]))];go_enter func105,ntmps105;go_wp2;go_ret;exact⟨rfl,t2⟩
 subst t;have K:((n:Int) !=(n:Int))=false:=by simp
 have O:Hid ((∀i,i<n->l.getD i 0=k.getD i 0)->decide (l=k)=true):=fun Q=>B2 (Cf (by rw[u.len_eq,d.len_eq]) (fun i c=>Q i (by rw[u.len_eq]at c;exact c)));have N:Hid (∀i,l.getD i 0≠k.getD i 0->decide (l=k)=false):=fun i c=>B1 (fun e=>c (by rw[e]));go_enter func105,ntmps105;go_wp2;go_loopw [5] (fun i wr=> ∃j:Nat,j<=n/\i= .int .i64 j/\Below w.1.size w wr/\∀i,i<j->l.getD i 0=k.getD i 0) (fun i _=>n-(intOf i).toNat)
 case atStart=>exact⟨0,u6 _,rfl,t2,fun i c=>absurd c t7⟩
 case round=>
  obtain⟨j,V,rfl,g,f⟩:=hrel;have A:Hid _:=f;clear f;by_cases s:j<n
  ·obtain⟨E,h,rfl,v,q⟩:=u.at_ t7;obtain⟨F,o,rfl,z,r⟩:=d.at_ t7;have W:wr.cell? ⟨E,h+j,none⟩=some (.int .u8 (l.getD j 0)):=by rw[g.cell (p:=⟨E,h+j,none⟩) v];exact q j s
   have X:wr.cell? ⟨F,o+j,none⟩=some (.int .u8 (k.getD j 0)):=by rw[g.cell (p:=⟨F,o+j,none⟩) z];exact r j s
   have R:(0:Int)<=(j:Int):=t7;have S:(j:Int)< (n:Int):=t7;have B:Hid _:=g;clear q r u d g;generalize hx:l.getD j 0=x at*;generalize L:k.getD j 0=y at*;have C:Hid _:=hx;have D:Hid _:=L;clear hx L;by_cases e:x=y
   ·subst e;have T:(x !=x)=false:=by simp
    go_wp2_with fail;go_region
    all_goals
     go_wp2;go_roundw
     case rel=>
      refine⟨j+1,t7,by go_num,B.out.drew,fun i c=> ?_⟩;by_cases e:i=j
      ·subst e;rw[C.out,D.out]
      ·exact A.out i t7
     case measure=>simp[intOf];omega
   ·have U:(x !=y)=true:=by simp[e]
    have M:Hid (decide (l=k)=false):=N.out j (by rw[C.out,D.out];exact e);clear e;go_wp2_with fail;go_region
    all_goals
     go_wp2;go_ret;exact⟨by rw[M.out];rfl,B.out.drew⟩
  ·have e:j=n:=t7;subst e;have P:Hid (decide (l=k)=true):=O.out A.out;go_wp2;go_ret;exact⟨by rw[P.out];rfl,g⟩
theorem Cg(d a K w)(D:RDisk w d K)(W:RDisk w a K)(ab:Small d K):
 Calls prog 61 #[av d K,av a K] w fun e w'=>e= .returned (.bool true)/\Below w.1.size w w':=by
 have aT:=ab.n;have aS:=ab.m;have O:=fK w (.cells #[.slice d.sa K.n d.sc,.slice d.pa K.m d.pc] 35) (.cells #[.slice a.sa K.n a.sc,.slice a.pa K.m a.pc] 35);have P:((w.alloc (.cells #[.slice d.sa K.n d.sc,.slice d.pa K.m d.pc] 35)).alloc (.cells #[.slice a.sa K.n a.sc,.slice a.pa K.m a.pc] 35)).heap[w.1.size]?=some (.cells #[.slice d.sa K.n d.sc,.slice d.pa K.m d.pc] 35 (0,0)):=by
  rw[Below.heap_alloc _ _ _ uB];exact DI w _
 have Q:((w.alloc (.cells #[.slice d.sa K.n d.sc,.slice d.pa K.m d.pc] 35)).alloc (.cells #[.slice a.sa K.n a.sc,.slice a.pa K.m a.pc] 35)).heap[w.1.size+1]?=some (.cells #[.slice a.sa K.n a.sc,.slice a.pa K.m a.pc] 35 (0,0)):=by
  have:=DI (w.alloc (.cells #[.slice d.sa K.n d.sc,.slice d.pa K.m d.pc] 35)) (.cells #[.slice a.sa K.n a.sc,.slice a.pa K.m a.pc] 35);rw[World.size_alloc]at this;exact this
 have a0:((w.alloc (.cells #[.slice d.sa K.n d.sc,.slice d.pa K.m d.pc] 35)).alloc (.cells #[.slice a.sa K.n a.sc,.slice a.pa K.m a.pc] 35)).1.size=w.1.size+1+1:=by simp
 have ac:=D.below O;have ad:=W.below O;have u:=CV _ _ 0 _ _ _ P;have x:=CV _ _ 1 _ _ _ P;have e0:=CV _ _ 0 _ _ _ Q;have y:=CV _ _ 1 _ _ _ Q;have ae:Hid _:=O;clear O D W;unfold av;go_enter func61,ntmps61;go_wp2;generalize ag:(w.alloc (.cells #[.slice d.sa K.n d.sc,.slice d.pa K.m d.pc] 35)).alloc (.cells #[.slice a.sa K.n a.sc,.slice a.pa K.m a.pc] 35)=T at*;clear ag;have z:Hid (∀v:World,Below T.1.size T v->v.cell? ⟨w.1.size,0,none⟩=some (.slice d.sa K.n d.sc)/\v.cell? ⟨w.1.size,1,none⟩=some (.slice d.pa K.m d.pc)/\v.cell? ⟨w.1.size+1,0,none⟩=some (.slice a.sa K.n a.sc)/\v.cell? ⟨w.1.size+1,1,none⟩=some (.slice a.pa K.m a.pc)/\RDisk v d K/\RDisk v a K):=fun v N=>by
  have u0:=(N.block w.1.size t7).trans P;have u1:=(N.block (w.1.size+1) t7).trans Q;exact⟨CV _ _ 0 _ _ _ u0,CV _ _ 1 _ _ _ u0,CV _ _ 0 _ _ _ u1,CV _ _ 1 _ _ _ u1,ac.below N,ad.below N⟩
 clear P Q ac ad u x e0 y;go_loopw [5] (fun i wr=> ∃j:Nat,j<=K.n/\i= .int .i64 j/\Below T.1.size T wr) (fun i _=>K.n-(intOf i).toNat)
 case atStart=>exact⟨0,u6 _,rfl,t2⟩
 case round=>
  obtain⟨j,aB,rfl,g⟩:=hrel;obtain⟨u,x,e0,y,L,r⟩:=z.out wr g;by_cases A:j<K.n
  ·have G:=bDr wr;have l:=g.trans (G.mono g.size);obtain⟨I,_,J,_,m,c⟩:=z.out wr.drew l;obtain⟨b,B,H,_,C⟩:=m.safe.at_ t7;obtain⟨M,p,q,_,n⟩:=c.safe.at_ t7;have k0:wr.drew.cell? ⟨b,B+j,none⟩=some (.slice (d.sA j) (d.sN j) (d.sC j)):=by have:=(C j A).2;simpa using this
   have S:wr.drew.cell? ⟨M,p+j,none⟩=some (.slice (a.sA j) (a.sN j) (a.sC j)):=by have:=(n j A).2;simpa using this
   have s:=uQ _ _ _ _ _ _ _ _ wr.drew (m.safe.data j A) (c.safe.data j A);rw[B2 rfl]at s;rw[H]at I u;rw[q]at J e0;have Y:(0:Int)<=(j:Int):=t7;have Z:(j:Int)< (K.n:Int):=t7;have E:Hid _:=l;clear C n L r m c g l G H q;go_wp2_with fail;refine az (fun v=>v=wr.drew) (fun k=>decide (10<=k)) uA ?_;generalize wr.drew=af at*;refine bJ 0 ?_;refine bJ 1 ?_;refine bJ 2 ?_;refine bJ 3 ?_;refine bJ 4 ?_;refine bJ 5 ?_;refine bJ 6 ?_;refine bJ 7 ?_;refine bJ 8 ?_;refine bJ 9 ?_;refine ah 10 fun o f=> ?_;go_wp2_with fail;refine s.mono ?_;rintro e an ⟨rfl,F⟩;go_wp2_with fail;refine f.out _ _ (fun D=>absurd D uv) ?_;clear f o;refine ah 11 fun o f=> ?_;go_wp2_with fail;refine f.out _ _ (fun D=>absurd D uv) ?_;clear f o;refine bi ?_;have R:Hid _:=E.out.trans (F.mono E.out.size);clear F s k0 S I J u x e0 y;go_wp2;go_roundw
   case rel=>exact⟨j+1,t7,by go_num,R.out⟩
   case measure=>simp[intOf];omega
  ·have V:Hid _:=g;obtain⟨aA,X⟩:=aa wr;subst X;clear L r g;go_wp2;clear u x e0 y;go_loopw [6] (fun i wr=> ∃j:Nat,j<=K.m/\i= .int .i64 j/\Below T.1.size T wr) (fun i _=>K.m-(intOf i).toNat)
   case atStart=>exact⟨0,u6 _,rfl,V.out⟩
   case round=>
    obtain⟨t,aX,rfl,g⟩:=hrel;obtain⟨u,x,e0,y,L,r⟩:=z.out wr g;by_cases h:t<K.m
    ·have G:=bDr wr;have l:=g.trans (G.mono g.size);obtain⟨_,I,_,J,m,c⟩:=z.out wr.drew l;obtain⟨b,B,H,_,C⟩:=m.pend.at_ t7;obtain⟨M,p,q,_,n⟩:=c.pend.at_ t7;have k0:wr.drew.cell? ⟨b,B+t*2,none⟩=some (.int .i64 (K.At t)):=by have:=(C t h).1 0 t7;exact this
     have S:wr.drew.cell? ⟨M,p+t*2,none⟩=some (.int .i64 (K.At t)):=by have:=(n t h).1 0 t7;exact this
     have ak:wr.drew.cell? ⟨b,B+t*2+1,none⟩=some (.slice (d.pA t) (d.pN t) (d.pC t)):=(C t h).2;have am:wr.drew.cell? ⟨M,p+t*2+1,none⟩=some (.slice (a.pA t) (a.pN t) (a.pC t)):=(n t h).2;have s:=uQ _ _ _ _ _ _ _ _ wr.drew (m.pend.data t h) (c.pend.data t h);rw[B2 rfl]at s;rw[H]at I x;rw[q]at J y;have Y:(0:Int)<=(t:Int):=t7;have Z:(t:Int)< (K.m:Int):=t7;have E:Hid _:=l;clear C n L r m c g l G H q;generalize K.At t=ap at*;go_wp2_with fail;refine az (fun v=>v=wr.drew) (fun k=>decide (26<=k)) uA ?_;generalize wr.drew=af at*;refine bJ 0 ?_;refine bJ 1 ?_;refine bJ 2 ?_;refine bJ 3 ?_;refine bJ 4 ?_;refine bJ 5 ?_;refine bJ 6 ?_;refine bJ 7 ?_;refine bJ 8 ?_;refine bJ 9 ?_;refine bJ 10 ?_;refine bJ 11 ?_;refine bJ 12 ?_;refine bJ 13 ?_;refine bJ 14 ?_;refine bJ 15 ?_;refine bJ 16 ?_;refine bJ 17 ?_;refine bJ 18 ?_;refine bJ 19 ?_;refine bJ 20 ?_;refine bJ 21 ?_;refine bJ 22 ?_;refine bJ 23 ?_;refine bJ 24 ?_;refine bJ 25 ?_;refine ah 26 fun o f=> ?_;go_wp2_with fail;refine s.mono ?_;rintro e an ⟨rfl,F⟩;go_wp2_with fail;refine f.out _ _ (fun D=>absurd D uv) ?_;clear f o;refine ah 27 fun o f=> ?_;go_wp2_with fail;refine f.out _ _ (fun D=>absurd D uv) ?_;clear f o;refine ah 28 fun o f=> ?_;go_wp2_with fail;refine f.out _ _ (fun D=>absurd D uv) ?_;clear f o;refine bi ?_;have R:Hid _:=E.out.trans (F.mono E.out.size);clear F s k0 S ak am I J u x e0 y;go_wp2;go_roundw
     case rel=>exact⟨t+1,t7,by go_num,R.out⟩
     case measure=>simp[intOf];omega
    ·have U:Hid (Below w.1.size w wr):=ae.out.trans (g.mono t7);clear g L r;go_wp2;go_ret;exact⟨rfl,U.out⟩
def stV(d:DV)(K:DK)(g r u f:Int):List Value:=[.slice d.sa K.n d.sc,.slice d.pa K.m d.pc,.int .i64 g,.int .i64 r,.int .i64 u,.int .i64 f]
def stZ:List Value:=[.slice none 0 0,.slice none 0 0,.int .i64 0,.int .i64 0,.int .i64 0,.int .i64 0]
theorem ku:∀u∈stZ,u.oneCell'=true:=by intro u a;simp[stZ]at a;rcases a with rfl|rfl<;>rfl
theorem nK(d K g r u f):∀x∈stV d K g r u f,x.oneCell'=true:=by intro x hx;simp[stV]at hx;rcases hx with rfl|rfl|rfl|rfl|rfl|rfl<;>rfl
theorem dY:(prog.info? 38).map (·.size)=some 6:=uA
theorem IX:prog.built 38 []=some stZ.toArray:=uA
theorem uR(d K g r u f):prog.built 38 [(0,.agg #[.slice d.sa K.n d.sc,.slice d.pa K.m d.pc]),(1,.agg #[.int .i64 g,.int .i64 r,.int .i64 u,.int .i64 f])]=some (stV d K g r u f).toArray:=uA
theorem uS{B e s:Nat}{w w':World}{v n xs}(b:w.ownsRow B e s v n xs)(a:∀k,B<=k->k<w.1.size->w'.heap[k]?=w.heap[k]?):w'.ownsRow B e s v n xs:=by
 refine⟨b.1,?_⟩;rcases b.2 with h2|⟨g,cap,cur,e1,hB,hh,r⟩
 ·exact u5 h2
 ·exact u4 ⟨g,cap,cur,e1,hB,(a g hB (vR.1 hh).1).trans hh,r⟩
theorem ORecs.low{p e B w w' a n c j g N h L}(d:ORecs p e B w a n c j g N h L)(b:∀k,B<=k->k<w.1.size->w'.heap[k]?=w.heap[k]?):ORecs p e B w' a n c j g N h L:=
 ⟨uS d.row b,fun i f=>uS (d.data i f) b,d.byte,d.sep1⟩
theorem IZ{B B0 g w w' d K}(c:ODisk B w d K)(o:OnlyB g w w')(a:B0<=B)(h:g<B):ODisk B0 w' d K:=by
 have b:∀k,B<=k->k<w.1.size->w'.heap[k]?=w.heap[k]?:=fun k f e=>o.block k e t7;exact⟨(c.safe.low b).mono a,(c.pend.low b).mono a,c.sepX⟩
theorem uT{B B0 g w d K a}(e:ODisk B w d K)(b:B0<=B)(i:g<B):ODisk B0 (w.setRow g a) d K:=by
 have o:=du w g a;have c:∀k,B<=k->k<w.1.size->(w.setRow g a).heap[k]?=w.heap[k]?:=fun k h f=>o.block k f t7;exact⟨(e.safe.low c).mono b,(e.pend.low c).mono b,e.sepX⟩
theorem Ci(d a K g r u f w)(G:RDisk w d K)(z:RDisk w a K)(F:Small d K):
 Calls prog 26 #[.agg (stV d K g r u f).toArray,.agg (stV a K g r u f).toArray] w fun e w'=>e= .returned (.bool true)/\Below w.1.size w w':=by
 obtain⟨j,b⟩:=aa (w.alloc (.cells (stV d K g r u f).toArray 38));obtain⟨k,l⟩:=aa (j.alloc (.cells (stV a K g r u f).toArray 38));have t:Below w.1.size w j:=by rw[b];exact bAl _ _
 have v:Below j.1.size j k:=by rw[l];exact bAl _ _
 have A:j.1.size=w.1.size+1:=by rw[b];simp
 have p:=(by rw[b];exact aq w _ _:Blk j 38 w.1.size (stV d K g r u f)).below v;have q:Blk k 38 (w.1.size+1) (stV a K g r u f):=by rw[l,<-A];exact aq j _ _
 have m:=t.trans (v.mono t.size);have s:=Cg d a K k (G.below m) (z.below m) F;have o:=t6 p (u2 q m);have B:k.cell? ⟨w.1.size,0,none⟩=some (.slice d.sa K.n d.sc):=p.cell 0;have C:k.cell? ⟨w.1.size,1,none⟩=some (.slice d.pa K.m d.pc):=p.cell 1;have D:k.cell? ⟨w.1.size+1,0,none⟩=some (.slice a.sa K.n a.sc):=q.cell 0;have E:k.cell? ⟨w.1.size+1,1,none⟩=some (.slice a.pa K.m a.pc):=q.cell 1;unfold av at s;clear t v A m p q G z;go_enter func26,ntmps26;go_upto_region 1 with fail
 change Code.wp _ _ _ _ ((w.alloc (.cells (stV d K g r u f).toArray 38)).alloc (.cells (stV a K g r u f).toArray 38));rw[<-b,<-l];clear b l;go_wp2_with fail;refine s.mono ?_;rintro e i ⟨rfl,n⟩;have c:=o.out.1.below n;have h:=o.out.2.1.below n;have y:=o.out.2.2.trans (n.mono o.out.2.2.size);clear B C D E s n;have H:i.cell? ⟨w.1.size,2,none⟩=some (.int .i64 g):=c.cell 2;have I:i.cell? ⟨w.1.size,3,none⟩=some (.int .i64 r):=c.cell 3;have J:i.cell? ⟨w.1.size,4,none⟩=some (.int .i64 u):=c.cell 4;have L:i.cell? ⟨w.1.size,5,none⟩=some (.int .i64 f):=c.cell 5;have M:i.cell? ⟨w.1.size+1,2,none⟩=some (.int .i64 g):=h.cell 2;have n:i.cell? ⟨w.1.size+1,3,none⟩=some (.int .i64 r):=h.cell 3;have N:i.cell? ⟨w.1.size+1,4,none⟩=some (.int .i64 u):=h.cell 4;have O:i.cell? ⟨w.1.size+1,5,none⟩=some (.int .i64 f):=h.cell 5;have x:Hid _:=y;clear c h y;go_wp2_with fail;go_ret;exact⟨rfl,x.out⟩
section
variable {H:Type} {enc:TypeId×Value->H} {W:World}
theorem Cj{e v x}(g:DataW.trod enc prog W 0 (fun _=>true) true e 56 [v]=some x):∃y:Option Addr×Nat×Nat×List Int,v= .slice y.1 y.2.1 y.2.2.1/\Bs W y.1 y.2.1 y.2.2.1 y.2.2.2:=by
 rcases open_ints underlying56 C4 y5 g with⟨b,_⟩|⟨a,l,c,k,b,_,h,i,j,_,d,f⟩
 ·simp at b;subst b;exact⟨(none,0,0,[]),rfl,⟨rfl,t1,u6 _,fun _=>rfl,fun g=>absurd g (Nat.lt_irrefl 0),eX⟩⟩
 ·simp at b;subst b;exact⟨(some a,l,c,k.take l),rfl,y9 (u4 ⟨a,rfl,h,i,by simpa using j,d,f⟩)⟩
end
