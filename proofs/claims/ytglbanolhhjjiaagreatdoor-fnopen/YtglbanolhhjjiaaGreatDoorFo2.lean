import Derived.Test.YtglbanolhhjjiaaGreatDoorFo1
import Derived.Deep.RegionLaw
import Derived.Deep.DeepCutAuto
import Derived.Deep.AppendLies
namespace Go.Proofs.YtglbanolhhjjiaaGreatDoor
open Go.Proofs.Tryz
open Go.RowKit
set_option linter.unusedVariables false
set_option maxRecDepth 100000
set_option maxHeartbeats 32000000
def jX(gen root used free:Int):List Int:=num gen 8++num root 4++(num used 4++num free 4)
theorem Af(d b c a):IsB (jX d b c a):=dC (dC (ec _ _) (ec _ _)) (dC (ec _ _) (ec _ _))
theorem jY{w t o b K U T}(A:o.guard=none)(s x)(M:o.op= .call {callee:= .builtin .append,args:=#[s,x],argTypes:=#[56,56]})(B a n c xs)(N:b.eval s= .slice a n c)(q:Own B w a n c xs)(g m d l)(hx:b.eval x= .slice (some ⟨g,0,none⟩) m d)(r:Bs w (some ⟨g,0,none⟩) m d l)(L:n+m<=140737488355328)(y:B<=w.1.size)(W:∀f h w',Own B w' f (n+m) h (xs++l)->Below B w w'->K (b.put o.dst (.slice f (n+m) h)) w'):
 if Region.wanted o (yielded t b.tmps)=true then Oper.wp prog o b w K U else T:=by
 have P:Region.wanted o (yielded t b.tmps)=true:=by simp[Region.wanted,A]
 rw[BC P];obtain⟨i,I,D,E,F⟩:=CT jM;refine wp_append_own w s x _ M B 5 i _ 1 1 underlying56 I D E F rfl t7 _ n (ob xs) N q ⟨g,0,none⟩ m d (ob l) hx (by simp[ob,r.len_eq]) ?_ (pB l) (by unfold maxLen;omega) t7 y ?_
 ·intro j u v;have C:j<l.length:=by have:=(wb.1 v).1;simpa [ob]using this
  obtain⟨V,S,e,_,H⟩:=r.at_ (by have:=r.len_eq;omega);cases e;rw[jN? l j C]at v;rw[CR,H j (by have:=r.len_eq;omega)];exact v
 ·intro v' w' p z _;have e:ob xs++ob l=ob (xs++l):=by simp[ob]
  rw[e]at p;have O:∃f h,v'= .slice f (n+m) h:=by
   rcases p.2 with⟨rfl,G⟩|⟨g,Q,R,rfl,_⟩
   ·exact⟨none,0,by rw[G]⟩
   ·exact⟨_,_,rfl⟩
  obtain⟨f,h,rfl⟩:=O;exact W f h w' p (t2.grown z y (fun k J=>(q.lt k J).1))
theorem mV(v)(k:Nat)(w)(d:0<=v)(f:v<=9223372036854775807)(i:k<=8)(m:0<k):
 Calls prog 128 #[.int .i64 v,.int .i64 k] w fun e w'=> ∃g c,e= .returned (.slice (some ⟨g,0,none⟩) k c)/\Below w.1.size w w'/\Own w.1.size w' (some ⟨g,0,none⟩) k c (num v k):=by
 refine(i9 v k w d f i).mono ?_;rintro e w' ⟨a,c,rfl,b,o⟩;obtain⟨g,rfl,_⟩:=(show∃g,a=some ⟨g,0,none⟩/\w.1.size<=g by
  rcases o.2 with⟨e,d⟩|⟨g,j,l,e,h,_⟩
  ·omega
  ·cases e;exact⟨g,rfl,h⟩)
 exact⟨g,c,rfl,b,o⟩
theorem pQ{B w w'}(a:Below B w.drew w'):Below B w w':=⟨a.os,a.tape,a.output,a.size,a.block⟩
theorem pR{B}{w c w1:World}{v0 v1 v2 v3 t}(b:Below B c w1)(e:w.1.size<B)(d:c.heap=(w.alloc (.cells #[v0,v1,v2,v3] t)).heap):
 w1.cell? ⟨w.1.size,0,none⟩=some v0/\w1.cell? ⟨w.1.size,1,none⟩=some v1/\w1.cell? ⟨w.1.size,2,none⟩=some v2/\w1.cell? ⟨w.1.size,3,none⟩=some v3:=by
 have a:∀o,w1.cell? ⟨w.1.size,o,none⟩=(w.alloc (.cells #[v0,v1,v2,v3] t)).cell? ⟨w.1.size,o,none⟩:=fun o=>by
  rw[b.cell (p:=⟨w.1.size,o,none⟩) e];exact CP (by rw[d])
 refine⟨?_,?_,?_,?_⟩<;>rw[a] <;>simp
theorem ge{B}{w w1 a:World}{v0 v1 v2 v3}(k:w1.cell? ⟨w.1.size,0,none⟩=some v0/\w1.cell? ⟨w.1.size,1,none⟩=some v1/\w1.cell? ⟨w.1.size,2,none⟩=some v2/\w1.cell? ⟨w.1.size,3,none⟩=some v3)(b:Below B w1 a)(c:w.1.size<B):
 a.cell? ⟨w.1.size,0,none⟩=some v0/\a.cell? ⟨w.1.size,1,none⟩=some v1/\a.cell? ⟨w.1.size,2,none⟩=some v2/\a.cell? ⟨w.1.size,3,none⟩=some v3:=by
 refine⟨?_,?_,?_,?_⟩<;>rw[b.cell (p:=⟨w.1.size,_,none⟩) c]
 ·exact k.1
 ·exact k.2.1
 ·exact k.2.2.1
 ·exact k.2.2.2
theorem Ag(f b d g w)(ad:0<=f)(ae:f<=1000000000000)(an:0<=b)(a0:b<=1024)(u0:0<=d)(u1:d<=1024)(ac:0<=g)(f1:g<=1024):
 Calls prog 94 #[.agg #[.int .i64 f,.int .i64 b,.int .i64 d,.int .i64 g]] w fun e w'=> ∃a c,e= .returned (.slice a 20 c)/\Below w.1.size w w'/\Own w.1.size w' a 20 c (jX f b d g):=by
 go_enter func94,ntmps94;go_wp2_with fail;go_cut [3] (fun ap i=> ∃j k,ap= .slice j 12 k/\Below w.1.size w i/\w.1.size+1<=i.1.size/\Own (w.1.size+1) i j 12 k (num f 8++num b 4)/\i.cell? ⟨w.1.size,0,none⟩=some (.int .i64 f)/\i.cell? ⟨w.1.size,1,none⟩=some (.int .i64 b)/\i.cell? ⟨w.1.size,2,none⟩=some (.int .i64 d)/\i.cell? ⟨w.1.size,3,none⟩=some (.int .i64 g))
 case first=>
  go_region_law (first
   |(refine jY rfl _ _ rfl (w.1.size+1) _ 8 X (num f 8) rfl (z.below m) af 4 Y (num b 4) rfl (H.bs (ec _ _)) t7 t7 ?_;intro j k Q v s)
   |(rw[BC (show Region.wanted _ _=true from rfl)];go_wp2_with (first
    |(go_at_call_of 128 f;refine(mV f 8 _ ad t7 t7 t7).mono ?_;rintro e w1 ⟨ae,X,rfl,l,z⟩;simp only[DR,World.size_alloc]at l z;obtain⟨k0,o,p,q⟩:=pR (w:=w) (v0:= .int .i64 f) (v1:= .int .i64 b) (v2:= .int .i64 d) (v3:= .int .i64 g) (t:=36) l (xc _) rfl;have S:=l.size;simp only[DR,World.size_alloc]at S)
    |(go_at_call_of 128 b;refine(mV b 4 _ an t7 t7 t7).mono ?_;rintro e a1 ⟨af,Y,rfl,m,H⟩;have aX:=m.size))))
  all_goals
   have G:=ge (w:=w) (ge (w:=w) ⟨k0,o,p,q⟩ m t7) s t7;have x:Below w.1.size w Q:=((bAl _ _).drew.trans (l.mono (xa _))).trans ((m.mono t7).trans (s.mono (xa _)));have T:w.1.size+1<=Q.1.size:=by have:=s.size;omega
   have U:Hid _:=G;clear l m s z H S aX k0 o p q G;go_wp2_with fail
   go_meet
   exact⟨j,k,rfl,x,T,v,U.out⟩
 case rest=>
 obtain⟨j,k,rfl,x,T,v,k0,o,p,q⟩:=hcut;have r:True:=trivial;go_wp2_with fail
 go_region_law (first
  |(have V:=r;refine jY rfl _ _ rfl (w.1.size+1) j 12 k (num f 8++num b 4) rfl ?_ ag 4 Z (num d 4) rfl ?_ ?_ ?_ ?_;exact v.below h;exact A.bs (ec _ _);omega;omega;intro B E aT I u;have a5:=u.size;have y:Own (w.1.size+1) aT B 16 E (num f 8++num b 4++num d 4):=(by simpa using I);obtain⟨t0,aA,aB,aS⟩:=ge (w:=w) ⟨M,N,O,P⟩ u t7;clear r V)
  |(have W:=n;refine jY rfl _ _ rfl (w.1.size+1) B 16 E (num f 8++num b 4++num d 4) rfl ?_ ak 4 ab (num g 4) rfl ?_ ?_ ?_ ?_;exact y.below n;exact J.bs (ec _ _);omega;omega;intro C F R K D;clear W)
  |(rw[BC (show Region.wanted _ _=true from rfl)];go_wp2_with (first
   |(go_at_call_of 128 d;refine(mV d 4 _ u0 t7 t7 t7).mono ?_;rintro e a2 ⟨ag,Z,rfl,h,A⟩;simp only[DR]at h A;replace h:=pQ h;have a4:=h.size;obtain⟨M,N,O,P⟩:=ge (w:=w) ⟨k0,o,p,q⟩ h t7)
   |(go_at_call_of 128 g;refine(mV g 4 _ ac t7 t7 t7).mono ?_;rintro e a3 ⟨ak,ab,rfl,n,J⟩;have a6:=n.size))))
 all_goals
  have am:Below w.1.size w R:=x.trans (((h.mono t7).trans (u.mono (xa _))).trans ((n.mono t7).trans (D.mono (xa _))));have L:Own w.1.size R C 20 F (jX f b d g):=by
   have:=K.mono (xa _);simpa [jX]using this
  clear h u n D K J I y A v k0 o p q M N O P t0 aA aB aS x;go_wp2;go_ret;exact⟨C,F,rfl,am,L⟩
theorem mW{d b c a}(e:bG d b c a=true):(1<=d/\d<=1000000000000/\2<=c/\c<=1024)/\(0<=b/\b<=1024)/\0<=a/\a<=1024:=by
 unfold bG at e;simp only[wz]at e;have f:=CC e.1;have g:=CC e.2.1;have h:=CC e.2.2;omega
theorem Ah(a):bL (a%2) 1 20=true:=B2 t7
def ip(gen root used free:Int):List Int:=page (gen%2) 1 (jX gen root used free)
theorem Ai(a c d b w)(g:bG a c d b=true):
 Calls prog 92 #[.agg #[.int .i64 a,.int .i64 c,.int .i64 d,.int .i64 b]] w fun e w'=> ∃n p,e= .returned (.tuple #[.slice n 4 p,.bool true])/\Below w.1.size w w'/\POps w.1.size w' n 4 p (a%2) (ip a c d b):=by
 obtain⟨⟨S,A,u0,u1⟩,⟨I,J⟩,z,f1⟩:=mW g;have l:Hid (bG a c d b=true):=g;clear g;go_enter func92,ntmps92;go_wp2_with fail;refine(mU a c d b _).mono ?_;rw[l.out];rintro e w1 ⟨rfl,h⟩;obtain⟨k0,q,r,s⟩:=pR (w:=w) (v0:= .int .i64 a) (v1:= .int .i64 c) (v2:= .int .i64 d) (v3:= .int .i64 b) (t:=36) h uB rfl;have G:Below w.1.size w w1:=(bAl _ _).trans (h.mono uB);have i:w.1.size<w1.1.size:=by have:=h.size;simp at this;omega
 have j:a.tmod 2=a%2:=z6 t7;have m:Hid (a.tmod 2=a%2):=j;clear h j;go_wp2_with fail;go_region_with (first
  |(go_at_call 94;refine(Ag a c d b _ t7 A I J t7 u1 z f1).mono ?_;rintro e M ⟨u,x,rfl,f,k⟩;simp only[DR]at f k;replace f:=pQ f;obtain⟨C,D,E,F⟩:=ge (w:=w) ⟨k0,q,r,s⟩ f i)
  |(go_at_call 93;try rw[m.out];refine(pK (a%2) 1 u 20 x (jX a c d b) _ (k.bs (Af _ _ _ _)) (Ah a)).mono ?_;rintro e O ⟨v,y,rfl,o,K⟩))
 all_goals
  have H:Below w.1.size w O:=G.trans ((f.mono (z2 i)).trans (o.mono (u9 (z2 i) f.size)));have P:w.1.size<=M.1.size:=u9 (z2 i) f.size;clear f o k k0 q r s C D E F;go_wp2
  go_ret2
  obtain⟨Q,N,R,L,B⟩:=K;exact⟨v,y,rfl,H,Q,N,R,L.mono P,B⟩
theorem Aj(a c d b w)(f:bG a c d b=false)(P):
 Calls prog 92 #[.agg #[.int .i64 a,.int .i64 c,.int .i64 d,.int .i64 b]] w fun e w'=> ∃j l,e= .returned (.tuple #[.slice j 0 l,.bool false])/\Below w.1.size w w'/\POps w.1.size w' j 0 l (a%2) P:=by
 have h:Hid (bG a c d b=false):=f;clear f;go_enter func92,ntmps92;go_wp2_with fail;refine(mU a c d b _).mono ?_;rw[h.out];rintro e w1 ⟨rfl,k⟩;have g:=(bAl _ _).trans (k.mono uB);clear k;have m:=io 2 157 w.1.size w1 g.size (opI (a%2)) (fun _=>none) (fun _=>0) (fun _=>0) (opL P);have n:Hid _:=m;clear m;go_wp2
 go_ret2
 exact⟨_,_,rfl,g.alloc g.size _,_,_,_,n.out,fun i o=>absurd o t7⟩
def kOf(ok:Bool):Nat:=if ok=true then 4 else 0
theorem tK(a):kOf a<=4:=by unfold kOf;split<;>omega
theorem pS(d b c a w):
 Calls prog 92 #[.agg #[.int .i64 d,.int .i64 b,.int .i64 c,.int .i64 a]] w fun e w'=> ∃g h,e= .returned (.tuple #[.slice g (kOf (bG d b c a)) h,.bool (bG d b c a)])/\Below w.1.size w w'/\POps w.1.size w' g (kOf (bG d b c a)) h (d%2) (ip d b c a):=by
 cases f:bG d b c a with
 |true=>exact Ai d b c a w f
 |false=>exact Aj d b c a w f _
theorem tL(a):∀(xs:List Value)(k:Nat)(Z:Array Value),a+k+xs.length<=Z.size->(xs.zipIdx k).foldl (fun cs x=>cs.setIfInBounds (a+x.2) x.1) Z=(Z.toList.take (a+k)++xs++Z.toList.drop (a+k+xs.length)).toArray
 |[],k,Z,b=>by simp
 |x::xs,k,Z,b=>by
  have c:a+k<Z.toList.length:=by simp at b ⊢;omega
  rw[List.zipIdx_cons,List.foldl_cons,tL a xs (k+1) (Z.setIfInBounds (a+k) x) (by simp at b ⊢;omega)];rw[Array.toList_setIfInBounds,show a+(k+1)=a+k+1 by omega,xd (by simpa using c),List.getElem_set_self,List.take_set_of_le t1,List.drop_set_of_lt t7];rw[wQ,show a+k+1+xs.length=a+k+(xs.length+1)by omega];simp
theorem pT(b Z i a v x rest)(g:b i=some (a,x.length))(e:v.cells=x.toArray)(f:a+x.length<=Z.size):
 Instr.fill b Z ((i,v)::rest)=Instr.fill b (Z.toList.take a++x++Z.toList.drop (a+x.length)).toArray rest:=by
 have d:=tL a x 0 Z t7;rw[wR]at d;rw[Instr.fill];have c:(decide (v.cells.size≠x.length)||decide (a+v.cells.size>Z.size))=false:=by
  rw[e];simp;omega
 rw[g];simp only;rw[c,BX uv,e,<-d];simp
theorem fq{t e s bytes o}(T:ElT t e s o bytes)(n:s<=1048576)(v)(x:List Value)(k:v.cells=x.toArray)(hx:x.length=s)(w):
 (Instr.buildSlice t 1 #[(0,v)]).run prog w= .ok (.slice (some ⟨w.1.size,0,none⟩) 1 1) (w.alloc (.cells x.toArray e)):=by
 obtain⟨i,g,a,b,l⟩:=CT T.inf;have j:=T.pos;have m:=T.cells;have f:∀Z:Array Value,Z.size=s->Instr.fill (fun i=>some (i*s,s)) Z [(0,v)]=some x.toArray:=fun Z d=>by
  rw[pT _ Z 0 0 v x [] (by simp[hx]) k t7];simp only[Instr.fill,List.take_zero,w4,wg];rw[zW (by simp[d,hx]),wi]
 have h:¬(2^24<s):=t7;have c:¬(s=0):=t7;simp[Instr.buildSlice,Sem.run_bind,run_underlying T.und w,sizeOf,typeInfo,g,b,zeroValue,a,c];rw[BX t7];rw[f _ uB];simp[newRow,go_sem]
theorem jZ{P:Program}{o:Oper}{a:Act}{w:World}{K:Act->World->Prop}{e:Exit->Act->World->Prop}(t:TypeId)(b:Array (Nat×Operand))(d:o.op= .build t b){cs:Array Value}
 (c:P.built t (b.map fun(i,x)=>(i,a.eval x)).toList=some cs)(f:K (a.put o.dst (.agg cs)) w):o.wp P a w K e:=
 wp_build t b d (by rw[c];rfl) (by rw[c];exact f)
theorem Ak{P:Program}{c:Array Oper}{rest:List Oper}{o:Oper}{a:Act}{w:World}{h:Exit->Act->World->Prop}(d:o.guard=none)(t:TypeId)(b:Array (Nat×Operand))(g:o.op= .build t b){cs:Array Value}
 (f:P.built t (b.map fun(i,x)=>(i,a.eval x)).toList=some cs)(j:wpList P c h rest (a.put o.dst (.agg cs)) w):wpList P c h (o::rest) a w:=
 C2 d fun _ e=>jZ t b g f (e _ _ j)
theorem bU{P:Program}{o:Oper}{a:Act}{w w':World}{K:Act->World->Prop}{f:Exit->Act->World->Prop}(t:TypeId)(c:Nat)(b:Array (Nat×Operand))(e:o.op= .buildSlice t c b){v:Value}
 (g:(Instr.buildSlice t c (b.map fun(i,x)=>(i,a.eval x))).run P w= .ok v w')(d:K (a.put o.dst v) w'):o.wp P a w K f:=by
 unfold Oper.wp execOp;simp only[e,B3,g,C0,Ct];exact d
theorem cI{P:Program}{c:Func}{p q:Tmp}{b:TypeId}(n:c.results=#[.cell p b,.tmp q])(a:Array Value)(w:World)(g:Nat)(t:TypeId)(cs:Array Value)(d:TypeDesc){v:Value}
 (k:a.getD p undef= .pointer (some ⟨g,0,none⟩))(i:w.heap[g]?=some (.cells cs t (0,0)))
 (m:P.underlying b=some d)(h:(match d with| .struct _| .array _ _=>true|_=>false)=true)(j:(P.info? b).map (·.size)=some cs.size)(l:a.getD q undef=v):
 (results c a).run P w= .ok (.tuple #[.agg cs,v]) w:=by
 have e:a[p]?.getD undef= .pointer (some ⟨g,0,none⟩):=by simpa using k
 have f:a[q]?.getD undef=v:=by simpa using l
 simp[results,n,e,f,asAddr,run_loadVar_row w g t b cs (0,0) d i m h j]
def Own1(e B:Nat)(w:World)(a:Option Addr)(n c:Nat)(xs:List Value):Prop:=w.ownsRow B e 1 (.slice a n c) n xs
def f1(xs:List Value):Nat->List Value:=fun i=>[xs.getD i undef]
theorem Al(xs a):∀n,n<=xs.length->aK (f1 (xs++a)) n=aK (f1 xs) n
 |0,_=>rfl
 |n+1,b=>by
  rw[aK,aK,Al xs a n t7];simp[f1,List.getD,List.getElem?_append_left (show n<xs.length by omega)]
theorem tM:∀(xs:List Value),aK (f1 xs) xs.length=xs:=fun xs=>by
 have a:∀n,n<=xs.length->aK (f1 xs) n=xs.take n:=by
  intro n;induction n with
  |zero=>intro _;simp[aK]
  |succ n ih=>
   intro b;rw[aK,ih t7,AC];simp[f1,List.getD,List.getElem?_eq_getElem (show n<xs.length by omega)]
 rw[a _ t1,x0]
theorem Own1.len{e B w a n c xs}(b:Own1 e B w a n c xs):xs.length=n:=by have:=b.1;omega
theorem Own1.row{e B w a n c xs}(b:Own1 e B w a n c xs):ORow e 1 B w a n c (f1 xs):=by
 unfold ORow;have:=tM xs;rw[b.len]at this;rw[this];exact b
theorem Own1.below{e B w w' a n c xs}(d:Own1 e B w a n c xs)(b:Below w.1.size w w'):Own1 e B w' a n c xs:=bQ d b
theorem Own1.mono{e B B' w a n c xs}(d:Own1 e B w a n c xs)(b:B'<=B):Own1 e B' w a n c xs:=World.ownsRow.mono d b
theorem Own1.keep{e B w w' a n c xs}(d:Own1 e B w a n c xs)(b:KeepT e w w'):Own1 e B w' a n c xs:=cw d b
theorem cQ(e B w):Own1 e B w none 0 0 []:=World.ownsRow_nil w B _ _
theorem Own1.le{e B w a n c xs}(i:Own1 e B w a n c xs):n<=c/\c<=maxLen:=by
 rcases i.2 with⟨e,_⟩|⟨g,f,h,e,_,_,b,d,_⟩
 ·cases e;exact⟨t1,u6 _⟩
 ·cases e;exact⟨b,d⟩
theorem Own1.at_{e B w a n c xs}(m:Own1 e B w a n c xs)(t:0<n):∃g,a=some ⟨g,0,none⟩/\B<=g/\g<w.1.size/\(∃b,w.heap[g]?=some (.cells b e (0,0)))/\∀i,i<n->w.cell? ⟨g,i,none⟩=some (xs.getD i undef):=by
 rcases m.2 with⟨_,o⟩|⟨g,l,b,f,j,d,p,q,r,h⟩
 ·omega
 ·cases f;refine⟨g,rfl,j,(vR.1 d).1,⟨b,d⟩,fun i k=> ?_⟩;rw[CV w g i b e (0,0) d];have s:=m.len;rw[<-h];simp only[x3,Nat.mul_one];rw[List.getElem?_take_of_lt k];have:i<b.size:=t7;simp[this]
theorem Own1.set{e B g w n c xs}(a:Own1 e B w (some ⟨g,0,none⟩) n c xs)(i u):Own1 e B (w.setCell ⟨g,i,none⟩ u) (some ⟨g,0,none⟩) n c (xs.set i u):=(World.ownsRow.stored a i u).1
theorem Own1.free{e B g w n c xs}(j:Own1 e B w (some ⟨g,0,none⟩) n c xs)(i):w.frozen? ⟨g,i,none⟩=false:=by
 rcases j.2 with⟨a,_⟩|⟨h,f,b,a,k,d,_⟩
 ·cases a
 ·cases a;exact frozen_of_row w g i b e d
theorem tN{w1}{o:Oper}{b i y}(so xo){t e bytes z}(T:ElT t e 1 z bytes)(v:o.op= .call {callee:= .builtin .append,args:=#[so,xo],argTypes:=#[t,t]})(B a n c xs)(w:b.eval so= .slice a n c)(d:Own1 e B w1 a n c xs)(x)(l:x.oneCell'=true)(hx:b.eval xo= .slice (some ⟨w1.1.size,0,none⟩) 1 1)(s:n<=1048576)(j:bytes<=1048576)(q:B<=w1.1.size)(r:∀f g w',Own1 e B w' f (n+1) g (xs++[x])->Below B w1 w'->(w1.alloc (.cells #[x] e)).grownBy w' (Value.slice a n c).ownBlock->i (b.put o.dst (.slice f (n+1) g)) w'):
 o.wp prog b (w1.alloc (.cells #[x] e)) i y:=by
 refine te so xo T v B a n c (f1 xs) w d.row [x] rfl (by intro u k;simp at k;subst k;exact l) hx s j q (fun f g w' h m p=>r f g w' ?_ m p);unfold ORow at h;rw[lK]at h;have:=tM xs;rw[d.len]at this;rw[this]at h;exact h
theorem lN{w1 g rest o b y}(j:o.guard=none)(so xo){t e bytes z}(T:ElT t e 1 z bytes)(v:o.op= .call {callee:= .builtin .append,args:=#[so,xo],argTypes:=#[t,t]})(B a n c xs)(w:b.eval so= .slice a n c)(h:Own1 e B w1 a n c xs)(x)(k:x.oneCell'=true)(hx:b.eval xo= .slice (some ⟨w1.1.size,0,none⟩) 1 1)(u:n<=1048576)(i:bytes<=1048576)(q:B<=w1.1.size)(s:∀d f w',Own1 e B w' d (n+1) f (xs++[x])->Below B w1 w'->(w1.alloc (.cells #[x] e)).grownBy w' (Value.slice a n c).ownBlock->wpList prog g y rest (b.put o.dst (.slice d (n+1) f)) w'):
 wpList prog g y (o::rest) b (w1.alloc (.cells #[x] e)):=
 C2 j fun _ r=>tN so xo T v B a n c xs w h x k hx u i q fun d f w' l m p=>r _ _ (s d f w' l m p)
theorem je{w1}{o:Oper}{f p N}(so xo){t e bytes M}(T:ElT t e 1 M bytes)(J:o.op= .call {callee:= .builtin .append,args:=#[so,xo],argTypes:=#[t,t]})(B a n c xs)(K:f.eval so= .slice a n c)(d:Own1 e B w1 a n c xs)(x)(y:x.oneCell'=true)(hx:f.eval xo= .slice (some ⟨w1.1.size,0,none⟩) 1 1)(P:n<=1048576)(s:bytes<=1048576)(E:B<=w1.1.size)(F:∀g q w',Own1 e B w' (some ⟨g,0,none⟩) (n+1) q (xs++[x])->Below B w1 w'->(w1.alloc (.cells #[x] e)).grownBy w' (Value.slice a n c).ownBlock->(a=some ⟨g,0,none⟩\/w1.1.size<g)->p (f.put o.dst (.slice (some ⟨g,0,none⟩) (n+1) q)) w'):
 o.wp prog f (w1.alloc (.cells #[x] e)) p N:=by
 obtain⟨i,G,z,A,C⟩:=CT T.inf;have m:=bAl w1 (.cells #[x] e);refine wp_append_lies _ so xo t J B e i M 1 bytes T.und G z A C T.cells T.pos _ n xs K (bQ d m) ⟨w1.1.size,0,none⟩ 1 1 [x] hx rfl ?_ (by intro u w;simp at w;subst w;exact y) t7 (by unfold maxLen;omega) ?_ (by simp;omega) (w1.1.size+1) uB ?_
 ·intro j u H;rw[CR,wg];have:(w1.alloc (.cells #[x] e)).cell? ⟨w1.1.size,j,none⟩=#[x][j]?:=CV _ w1.1.size j _ e (0,0) (DI w1 _);rw[this,<-H];simp
 ·have:(n+1)*bytes<=(n+1)*1048576:=z1 _ s;omega
 ·intro g r w' v l b _;refine F g r w' v ((m.mono E).trans (t2.grown l (by simp;omega) (fun k I=>(BS (bQ d m) k I).1))) l ?_;rcases b with b|b
  ·left;rcases d.2 with⟨h,_⟩|⟨O,D,L,h,_⟩
   ·rw[h]at b;simp[Value.ownBlock]at b
   ·rw[h]at b;simp[Value.ownBlock]at b;cases h;rw[b]
  ·right;omega
theorem gW{w1}{o:Oper}{h r P}(so xo){t e s bytes O}(T:ElT t e s O bytes)(L:o.op= .call {callee:= .builtin .append,args:=#[so,xo],argTypes:=#[t,t]})(B a n c f)(M:h.eval so= .slice a n c)(d:ORow e s B w1 a n c f)(x)(A:x.length=s)(z:∀u∈x,u.oneCell'=true)(hx:h.eval xo= .slice (some ⟨w1.1.size,0,none⟩) 1 1)(R:n<=1048576)(y:bytes<=1048576)(G:B<=w1.1.size)(H:∀g v w',ORow e s B w' (some ⟨g,0,none⟩) (n+1) v (cH f n x)->Below B w1 w'->(w1.alloc (.cells x.toArray e)).grownBy w' (Value.slice a n c).ownBlock->(a=some ⟨g,0,none⟩\/w1.1.size<g)->r (h.put o.dst (.slice (some ⟨g,0,none⟩) (n+1) v)) w'):
 o.wp prog h (w1.alloc (.cells x.toArray e)) r P:=by
 obtain⟨i,I,C,D,E⟩:=CT T.inf;have q:=bAl w1 (.cells x.toArray e);refine wp_append_lies _ so xo t L B e i O s bytes T.und I C D E T.cells T.pos _ n (aK f n) M (bQ d q) ⟨w1.1.size,0,none⟩ 1 1 x hx (by rw[A,xA]) ?_ z t7 (by unfold maxLen;omega) ?_ (by simp;omega) (w1.1.size+1) uB ?_
 ·intro j u J;rw[CR,wg];have:(w1.alloc (.cells x.toArray e)).cell? ⟨w1.1.size,j,none⟩=x.toArray[j]?:=CV _ w1.1.size j _ e (0,0) (DI w1 _);rw[this,<-J];simp
 ·have:(n+1)*bytes<=(n+1)*1048576:=z1 _ y;omega
 ·intro g w w' p m b _;rw[<-lK]at p;refine H g w w' p ((q.mono G).trans (t2.grown m (by simp;omega) (fun k K=>(BS (bQ d q) k K).1))) m ?_;rcases b with b|b
  ·left;rcases d.2 with⟨l,_⟩|⟨Q,F,N,l,_⟩
   ·rw[l]at b;simp[Value.ownBlock]at b
   ·rw[l]at b;simp[Value.ownBlock]at b;cases l;rw[b]
  ·right;omega
theorem Own1.grown{e B m q w w' a b n c j i xs l}(v:Own1 e B w a n c xs)(r:Own1 q m w b j i l)(s:w.grownBy w' (Value.slice b j i).ownBlock)(k:∀g,b=some ⟨g,0,none⟩->a≠some ⟨g,0,none⟩):Own1 e B w' a n c xs:=by
 refine World.ownsRow.kept v s ?_;rcases v.2 with⟨d,_⟩|⟨g,t,u,d,_⟩
 ·left;rw[d];rfl
 ·right;intro h;cases d;rcases r.2 with⟨f,_⟩|⟨x,o,p,f,_⟩
  ·cases f;simp[Value.ownBlock]at h
  ·cases f;simp[Value.ownBlock]at h;subst h;exact k _ rfl rfl
theorem Own1.lt{e B w a n c xs}(k:Own1 e B w a n c xs){g}(d:a=some ⟨g,0,none⟩):g<w.1.size:=by
 rcases k.2 with⟨b,_⟩|⟨j,h,i,b,_,f,_⟩
 ·cases b;cases d
 ·cases b;cases d;exact(vR.1 f).1
theorem ey{t e bytes a}(T:ElT t e 1 a bytes)(x)(hx:x.cells=#[x])(w):
 (Instr.buildSlice t 1 #[(0,x)]).run prog w= .ok (.slice (some ⟨w.1.size,0,none⟩) 1 1) (w.alloc (.cells #[x] e)):=fq T t7 x [x] (by rw[hx]) rfl w
def low:List Int->Int
 |[]=>0
 |x::t=>x+256*low t
theorem mX{x t}(a:IsB (x::t)):IsB t:=fun i=>by have:=a (i+1);simpa using this
theorem mY{x t}(a:IsB (x::t)):0<=x/\x<256:=by have:=a 0;simpa using this
theorem gX:∀{l:List Int},IsB l->0<=low l/\low l<256^l.length
 |[],_=>by simp[low]
 |x::t,a=>by
  have b:=gX (mX a);have c:=mY a;have e:(256:Int)^(x::t).length=256*256^t.length:=by rw[wQ,Int.pow_succ];omega
  rw[e];simp only[low];omega
theorem pU(v):∀k,num v (k+1)=v%256::num (v/256) k
 |0=>by simp[num]
 |k+1=>by
  have e:v/256^(k+1)=v/256/256^k:=by rw[Int.pow_succ,Int.mul_comm,<-Int.ediv_ediv_of_nonneg t7]
  rw[mO,pU v k,mO (v/256) k,y4,e]
theorem tO:∀{l:List Int},IsB l->num (low l) l.length=l
 |[],_=>rfl
 |x::t,a=>by
  have b:=mY a;rw[wQ,pU];simp only[low];rw[show(x+256*low t)%256=x by omega,show(x+256*low t)/256=low t by omega,tO (mX a)]
theorem pV:∀(k:Nat)(v:Int),0<=v->v<256^k->low (num v k)=v
 |0,v,b,a=>by simp[num,low];simp at a;omega
 |k+1,v,b,a=>by
  rw[pU];simp only[low];have e:(256:Int)^(k+1)=256*256^k:=by rw[Int.pow_succ];omega
  rw[pV k (v/256) t7 t7];omega
theorem mZ(l:List Int)(i)(a:i<l.length):low (l.drop i)=l.getD i 0+256*low (l.drop (i+1)):=by
 rw[x4 a];simp[low,List.getD_eq_getElem?_getD,a]
theorem j0{l}(a:IsB l)(k):IsB (l.drop k):=fun i=>by
 have:=a (k+i);simpa [List.getD_eq_getElem?_getD,List.getElem?_drop]using this
def sl(a b:ByteArray):Bool:=Op.bytesLess a.toList b.toList
theorem pW:∀x:List UInt8,Op.bytesLess x x=false
 |[]=>rfl
 |a::x=>by simp[Op.bytesLess,pW x]
theorem tP:∀{x y f:List UInt8},Op.bytesLess x y=true->Op.bytesLess y f=true->Op.bytesLess x f=true
 |x,[],f,g,_=>by cases x<;>simp[Op.bytesLess]at g
 |x,b::y,[],_,g=>by simp[Op.bytesLess]at g
 |[],b::y,c::f,_,_=>by simp[Op.bytesLess]
 |a::x,b::y,c::f,e,d=>by
  simp only[Op.bytesLess,Bool.or_eq_true,DB,wz,beq_iff_eq]at e d ⊢;rcases e with e|⟨rfl,e⟩
  ·rcases d with d|⟨rfl,d⟩
   ·exact u5 (UInt8.lt_trans e d)
   ·exact u5 e
  ·rcases d with d|⟨rfl,d⟩
   ·exact u5 d
   ·exact u4 ⟨rfl,tP e d⟩
theorem pX:∀{x y:List UInt8},Op.bytesLess x y=false->Op.bytesLess y x=false->x=y
 |[],[],_,_=>rfl
 |[],b::y,c,_=>by simp[Op.bytesLess]at c
 |a::x,[],_,c=>by simp[Op.bytesLess]at c
 |a::x,b::y,d,f=>by
  simp only[Op.bytesLess,Bool.or_eq_false_iff,decide_eq_false_iff_not,Bool.and_eq_false_iff,C8]at d f;have e:a=b:=by
   have g:=UInt8.not_lt.1 d.1;have h:=UInt8.not_lt.1 f.1;exact UInt8.le_antisymm h g
  subst e;rw[pX (x:=x) (y:=y) (by rcases d.2 with c|c;exact absurd rfl c;exact c) (by rcases f.2 with c|c;exact absurd rfl c;exact c)]
theorem pY{a b:ByteArray}(c:a.toList=b.toList):a=b:=by
 rw[ByteArray.toList_eq,ByteArray.toList_eq]at c;obtain⟨⟨x⟩⟩:=a;obtain⟨⟨y⟩⟩:=b;have:x=y:=c;rw[this]
theorem lO(a):sl a a=false:=pW _
theorem iq{a b c}(d:sl a b=true)(e:sl b c=true):sl a c=true:=tP d e
theorem tQ{a b}(c:sl a b=false)(d:sl b a=false):a=b:=pY (pX c d)
def sle(a b:ByteArray):Bool:= !sl b a
theorem jf{a b c}(d:sle a b=true)(f:sle b c=true):sle a c=true:=by
 unfold sle at*;simp only[Bool.not_eq_true']at*;cases g:sl c a with
 |false=>rfl
 |true=>
  cases e:sl b c with
  |true=>exact absurd (iq e g) (by rw[d];decide)
  |false=>
   obtain rfl:=tQ e f;exact absurd g (by rw[d];decide)
theorem m6{a b}(d:sl a b=true):sle a b=true:=by
 unfold sle;cases c:sl b a with
 |false=>rfl
 |true=>exact absurd (iq d c) (by rw[lO];decide)
theorem tR{a b c}(d:sl a b=true)(e:sle b c=true):sl a c=true:=by
 cases f:sl a c with
 |true=>rfl
 |false=>
  have g:sle c a=true:=by unfold sle;rw[f];rfl
  have:=jf e g;unfold sle at this;rw[d]at this;exact absurd this uv
theorem Am{a b c}(d:sle a b=true)(e:sl b c=true):sl a c=true:=by
 cases f:sl a c with
 |true=>rfl
 |false=>
  have g:sle c a=true:=by unfold sle;rw[f];rfl
  have:=jf g d;unfold sle at this;rw[e]at this;exact absurd this uv
def lfK(l:List Int):Nat:=(l.getD 0 0).toNat
def lfV(l:List Int):Nat:=(l.getD (1+lfK l) 0).toNat
def ee(l:List Int):Bool:=decide (1<=lfK l/\lfK l<=40/\1+lfK l<l.length/\lfV l<=70/\2+lfK l+lfV l<=l.length)
theorem gI{l}:ee l=true↔1<=lfK l/\lfK l<=40/\1+lfK l<l.length/\lfV l<=70/\2+lfK l+lfV l<=l.length:=by unfold ee;rw[decide_eq_true_iff]
def fu(l:List Int):Nat:=2+lfK l+lfV l
def cU(l:List Int):ByteArray:=strOfNums ((l.drop 1).take (lfK l))
def fh(l:List Int):ByteArray:=strOfNums ((l.drop (2+lfK l)).take (lfV l))
def lfP(l:List Int):Option (List (ByteArray×ByteArray)):=
 if h:l.length=0 then some []else if ee l=true then(lfP (l.drop (fu l))).map ((cU l,fh l):: ·)else none
 termination_by l.length
 decreasing_by simp[fu];omega
theorem jg{l}(a:l.length=0):lfP l=some []:=by rw[lfP];simp[a]
theorem iL{l}(b:l.length≠0)(a:ee l=false):lfP l=none:=by rw[lfP];simp[b,a]
theorem nf{l}(a:ee l=true):lfP l=(lfP (l.drop (fu l))).map ((cU l,fh l):: ·):=by
 rw[lfP,dif_neg (by have:=(gI.1 a).2.2.1;omega),BC a]
def eJ(l:List Int):Bool:=decide (1<=lfK l/\lfK l<=40/\5+lfK l<=l.length)
theorem gJ{l}:eJ l=true↔1<=lfK l/\lfK l<=40/\5+lfK l<=l.length:=by unfold eJ;rw[decide_eq_true_iff]
def eg(l:List Int):Int:=low (l.take 4)
def lnP(l:List Int):Option (List (ByteArray×Int)):=
 if h:l.length=0 then some []else if eJ l=true then(lnP (l.drop (5+lfK l))).map ((cU l,eg (l.drop (1+lfK l))):: ·)else none
 termination_by l.length
 decreasing_by simp;omega
theorem gZ{l}(a:l.length=0):lnP l=some []:=by rw[lnP];simp[a]
theorem ji{l}(b:l.length≠0)(a:eJ l=false):lnP l=none:=by rw[lnP];simp[b,a]
theorem j4{l}(a:eJ l=true):lnP l=(lnP (l.drop (5+lfK l))).map ((cU l,eg (l.drop (1+lfK l))):: ·):=by
 rw[lnP,dif_neg (by have:=(gJ.1 a).2.2;omega),BC a]
def inP(l:List Int):Option (List (ByteArray×Int)):=if 4<=l.length then(lnP (l.drop 4)).map ((strOfNums [],eg l):: ·)else none
inductive Tr where
 |leaf (id:Int) (es:List (ByteArray×ByteArray))
 |node (id:Int) (ks:Tr)
 |nil
 |cons (s:ByteArray) (t:Tr) (ks:Tr)
structure Pg where
 kd:Int->Int
 bd:Int->List Int
 ok:Int->Bool
structure St where
 seen:List Int
 tall:Int
def rdK(r:St->Int->Option (Tr×St)):List (ByteArray×Int)->St->Option (Tr×St)
 |[],st=>some (.nil,st)
 |(s,id)::ls,st=>(r st id).bind fun x=>(rdK r ls x.2).bind fun y=>some (.cons s x.1 y.1,y.2)
def dQ(P:Pg)(st:St)(id:Int):Bool:=P.ok id&&decide (2<=id)&& !st.seen.contains id&&(P.kd id==2||P.kd id==3)
theorem fO{P a id}:dQ P a id=true↔P.ok id=true/\2<=id/\id∉a.seen/\(P.kd id=2\/P.kd id=3):=by
 simp[dQ,and_assoc]
def rdT(P:Pg):Nat->Int->St->Int->Option (Tr×St)
 |0,_,_,_=>none
 |f+1,steps,st,id=>
  if dQ P st id=true then
   if P.kd id=2 then
    if st.tall<0\/st.tall=steps then(lfP (P.bd id)).bind fun es=>if es.isEmpty then none else some (.leaf id es,⟨id::st.seen,steps⟩)else none
   else(inP (P.bd id)).bind fun ls=>(rdK (rdT P f (steps+1)) ls ⟨id::st.seen,st.tall⟩).map fun y=>(.node id y.1,y.2)
  else none
theorem bM:ElT 174 9 1 (.string (strOfNums [])) 16:=⟨underlying174,uA,rfl,t7⟩
theorem co:ElT 100 3 1 (.int .i64 0) 8:=⟨underlying100,uA,rfl,t7⟩
def os(l:List ByteArray):List Value:=l.map Value.string
def on(l:List Int):List Value:=l.map (Value.int .i64)
theorem jm(l m):os l++os m=os (l++m):=by simp[os]
theorem fv(l m):on l++on m=on (l++m):=by simp[on]
theorem An(l):(os l).length=l.length:=by simp[os]
theorem lP(l):(on l).length=l.length:=by simp[on]
theorem eh(l i)(a:i<l.length):(os l).getD i undef= .string (l.getD i (strOfNums [])):=by simp[os,List.getD,a]
theorem cF(l i)(a:i<l.length):(on l).getD i undef= .int .i64 (l.getD i 0):=by simp[on,List.getD,a]
theorem tS(l i x):(on l).set i (.int .i64 x)=on (l.set i x):=by simp[on,List.map_set]
structure NdV where
 ka:Option Addr
 kc:Nat
 va:Option Addr
 vc:Nat
 da:Option Addr
 dc:Nat
 sa:Option Addr
 sc:Nat
structure NdK where
 page:Int
 leaf:Bool
 keys:List ByteArray
 vals:List ByteArray
 kids:List Int
 signs:List ByteArray
def ndc(v:NdV)(K:NdK):List Value:=[.int .i64 K.page,.bool K.leaf,.slice v.ka K.keys.length v.kc,.slice v.va K.vals.length v.vc,.slice v.da K.kids.length v.dc,.slice v.sa K.signs.length v.sc]
def aF:NdV:=⟨none,0,none,0,none,0,none,0⟩
structure ONd(B:Nat)(w:World)(v:NdV)(K:NdK):Prop where
 keys:Own1 9 B w v.ka K.keys.length v.kc (os K.keys)
 vals:Own1 9 B w v.va K.vals.length v.vc (os K.vals)
 kids:Own1 3 B w v.da K.kids.length v.dc (on K.kids)
 signs:Own1 9 B w v.sa K.signs.length v.sc (os K.signs)
theorem ONd.below{B w w' v K}(b:ONd B w v K)(a:Below w.1.size w w'):ONd B w' v K:=⟨b.keys.below a,b.vals.below a,b.kids.below a,b.signs.below a⟩
theorem ONd.mono{B B' w v K}(b:ONd B w v K)(a:B'<=B):ONd B' w v K:=⟨b.keys.mono a,b.vals.mono a,b.kids.mono a,b.signs.mono a⟩
theorem ONd.keep{B w w' v K}(b:ONd B w v K)(a:KeepT 9 w w')(c:KeepT 3 w w'):ONd B w' v K:=⟨b.keys.keep a,b.vals.keep a,b.kids.keep c,b.signs.keep a⟩
theorem tU(B w p b):ONd B w aF ⟨p,b,[],[],[],[]⟩:=⟨cQ _ _ _,cQ _ _ _,cQ _ _ _,cQ _ _ _⟩
theorem aD:(prog.info? 176).map (·.size)=some 6:=uA
theorem cy(v K):(ndc v K).toArray.all (·.oneCell')=true:=by
 rw[Array.all_eq_true_iff_forall_mem];intro x hx;simp[ndc]at hx;rcases hx with rfl|rfl|rfl|rfl|rfl|rfl<;>rfl
structure R1(e:Nat)(w:World)(a:Option Addr)(n c:Nat)(xs:List Value):Prop where
 len:xs.length=n
 le:n<=c
 le':c<=maxLen
 nil:a=none->c=0
 one:∀u∈xs,u.oneCell'=true
 at_:0<n->∃b off,a=some ⟨b,off,none⟩/\(∃cs fr,w.heap[b]?=some (.cells cs e fr))/\∀i,i<n->w.cell? ⟨b,off+i,none⟩=some (xs.getD i undef)
theorem R1.keep{e w w' a n c xs}(f:R1 e w a n c xs)(m:KeepT e w w'):R1 e w' a n c xs:=
 ⟨f.len,f.le,f.le',f.nil,f.one,fun o=>by
  obtain⟨b,h,j,⟨cs,fr,g⟩,k⟩:=f.at_ o;have d:=m.block b cs fr g;refine⟨b,h,j,⟨cs,fr,d⟩,fun i l=> ?_⟩;rw[<-k i l,CV w b _ cs e fr g,CV w' b _ cs e fr d]⟩
theorem R1.below{e w w' a n c xs}(d:R1 e w a n c xs)(b:Below w.1.size w w'):R1 e w' a n c xs:=d.keep (aV b)
theorem gh(e w):R1 e w none 0 0 []:=⟨rfl,t1,u6 _,fun _=>rfl,fun u a=>by simp at a,fun b=>by omega⟩
theorem Own1.r1{e B w a n c xs}(h:Own1 e B w a n c xs)(j:∀u∈xs,u.oneCell'=true):R1 e w a n c xs:=
 ⟨h.len,h.le.1,h.le.2,(fun b=>by
  subst b;rcases h.2 with⟨d,_⟩|⟨g,p,f,d,_⟩
  ·cases d;rfl
  ·cases d),j,fun o=>by
  obtain⟨g,b,_,_,⟨f,l⟩,k⟩:=h.at_ o;exact⟨g,0,b,⟨_,_,l⟩,fun i m=>by rw[wg];exact k i m⟩⟩
theorem dR(l):∀u∈os l,u.oneCell'=true:=by intro u a;obtain⟨x,_,rfl⟩:=xC.1 a;rfl
theorem fw(l):∀u∈on l,u.oneCell'=true:=by intro u a;obtain⟨x,_,rfl⟩:=xC.1 a;rfl
theorem R1.get{e w a n c xs}(j:R1 e w a n c xs){i}(h:i<n):∃b d,a=some ⟨b,d,none⟩/\w.cell? ⟨b,d+i,none⟩=some (xs.getD i undef):=by
 obtain⟨b,d,f,_,g⟩:=j.at_ t7;exact⟨b,d,f,g i h⟩
theorem ng{a:Type}(l:List a)(i j d):(l.drop i).getD j d=l.getD (i+j) d:=by simp[List.getD_eq_getElem?_getD]
theorem Ao{b:Type}(l:List b)(i j d)(a:j<i):(l.take i).getD j d=l.getD j d:=by simp[List.getD_eq_getElem?_getD,a]
theorem R1.take{e w a n c xs}(d:R1 e w a n c xs){j}(m:j<=n):R1 e w a j c (xs.take j):=
 ⟨by rw[wv,d.len];omega,u9 m d.le,d.le',d.nil,fun u o=>d.one u (List.mem_of_mem_take o),fun p=>by
  obtain⟨b,f,g,h,k⟩:=d.at_ t7;exact⟨b,f,g,h,fun i l=>by rw[Ao _ _ _ _ l];exact k i t7⟩⟩
theorem R1.drop{e w a n c xs}(f:R1 e w a n c xs){i}(m:i<=n):R1 e w (if c=i then a else a.map (·.add i)) (n-i) (c-i) (xs.drop i):=
 ⟨by rw[vk,f.len],by have:=f.le;omega,by have:=f.le';omega,(fun d=>by
  split at d
  ·omega
  ·cases a with
   |none=>have:=f.nil rfl;omega
   |some x=>cases d),fun u l=>f.one u (List.mem_of_mem_drop l),fun p=>by
  obtain⟨b,g,d,h,k⟩:=f.at_ t7;have:=f.le;subst d;refine⟨b,g+i,by rw[BX t7,Option.map_some,CR],h,fun j o=> ?_⟩;rw[ng,Nat.add_assoc];exact k (i+j) t7⟩
theorem Ap{t e bytes m}(T:ElT t e 1 m bytes)(w a n c j)(g:j<=c):(Instr.sliceAt t (.slice a n c) none (some (.int .i64 (j:Int))) none).run prog w= .ok (.slice a j c) w:=by
 obtain⟨i,f,h,k,l⟩:=CT T.inf;have hA:(Option.map (fun x:Addr=>x.add 0) a)=a:=by cases a with|none=>rfl|some x=>obtain⟨b,o,q⟩:=x;cases q<;>rfl
 have d:(if c=0 then a else Option.map (fun x:Addr=>x.add 0) a)=a:=by rw[hA];split<;>rfl
 simp[Instr.sliceAt,Instr.slice,Instr.sliceBounds,Instr.sliceBound,asIntOf,Sem.run_bind,run_underlying T.und w,sizeOf,typeInfo,f,g,d]
theorem tV{t e bytes k}(T:ElT t e 1 k bytes)(w a n c i)(b:i<=n):(Instr.sliceAt t (.slice a n c) (some (.int .i64 (i:Int))) none none).run prog w= .ok (.slice (if c=i then a else a.map (·.add i)) (n-i) (c-i)) w:=by
 obtain⟨j,f,g,d,h⟩:=CT T.inf;simp[Instr.sliceAt,Instr.slice,Instr.sliceBounds,Instr.sliceBound,asIntOf,Sem.run_bind,run_underlying T.und w,sizeOf,typeInfo,f,b,d]
theorem nh{w b rest o a i}(c:o.guard=none){t x e d}(h:o.op= .slice t x e d none){v}(j:(Instr.sliceAt t (a.eval x) (e.map a.eval) (d.map a.eval) none).run prog w= .ok v w)(g:wpList prog b i rest (a.put o.dst v) w):wpList prog b i (o::rest) a w:=
 C2 c fun _ f=>by
  unfold Oper.wp execOp;simp only[h,Option.map_none,B3,j,C0,Ct];exact f _ _ g
theorem iM{w d rest o b p t e bytes r}(T:ElT t e 1 r bytes){a n c xs}(q:R1 e w a n c xs){x y j}(i:j<=n)(h:o.guard=none)(l:o.op= .slice t x none (some y) none)(hx:b.eval x= .slice a n c)(m:b.eval y= .int .i64 (j:Int))(k:∀f g,R1 e w f j g (xs.take j)->wpList prog d p rest (b.put o.dst (.slice f j g)) w):wpList prog d p (o::rest) b w:=
 nh h l (by rw[hx,Option.map_some,m];exact Ap T w a n c j (by have:=q.le;omega)) (k _ _ (q.take i))
theorem ni{w d rest o b p t e bytes r}(T:ElT t e 1 r bytes){a n c xs}(q:R1 e w a n c xs){x y i}(j:i<=n)(h:o.guard=none)(l:o.op= .slice t x (some y) none none)(hx:b.eval x= .slice a n c)(m:b.eval y= .int .i64 (i:Int))(k:∀f g,R1 e w f (n-i) g (xs.drop i)->wpList prog d p rest (b.put o.dst (.slice f (n-i) g)) w):wpList prog d p (o::rest) b w:=
 nh h l (by rw[hx,Option.map_some,m];exact tV T w a n c i j) (k _ _ (q.drop j))
theorem iN{w}{o:Oper}{h x ab}(so xo){t e bytes Z}(T:ElT t e 1 Z bytes)(H:o.op= .call {callee:= .builtin .append,args:=#[so,xo],argTypes:=#[t,t]}){B a n c xs}(I:h.eval so= .slice a n c)(f:Own1 e B w a n c xs){b m d s}(hx:h.eval xo= .slice b m d)(g:R1 e w b m d s)(ae:n+m<=1048576)(C:bytes<=1024)(z:B<=w.1.size)(D:∀l p w',Own1 e B w' l (n+m) p (xs++s)->Below B w w'->w.grownBy w' (Value.slice a n c).ownBlock->x (h.put o.dst (.slice l (n+m) p)) w'):
 o.wp prog h w x ab:=by
 obtain⟨i,E,J,K,L⟩:=CT T.inf;have A:∀w',w.grownBy w' (Value.slice a n c).ownBlock->Below B w w':=fun w' R=>t2.grown R z (fun k S=>(BS f k S).1);cases b with
 |none=>
  have Q:=g.nil rfl;have U:m=0:=by have:=g.le;omega
  subst U;obtain rfl:s=[]:=x8 g.len;subst Q;have v:=run_append_owned_none (P:=prog) (w:=w) B t o.type e i 1 T.und E _ _ _ f;have r:=D a c w (by rw[wi];exact f) t2 ⟨rfl,rfl,rfl,t1,fun _ _ _=>rfl⟩;unfold Oper.wp;simp only[execOp,H,resolve,invoke,builtin,B3,Ct,C0,wa,vo,v6,I,hx,v];exact r
 |some M=>
  refine wp_append_own _ so xo t H B e i Z 1 bytes T.und E J K L T.cells T.pos _ n xs I f M m d s hx (by rw[g.len,Nat.mul_one]) ?_ g.one (by unfold maxLen;omega) ?_ z ?_
  ·intro j u F;have G:j<m:=by have:=(wb.1 F).1;rw[g.len]at this;exact this
   obtain⟨ac,Y,q,_,O⟩:=g.at_ t7;cases q;rw[CR,O j G,x3,F]
   rfl
  ·have:(n+m)*bytes<=(n+m)*1024:=z1 _ C;omega
  ·intro v' w' y r _;have V:∃l p,v'= .slice l (n+m) p:=by
    rcases y.2 with⟨q,N⟩|⟨ad,W,X,q,_⟩
    ·have:=N;exact⟨none,0,by rw[q,this]⟩
    ·exact⟨_,_,q⟩
   obtain⟨l,p,rfl⟩:=V;exact D l p w' y (A w' r) r
theorem ir{w i rest o f D so xo t e bytes E}(T:ElT t e 1 E bytes){B a n c xs}(j:Own1 e B w a n c xs){b m d p}(A:R1 e w b m d p)(y:n+m<=1048576)(k:bytes<=1024)(u:B<=w.1.size)(l:o.guard=none)(z:o.op= .call {callee:= .builtin .append,args:=#[so,xo],argTypes:=#[t,t]})(C:f.eval so= .slice a n c)(hx:f.eval xo= .slice b m d)(x:∀g h w',Own1 e B w' g (n+m) h (xs++p)->Below B w w'->w.grownBy w' (Value.slice a n c).ownBlock->wpList prog i D rest (f.put o.dst (.slice g (n+m) h)) w'):
 wpList prog i D (o::rest) f w:=
 C2 l fun _ v=>iN so xo T z C j hx A y k u fun g h w' q r s=>v _ _ (x g h w' q r s)
theorem jn{w a n c l}(f:Bs w a n c l):(convert 56 9 (.slice a n c)).run prog w= .ok (.string (strOfNums l)) w:=by
 rcases Nat.eq_zero_or_pos n with h0|hp
 ·have i:=x8 (by rw[f.len_eq];exact h0);subst i;cases a with
  |none=>exact run_convert_bytes_nil w 56 5 underlying56 C4 n c _ DP
  |some d=>
   subst h0;rw[run_convert_bytes_string w _ _ 5 _ 0 c underlying56 C4 DP,run_bytesToString w d 0 c [] (by have:=run_loadCells_list (P:=prog) w d [] (fun j v h=>by simp at h);simpa using this)]
   rfl
 ·obtain⟨b,e,rfl,_,g⟩:=f.at_ hp;exact run_convert_bytes_arg w 56 5 underlying56 C4 b e n c l f.len_eq g _ DP
