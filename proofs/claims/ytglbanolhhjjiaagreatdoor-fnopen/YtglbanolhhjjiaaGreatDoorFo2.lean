import Derived.Test.YtglbanolhhjjiaaGreatDoorFo1
import Derived.Deep.RegionLaw
import Derived.Deep.DeepCutAuto
import Derived.Deep.AppendLies
namespace Go.Proofs.YtglbanolhhjjiaaGreatDoor
open Go.Proofs.Tryz
open Go.RowKit
set_option linter.unusedVariables false
set_option maxRecDepth 100000
set_option maxHeartbeats 32000000
def jX(gen root used free:Int):List Int:=num gen 8++num root 4++(num used 4++num free 4)
theorem Af(d b c a):IsB (jX d b c a):=dC (dC (ec _ _) (ec _ _)) (dC (ec _ _) (ec _ _))
theorem jY{w v o b K V U}(C:o.guard=none)(s x)(N:o.op= .call {callee:= .builtin .append,args:=#[s,x],argTypes:=#[56,56]})(B a n c xs)(O:b.eval s= .slice a n c)(r:Own B w a n c xs)(g m d l)(hx:b.eval x= .slice (some ⟨g,0,none⟩) m d)(t:Bs w (some ⟨g,0,none⟩) m d l)(M:n+m<=140737488355328)(z:B<=w.1.size)(h:∀f p w',Own B w' f (n+m) p (xs++l)->Below B w w'->K (b.put o.dst (.slice f (n+m) p)) w'):
 if Region.wanted o (yielded v b.tmps)=true then Oper.wp prog o b w K V else U:=by
 have Q:Region.wanted o (yielded v b.tmps)=true:=by simp[Region.wanted,C]
 rw[B4 Q];obtain⟨i,J,E,F,G⟩:=DB jM;refine wp_append_own w s x _ N B 5 i _ 1 1 underlying56 J E F G rfl uA _ n (ob xs) O r ⟨g,0,none⟩ m d (ob l) hx (by simp[ob,t.len_eq]) ?_ (pB l) (by unfold maxLen;omega) uA z ?_
 ·intro j u y;have D:j<l.length:=by have:=(wC.1 y).1;simpa [ob]using this
  obtain⟨W,T,e,_,I⟩:=t.at_ (by have:=t.len_eq;omega);cases e;rw[jN? l j D]at y;rw[C8,I j (by have:=t.len_eq;omega)];exact y
 ·intro v' w' q A _;have e:ob xs++ob l=ob (xs++l):=by simp[ob]
  rw[e]at q;have P:∃f p,v'= .slice f (n+m) p:=by
   rcases q.2 with⟨rfl,H⟩|⟨g,R,S,rfl,_⟩
   ·exact⟨none,0,by rw[H]⟩
   ·exact⟨_,_,rfl⟩
  obtain⟨f,p,rfl⟩:=P;exact h f p w' q (t7.grown A z (fun k L=>(r.lt k L).1))
theorem mV(v)(k:Nat)(w)(d:0<=v)(f:v<=9223372036854775807)(j:k<=8)(n:0<k):
 Calls prog 128 #[.int .i64 v,.int .i64 k] w fun e w'=> ∃g c,e= .returned (.slice (some ⟨g,0,none⟩) k c)/\Below w.1.size w w'/\Own w.1.size w' (some ⟨g,0,none⟩) k c (num v k):=by
 refine(i9 v k w d f j).mono ?_;rintro e w' ⟨a,c,rfl,b,o⟩;obtain⟨g,rfl,_⟩:=(show∃g,a=some ⟨g,0,none⟩/\w.1.size<=g by
  rcases o.2 with⟨e,d⟩|⟨g,l,m,e,i,_⟩
  ·omega
  ·cases e;exact⟨g,rfl,i⟩)
 exact⟨g,c,rfl,b,o⟩
theorem pQ{B w w'}(h:Below B w.drew w'):Below B w w':=⟨h.os,h.tape,h.output,h.size,h.block⟩
theorem pR{B}{w c w1:World}{v0 v1 v2 v3 t}(b:Below B c w1)(e:w.1.size<B)(d:c.heap=(w.alloc (.cells #[v0,v1,v2,v3] t)).heap):
 w1.cell? ⟨w.1.size,0,none⟩=some v0/\w1.cell? ⟨w.1.size,1,none⟩=some v1/\w1.cell? ⟨w.1.size,2,none⟩=some v2/\w1.cell? ⟨w.1.size,3,none⟩=some v3:=by
 have a:∀o,w1.cell? ⟨w.1.size,o,none⟩=(w.alloc (.cells #[v0,v1,v2,v3] t)).cell? ⟨w.1.size,o,none⟩:=fun o=>by
  rw[b.cell (p:=⟨w.1.size,o,none⟩) e];exact C5 (by rw[d])
 refine⟨?_,?_,?_,?_⟩<;>rw[a] <;>simp
theorem ge{B}{w w1 a:World}{v0 v1 v2 v3}(k:w1.cell? ⟨w.1.size,0,none⟩=some v0/\w1.cell? ⟨w.1.size,1,none⟩=some v1/\w1.cell? ⟨w.1.size,2,none⟩=some v2/\w1.cell? ⟨w.1.size,3,none⟩=some v3)(b:Below B w1 a)(c:w.1.size<B):
 a.cell? ⟨w.1.size,0,none⟩=some v0/\a.cell? ⟨w.1.size,1,none⟩=some v1/\a.cell? ⟨w.1.size,2,none⟩=some v2/\a.cell? ⟨w.1.size,3,none⟩=some v3:=by
 refine⟨?_,?_,?_,?_⟩<;>rw[b.cell (p:=⟨w.1.size,_,none⟩) c]
 ·exact k.1
 ·exact k.2.1
 ·exact k.2.2.1
 ·exact k.2.2.2
theorem Ag(f b d g w)(ae:0<=f)(af:f<=1000000000000)(ap:0<=b)(a1:b<=1024)(u0:0<=d)(u1:d<=1024)(ad:0<=g)(f1:g<=1024):
 Calls prog 94 #[.agg #[.int .i64 f,.int .i64 b,.int .i64 d,.int .i64 g]] w fun e w'=> ∃a c,e= .returned (.slice a 20 c)/\Below w.1.size w w'/\Own w.1.size w' a 20 c (jX f b d g):=by
 go_enter func94,ntmps94;go_wp2_with fail;go_cut [3] (fun aA j=> ∃k l,aA= .slice k 12 l/\Below w.1.size w j/\w.1.size+1<=j.1.size/\Own (w.1.size+1) j k 12 l (num f 8++num b 4)/\j.cell? ⟨w.1.size,0,none⟩=some (.int .i64 f)/\j.cell? ⟨w.1.size,1,none⟩=some (.int .i64 b)/\j.cell? ⟨w.1.size,2,none⟩=some (.int .i64 d)/\j.cell? ⟨w.1.size,3,none⟩=some (.int .i64 g))
 case first=>
  go_region_law (first
   |(refine jY rfl _ _ rfl (w.1.size+1) _ 8 Y (num f 8) rfl (A.below n) ag 4 Z (num b 4) rfl (I.bs (ec _ _)) uA uA ?_;intro k l R x u)
   |(rw[B4 (show Region.wanted _ _=true from rfl)];go_wp2_with (first
    |(go_at_call_of 128 f;refine(mV f 8 _ ae uA uA uA).mono ?_;rintro e w1 ⟨af,Y,rfl,m,A⟩;simp only[EB,World.size_alloc]at m A;obtain⟨k0,p,q,r⟩:=pR (w:=w) (v0:= .int .i64 f) (v1:= .int .i64 b) (v2:= .int .i64 d) (v3:= .int .i64 g) (t:=36) m (x3 _) rfl;have T:=m.size;simp only[EB,World.size_alloc]at T)
    |(go_at_call_of 128 b;refine(mV b 4 _ ap uA uA uA).mono ?_;rintro e a2 ⟨ag,Z,rfl,n,I⟩;have a0:=n.size))))
  all_goals
   have H:=ge (w:=w) (ge (w:=w) ⟨k0,p,q,r⟩ n uA) u uA;have y:Below w.1.size w R:=((bAl _ _).drew.trans (m.mono (x0 _))).trans ((n.mono uA).trans (u.mono (x0 _)));have U:w.1.size+1<=R.1.size:=by have:=u.size;omega
   have V:Hid _:=H;clear m n u A I T a0 k0 p q r H;go_wp2_with fail
   go_meet
   exact⟨k,l,rfl,y,U,x,V.out⟩
 case rest=>
 obtain⟨k,l,rfl,y,U,x,k0,p,q,r⟩:=hcut;have s:True:=trivial;go_wp2_with fail
 go_region_law (first
  |(have W:=s;refine jY rfl _ _ rfl (w.1.size+1) k 12 l (num f 8++num b 4) rfl ?_ ak 4 ab (num d 4) rfl ?_ ?_ ?_ ?_;exact x.below i;exact B.bs (ec _ _);omega;omega;intro C F aX J v;have a6:=v.size;have z:Own (w.1.size+1) aX C 16 F (num f 8++num b 4++num d 4):=(by simpa using J);obtain⟨t0,aB,aS,aT⟩:=ge (w:=w) ⟨N,O,P,Q⟩ v uA;clear s W)
  |(have X:=o;refine jY rfl _ _ rfl (w.1.size+1) C 16 F (num f 8++num b 4++num d 4) rfl ?_ am 4 ac (num g 4) rfl ?_ ?_ ?_ ?_;exact z.below o;exact K.bs (ec _ _);omega;omega;intro D G S L E;clear X)
  |(rw[B4 (show Region.wanted _ _=true from rfl)];go_wp2_with (first
   |(go_at_call_of 128 d;refine(mV d 4 _ u0 uA uA uA).mono ?_;rintro e a3 ⟨ak,ab,rfl,i,B⟩;simp only[EB]at i B;replace i:=pQ i;have a5:=i.size;obtain⟨N,O,P,Q⟩:=ge (w:=w) ⟨k0,p,q,r⟩ i uA)
   |(go_at_call_of 128 g;refine(mV g 4 _ ad uA uA uA).mono ?_;rintro e a4 ⟨am,ac,rfl,o,K⟩;have a7:=o.size))))
 all_goals
  have an:Below w.1.size w S:=y.trans (((i.mono uA).trans (v.mono (x0 _))).trans ((o.mono uA).trans (E.mono (x0 _))));have M:Own w.1.size S D 20 G (jX f b d g):=by
   have:=L.mono (x0 _);simpa [jX]using this
  clear i v o E L K J z B x k0 p q r N O P Q t0 aB aS aT y;go_wp2;go_ret;exact⟨D,G,rfl,an,M⟩
theorem mW{d b c a}(h:bG d b c a=true):(1<=d/\d<=1000000000000/\2<=c/\c<=1024)/\(0<=b/\b<=1024)/\0<=a/\a<=1024:=by
 unfold bG at h;simp only[wX]at h;have e:=C3 h.1;have f:=C3 h.2.1;have g:=C3 h.2.2;omega
theorem Ah(a):bL (a%2) 1 20=true:=CR uA
def ip(gen root used free:Int):List Int:=page (gen%2) 1 (jX gen root used free)
theorem Ai(a c d b w)(g:bG a c d b=true):
 Calls prog 92 #[.agg #[.int .i64 a,.int .i64 c,.int .i64 d,.int .i64 b]] w fun e w'=> ∃o q,e= .returned (.tuple #[.slice o 4 q,.bool true])/\Below w.1.size w w'/\POps w.1.size w' o 4 q (a%2) (ip a c d b):=by
 obtain⟨⟨T,B,u0,u1⟩,⟨J,K⟩,A,f1⟩:=mW g;have m:Hid (bG a c d b=true):=g;clear g;go_enter func92,ntmps92;go_wp2_with fail;refine(mU a c d b _).mono ?_;rw[m.out];rintro e w1 ⟨rfl,i⟩;obtain⟨k0,r,s,u⟩:=pR (w:=w) (v0:= .int .i64 a) (v1:= .int .i64 c) (v2:= .int .i64 d) (v3:= .int .i64 b) (t:=36) i vo rfl;have H:Below w.1.size w w1:=(bAl _ _).trans (i.mono vo);have j:w.1.size<w1.1.size:=by have:=i.size;simp at this;omega
 have k:a.tmod 2=a%2:=A3 uA;have n:Hid (a.tmod 2=a%2):=k;clear i k;go_wp2_with fail;go_region_with (first
  |(go_at_call 94;refine(Ag a c d b _ uA B J K uA u1 A f1).mono ?_;rintro e O ⟨v,y,rfl,f,l⟩;simp only[EB]at f l;replace f:=pQ f;obtain⟨D,E,F,G⟩:=ge (w:=w) ⟨k0,r,s,u⟩ f j)
  |(go_at_call 93;try rw[n.out];refine(pK (a%2) 1 v 20 y (jX a c d b) _ (l.bs (Af _ _ _ _)) (Ah a)).mono ?_;rintro e P ⟨x,z,rfl,p,L⟩))
 all_goals
  have I:Below w.1.size w P:=H.trans ((f.mono (A2 j)).trans (p.mono (wg (A2 j) f.size)));have Q:w.1.size<=O.1.size:=wg (A2 j) f.size;clear f p l k0 r s u D E F G;go_wp2
  go_ret2
  obtain⟨R,N,S,M,C⟩:=L;exact⟨x,z,rfl,I,R,N,S,M.mono Q,C⟩
theorem Aj(a c d b w)(f:bG a c d b=false)(P):
 Calls prog 92 #[.agg #[.int .i64 a,.int .i64 c,.int .i64 d,.int .i64 b]] w fun e w'=> ∃k m,e= .returned (.tuple #[.slice k 0 m,.bool false])/\Below w.1.size w w'/\POps w.1.size w' k 0 m (a%2) P:=by
 have j:Hid (bG a c d b=false):=f;clear f;go_enter func92,ntmps92;go_wp2_with fail;refine(mU a c d b _).mono ?_;rw[j.out];rintro e w1 ⟨rfl,l⟩;have g:=(bAl _ _).trans (l.mono vo);clear l;have n:=io 2 157 w.1.size w1 g.size (opI (a%2)) (fun _=>none) (fun _=>0) (fun _=>0) (opL P);have o:Hid _:=n;clear n;go_wp2
 go_ret2
 exact⟨_,_,rfl,g.alloc g.size _,_,_,_,o.out,fun i p=>absurd p uA⟩
def kOf(ok:Bool):Nat:=if ok=true then 4 else 0
theorem tK(a):kOf a<=4:=by unfold kOf;split<;>omega
theorem pS(d b c a w):
 Calls prog 92 #[.agg #[.int .i64 d,.int .i64 b,.int .i64 c,.int .i64 a]] w fun e w'=> ∃g i,e= .returned (.tuple #[.slice g (kOf (bG d b c a)) i,.bool (bG d b c a)])/\Below w.1.size w w'/\POps w.1.size w' g (kOf (bG d b c a)) i (d%2) (ip d b c a):=by
 cases f:bG d b c a with
 |true=>exact Ai d b c a w f
 |false=>exact Aj d b c a w f _
theorem tL(a):∀(xs:List Value)(k:Nat)(Z:Array Value),a+k+xs.length<=Z.size->(xs.zipIdx k).foldl (fun cs x=>cs.setIfInBounds (a+x.2) x.1) Z=(Z.toList.take (a+k)++xs++Z.toList.drop (a+k+xs.length)).toArray
 |[],k,Z,h=>by simp
 |x::xs,k,Z,h=>by
  have b:a+k<Z.toList.length:=by simp at h ⊢;omega
  rw[List.zipIdx_cons,List.foldl_cons,tL a xs (k+1) (Z.setIfInBounds (a+k) x) (by simp at h ⊢;omega)];rw[Array.toList_setIfInBounds,show a+(k+1)=a+k+1 by omega,x4 (by simpa using b),List.getElem_set_self,List.take_set_of_le t6,List.drop_set_of_lt uA];rw[w8,show a+k+1+xs.length=a+k+(xs.length+1)by omega];simp
theorem pT(b Z i a v x rest)(g:b i=some (a,x.length))(e:v.cells=x.toArray)(f:a+x.length<=Z.size):
 Instr.fill b Z ((i,v)::rest)=Instr.fill b (Z.toList.take a++x++Z.toList.drop (a+x.length)).toArray rest:=by
 have d:=tL a x 0 Z uA;rw[w9]at d;rw[Instr.fill];have c:(decide (v.cells.size≠x.length)||decide (a+v.cells.size>Z.size))=false:=by
  rw[e];simp;omega
 rw[g];simp only;rw[c,CH uB,e,<-d];simp
theorem fq{t e s bytes p}(T:ElT t e s p bytes)(o:s<=1048576)(v)(x:List Value)(l:v.cells=x.toArray)(hx:x.length=s)(w):
 (Instr.buildSlice t 1 #[(0,v)]).run prog w= .ok (.slice (some ⟨w.1.size,0,none⟩) 1 1) (w.alloc (.cells x.toArray e)):=by
 obtain⟨i,g,a,b,m⟩:=DB T.inf;have k:=T.pos;have n:=T.cells;have f:∀Z:Array Value,Z.size=s->Instr.fill (fun i=>some (i*s,s)) Z [(0,v)]=some x.toArray:=fun Z d=>by
  rw[pT _ Z 0 0 v x [] (by simp[hx]) l uA];simp only[Instr.fill,List.take_zero,xd,wE];rw[A0 (by simp[d,hx]),wP]
 have j:¬(2^24<s):=uA;have c:¬(s=0):=uA;simp[Instr.buildSlice,Sem.run_bind,run_underlying T.und w,sizeOf,typeInfo,g,b,zeroValue,a,c];rw[CH uA];rw[f _ vo];simp[newRow,go_sem]
theorem jZ{P:Program}{o:Oper}{a:Act}{w:World}{K:Act->World->Prop}{e:Exit->Act->World->Prop}(t:TypeId)(b:Array (Nat×Operand))(d:o.op= .build t b){cs:Array Value}
 (c:P.built t (b.map fun(i,x)=>(i,a.eval x)).toList=some cs)(h:K (a.put o.dst (.agg cs)) w):o.wp P a w K e:=
 wp_build t b d (by rw[c];rfl) (by rw[c];exact h)
theorem Ak{P:Program}{c:Array Oper}{rest:List Oper}{o:Oper}{a:Act}{w:World}{j:Exit->Act->World->Prop}(d:o.guard=none)(t:TypeId)(b:Array (Nat×Operand))(g:o.op= .build t b){cs:Array Value}
 (f:P.built t (b.map fun(i,x)=>(i,a.eval x)).toList=some cs)(h:wpList P c j rest (a.put o.dst (.agg cs)) w):wpList P c j (o::rest) a w:=
 DR d fun _ e=>jZ t b g f (e _ _ h)
theorem bU{P:Program}{o:Oper}{a:Act}{w w':World}{K:Act->World->Prop}{f:Exit->Act->World->Prop}(t:TypeId)(c:Nat)(b:Array (Nat×Operand))(e:o.op= .buildSlice t c b){v:Value}
 (h:(Instr.buildSlice t c (b.map fun(i,x)=>(i,a.eval x))).run P w= .ok v w')(d:K (a.put o.dst v) w'):o.wp P a w K f:=by
 unfold Oper.wp execOp;simp only[e,CT,h,DI,C2];exact d
theorem cI{P:Program}{c:Func}{p q:Tmp}{b:TypeId}(h:c.results=#[.cell p b,.tmp q])(a:Array Value)(w:World)(g:Nat)(t:TypeId)(cs:Array Value)(d:TypeDesc){v:Value}
 (l:a.getD p undef= .pointer (some ⟨g,0,none⟩))(j:w.heap[g]?=some (.cells cs t (0,0)))
 (n:P.underlying b=some d)(i:(match d with| .struct _| .array _ _=>true|_=>false)=true)(k:(P.info? b).map (·.size)=some cs.size)(m:a.getD q undef=v):
 (results c a).run P w= .ok (.tuple #[.agg cs,v]) w:=by
 have e:a[p]?.getD undef= .pointer (some ⟨g,0,none⟩):=by simpa using l
 have f:a[q]?.getD undef=v:=by simpa using m
 simp[results,h,e,f,asAddr,run_loadVar_row w g t b cs (0,0) d j n i k]
def Own1(e B:Nat)(w:World)(a:Option Addr)(n c:Nat)(xs:List Value):Prop:=w.ownsRow B e 1 (.slice a n c) n xs
def f1(xs:List Value):Nat->List Value:=fun i=>[xs.getD i undef]
theorem Al(xs a):∀n,n<=xs.length->aK (f1 (xs++a)) n=aK (f1 xs) n
 |0,_=>rfl
 |n+1,h=>by
  rw[aK,aK,Al xs a n uA];simp[f1,List.getD,List.getElem?_append_left (show n<xs.length by omega)]
theorem tM:∀(xs:List Value),aK (f1 xs) xs.length=xs:=fun xs=>by
 have a:∀n,n<=xs.length->aK (f1 xs) n=xs.take n:=by
  intro n;induction n with
  |zero=>intro _;simp[aK]
  |succ n ih=>
   intro h;rw[aK,ih uA,A6];simp[f1,List.getD,List.getElem?_eq_getElem (show n<xs.length by omega)]
 rw[a _ t6,ya]
theorem Own1.len{e B w a n c xs}(h:Own1 e B w a n c xs):xs.length=n:=by have:=h.1;omega
theorem Own1.row{e B w a n c xs}(h:Own1 e B w a n c xs):ORow e 1 B w a n c (f1 xs):=by
 unfold ORow;have:=tM xs;rw[h.len]at this;rw[this];exact h
theorem Own1.below{e B w w' a n c xs}(h:Own1 e B w a n c xs)(b:Below w.1.size w w'):Own1 e B w' a n c xs:=bQ h b
theorem Own1.mono{e B B' w a n c xs}(h:Own1 e B w a n c xs)(b:B'<=B):Own1 e B' w a n c xs:=World.ownsRow.mono h b
theorem Own1.keep{e B w w' a n c xs}(h:Own1 e B w a n c xs)(b:KeepT e w w'):Own1 e B w' a n c xs:=cw h b
theorem cQ(e B w):Own1 e B w none 0 0 []:=World.ownsRow_nil w B _ _
theorem Own1.le{e B w a n c xs}(h:Own1 e B w a n c xs):n<=c/\c<=maxLen:=by
 rcases h.2 with⟨e,_⟩|⟨g,f,i,e,_,_,b,d,_⟩
 ·cases e;exact⟨t6,wa _⟩
 ·cases e;exact⟨b,d⟩
theorem Own1.at_{e B w a n c xs}(h:Own1 e B w a n c xs)(t:0<n):∃g,a=some ⟨g,0,none⟩/\B<=g/\g<w.1.size/\(∃b,w.heap[g]?=some (.cells b e (0,0)))/\∀i,i<n->w.cell? ⟨g,i,none⟩=some (xs.getD i undef):=by
 rcases h.2 with⟨_,o⟩|⟨g,m,b,f,k,d,p,q,r,j⟩
 ·omega
 ·cases f;refine⟨g,rfl,k,(wy.1 d).1,⟨b,d⟩,fun i l=> ?_⟩;rw[DC w g i b e (0,0) d];have s:=h.len;rw[<-j];simp only[yc,Nat.mul_one];rw[List.getElem?_take_of_lt l];have:i<b.size:=uA;simp[this]
theorem Own1.set{e B g w n c xs}(h:Own1 e B w (some ⟨g,0,none⟩) n c xs)(i u):Own1 e B (w.setCell ⟨g,i,none⟩ u) (some ⟨g,0,none⟩) n c (xs.set i u):=(World.ownsRow.stored h i u).1
theorem Own1.free{e B g w n c xs}(h:Own1 e B w (some ⟨g,0,none⟩) n c xs)(i):w.frozen? ⟨g,i,none⟩=false:=by
 rcases h.2 with⟨a,_⟩|⟨j,f,b,a,k,d,_⟩
 ·cases a
 ·cases a;exact frozen_of_row w g i b e d
theorem tN{w1}{o:Oper}{b j z}(so xo){t e bytes A}(T:ElT t e 1 A bytes)(w:o.op= .call {callee:= .builtin .append,args:=#[so,xo],argTypes:=#[t,t]})(B a n c xs)(y:b.eval so= .slice a n c)(d:Own1 e B w1 a n c xs)(x)(m:x.oneCell'=true)(hx:b.eval xo= .slice (some ⟨w1.1.size,0,none⟩) 1 1)(v:n<=1048576)(k:bytes<=1048576)(r:B<=w1.1.size)(s:∀f g w',Own1 e B w' f (n+1) g (xs++[x])->Below B w1 w'->(w1.alloc (.cells #[x] e)).grownBy w' (Value.slice a n c).ownBlock->j (b.put o.dst (.slice f (n+1) g)) w'):
 o.wp prog b (w1.alloc (.cells #[x] e)) j z:=by
 refine te so xo T w B a n c (f1 xs) y d.row [x] rfl (by intro u l;simp at l;subst l;exact m) hx v k r (fun f g w' i p q=>s f g w' ?_ p q);unfold ORow at i;rw[lK]at i;have:=tM xs;rw[d.len]at this;rw[this]at i;exact i
theorem lN{w1 g rest o b z}(k:o.guard=none)(so xo){t e bytes A}(T:ElT t e 1 A bytes)(w:o.op= .call {callee:= .builtin .append,args:=#[so,xo],argTypes:=#[t,t]})(B a n c xs)(y:b.eval so= .slice a n c)(i:Own1 e B w1 a n c xs)(x)(l:x.oneCell'=true)(hx:b.eval xo= .slice (some ⟨w1.1.size,0,none⟩) 1 1)(v:n<=1048576)(j:bytes<=1048576)(r:B<=w1.1.size)(u:∀d f w',Own1 e B w' d (n+1) f (xs++[x])->Below B w1 w'->(w1.alloc (.cells #[x] e)).grownBy w' (Value.slice a n c).ownBlock->wpList prog g z rest (b.put o.dst (.slice d (n+1) f)) w'):
 wpList prog g z (o::rest) b (w1.alloc (.cells #[x] e)):=
 DR k fun _ s=>tN so xo T w B a n c xs y i x l hx v j r fun d f w' m p q=>s _ _ (u d f w' m p q)
theorem je{w1}{o:Oper}{f q O}(so xo){t e bytes N}(T:ElT t e 1 N bytes)(K:o.op= .call {callee:= .builtin .append,args:=#[so,xo],argTypes:=#[t,t]})(B a n c xs)(L:f.eval so= .slice a n c)(d:Own1 e B w1 a n c xs)(x)(z:x.oneCell'=true)(hx:f.eval xo= .slice (some ⟨w1.1.size,0,none⟩) 1 1)(Q:n<=1048576)(v:bytes<=1048576)(F:B<=w1.1.size)(G:∀g r w',Own1 e B w' (some ⟨g,0,none⟩) (n+1) r (xs++[x])->Below B w1 w'->(w1.alloc (.cells #[x] e)).grownBy w' (Value.slice a n c).ownBlock->(a=some ⟨g,0,none⟩\/w1.1.size<g)->q (f.put o.dst (.slice (some ⟨g,0,none⟩) (n+1) r)) w'):
 o.wp prog f (w1.alloc (.cells #[x] e)) q O:=by
 obtain⟨i,H,A,C,D⟩:=DB T.inf;have p:=bAl w1 (.cells #[x] e);refine wp_append_lies _ so xo t K B e i N 1 bytes T.und H A C D T.cells T.pos _ n xs L (bQ d p) ⟨w1.1.size,0,none⟩ 1 1 [x] hx rfl ?_ (by intro u y;simp at y;subst y;exact z) uA (by unfold maxLen;omega) ?_ (by simp;omega) (w1.1.size+1) vo ?_
 ·intro j u I;rw[C8,wE];have:(w1.alloc (.cells #[x] e)).cell? ⟨w1.1.size,j,none⟩=#[x][j]?:=DC _ w1.1.size j _ e (0,0) (D6 w1 _);rw[this,<-I];simp
 ·have:(n+1)*bytes<=(n+1)*1048576:=A1 _ v;omega
 ·intro g s w' w m b _;refine G g s w' w ((p.mono F).trans (t7.grown m (by simp;omega) (fun k J=>(Ct (bQ d p) k J).1))) m ?_;rcases b with b|b
  ·left;rcases d.2 with⟨l,_⟩|⟨P,E,M,l,_⟩
   ·rw[l]at b;simp[Value.ownBlock]at b
   ·rw[l]at b;simp[Value.ownBlock]at b;cases l;rw[b]
  ·right;omega
theorem gW{w1}{o:Oper}{l v Q}(so xo){t e s bytes P}(T:ElT t e s P bytes)(M:o.op= .call {callee:= .builtin .append,args:=#[so,xo],argTypes:=#[t,t]})(B a n c f)(N:l.eval so= .slice a n c)(d:ORow e s B w1 a n c f)(x)(C:x.length=s)(A:∀u∈x,u.oneCell'=true)(hx:l.eval xo= .slice (some ⟨w1.1.size,0,none⟩) 1 1)(S:n<=1048576)(z:bytes<=1048576)(H:B<=w1.1.size)(I:∀g w w',ORow e s B w' (some ⟨g,0,none⟩) (n+1) w (cH f n x)->Below B w1 w'->(w1.alloc (.cells x.toArray e)).grownBy w' (Value.slice a n c).ownBlock->(a=some ⟨g,0,none⟩\/w1.1.size<g)->v (l.put o.dst (.slice (some ⟨g,0,none⟩) (n+1) w)) w'):
 o.wp prog l (w1.alloc (.cells x.toArray e)) v Q:=by
 obtain⟨i,J,D,E,F⟩:=DB T.inf;have r:=bAl w1 (.cells x.toArray e);refine wp_append_lies _ so xo t M B e i P s bytes T.und J D E F T.cells T.pos _ n (aK f n) N (bQ d r) ⟨w1.1.size,0,none⟩ 1 1 x hx (by rw[C,x6]) ?_ A uA (by unfold maxLen;omega) ?_ (by simp;omega) (w1.1.size+1) vo ?_
 ·intro j u K;rw[C8,wE];have:(w1.alloc (.cells x.toArray e)).cell? ⟨w1.1.size,j,none⟩=x.toArray[j]?:=DC _ w1.1.size j _ e (0,0) (D6 w1 _);rw[this,<-K];simp
 ·have:(n+1)*bytes<=(n+1)*1048576:=A1 _ z;omega
 ·intro g y w' q p b _;rw[<-lK]at q;refine I g y w' q ((r.mono H).trans (t7.grown p (by simp;omega) (fun k L=>(Ct (bQ d r) k L).1))) p ?_;rcases b with b|b
  ·left;rcases d.2 with⟨m,_⟩|⟨R,G,O,m,_⟩
   ·rw[m]at b;simp[Value.ownBlock]at b
   ·rw[m]at b;simp[Value.ownBlock]at b;cases m;rw[b]
  ·right;omega
theorem Own1.grown{e B o r w w' a b n c k j xs m}(h:Own1 e B w a n c xs)(s:Own1 r o w b k j m)(t:w.grownBy w' (Value.slice b k j).ownBlock)(l:∀g,b=some ⟨g,0,none⟩->a≠some ⟨g,0,none⟩):Own1 e B w' a n c xs:=by
 refine World.ownsRow.kept h t ?_;rcases h.2 with⟨d,_⟩|⟨g,u,v,d,_⟩
 ·left;rw[d];rfl
 ·right;intro i;cases d;rcases s.2 with⟨f,_⟩|⟨x,p,q,f,_⟩
  ·cases f;simp[Value.ownBlock]at i
  ·cases f;simp[Value.ownBlock]at i;subst i;exact l _ rfl rfl
theorem Own1.lt{e B w a n c xs}(h:Own1 e B w a n c xs){g}(d:a=some ⟨g,0,none⟩):g<w.1.size:=by
 rcases h.2 with⟨b,_⟩|⟨k,i,j,b,_,f,_⟩
 ·cases b;cases d
 ·cases b;cases d;exact(wy.1 f).1
theorem ey{t e bytes a}(T:ElT t e 1 a bytes)(x)(hx:x.cells=#[x])(w):
 (Instr.buildSlice t 1 #[(0,x)]).run prog w= .ok (.slice (some ⟨w.1.size,0,none⟩) 1 1) (w.alloc (.cells #[x] e)):=fq T uA x [x] (by rw[hx]) rfl w
def low:List Int->Int
 |[]=>0
 |x::t=>x+256*low t
theorem mX{x t}(h:IsB (x::t)):IsB t:=fun i=>by have:=h (i+1);simpa using this
theorem mY{x t}(h:IsB (x::t)):0<=x/\x<256:=by have:=h 0;simpa using this
theorem gX:∀{l:List Int},IsB l->0<=low l/\low l<256^l.length
 |[],_=>by simp[low]
 |x::t,h=>by
  have a:=gX (mX h);have b:=mY h;have e:(256:Int)^(x::t).length=256*256^t.length:=by rw[w8,Int.pow_succ];omega
  rw[e];simp only[low];omega
theorem pU(v):∀k,num v (k+1)=v%256::num (v/256) k
 |0=>by simp[num]
 |k+1=>by
  have e:v/256^(k+1)=v/256/256^k:=by rw[Int.pow_succ,Int.mul_comm,<-Int.ediv_ediv_of_nonneg uA]
  rw[mO,pU v k,mO (v/256) k,z1,e]
theorem tO:∀{l:List Int},IsB l->num (low l) l.length=l
 |[],_=>rfl
 |x::t,h=>by
  have a:=mY h;rw[w8,pU];simp only[low];rw[show(x+256*low t)%256=x by omega,show(x+256*low t)/256=low t by omega,tO (mX h)]
theorem pV:∀(k:Nat)(v:Int),0<=v->v<256^k->low (num v k)=v
 |0,v,b,a=>by simp[num,low];simp at a;omega
 |k+1,v,b,a=>by
  rw[pU];simp only[low];have e:(256:Int)^(k+1)=256*256^k:=by rw[Int.pow_succ];omega
  rw[pV k (v/256) uA uA];omega
theorem mZ(l:List Int)(i)(h:i<l.length):low (l.drop i)=l.getD i 0+256*low (l.drop (i+1)):=by
 rw[yv h];simp[low,List.getD_eq_getElem?_getD,h]
theorem j0{l}(h:IsB l)(k):IsB (l.drop k):=fun i=>by
 have:=h (k+i);simpa [List.getD_eq_getElem?_getD,List.getElem?_drop]using this
def sl(a b:ByteArray):Bool:=Op.bytesLess a.toList b.toList
theorem pW:∀x:List UInt8,Op.bytesLess x x=false
 |[]=>rfl
 |a::x=>by simp[Op.bytesLess,pW x]
theorem tP:∀{x y f:List UInt8},Op.bytesLess x y=true->Op.bytesLess y f=true->Op.bytesLess x f=true
 |x,[],f,h,_=>by cases x<;>simp[Op.bytesLess]at h
 |x,b::y,[],_,h=>by simp[Op.bytesLess]at h
 |[],b::y,c::f,_,_=>by simp[Op.bytesLess]
 |a::x,b::y,c::f,e,d=>by
  simp only[Op.bytesLess,Bool.or_eq_true,D3,wX,beq_iff_eq]at e d ⊢;rcases e with e|⟨rfl,e⟩
  ·rcases d with d|⟨rfl,d⟩
   ·exact v7 (UInt8.lt_trans e d)
   ·exact v7 e
  ·rcases d with d|⟨rfl,d⟩
   ·exact v7 d
   ·exact v6 ⟨rfl,tP e d⟩
theorem pX:∀{x y:List UInt8},Op.bytesLess x y=false->Op.bytesLess y x=false->x=y
 |[],[],_,_=>rfl
 |[],b::y,h,_=>by simp[Op.bytesLess]at h
 |a::x,[],_,h=>by simp[Op.bytesLess]at h
 |a::x,b::y,c,d=>by
  simp only[Op.bytesLess,Bool.or_eq_false_iff,decide_eq_false_iff_not,Bool.and_eq_false_iff,D2]at c d;have e:a=b:=by
   have f:=UInt8.not_lt.1 c.1;have g:=UInt8.not_lt.1 d.1;exact UInt8.le_antisymm g f
  subst e;rw[pX (x:=x) (y:=y) (by rcases c.2 with h|h;exact absurd rfl h;exact h) (by rcases d.2 with h|h;exact absurd rfl h;exact h)]
theorem pY{a b:ByteArray}(h:a.toList=b.toList):a=b:=by
 rw[ByteArray.toList_eq,ByteArray.toList_eq]at h;obtain⟨⟨x⟩⟩:=a;obtain⟨⟨y⟩⟩:=b;have:x=y:=h;rw[this]
theorem lO(a):sl a a=false:=pW _
theorem iq{a b c}(d:sl a b=true)(e:sl b c=true):sl a c=true:=tP d e
theorem tQ{a b}(c:sl a b=false)(d:sl b a=false):a=b:=pY (pX c d)
def sle(a b:ByteArray):Bool:= !sl b a
theorem jf{a b c}(d:sle a b=true)(f:sle b c=true):sle a c=true:=by
 unfold sle at*;simp only[Bool.not_eq_true']at*;cases h:sl c a with
 |false=>rfl
 |true=>
  cases e:sl b c with
  |true=>exact absurd (iq e h) (by rw[d];decide)
  |false=>
   obtain rfl:=tQ e f;exact absurd h (by rw[d];decide)
theorem m6{a b}(h:sl a b=true):sle a b=true:=by
 unfold sle;cases c:sl b a with
 |false=>rfl
 |true=>exact absurd (iq h c) (by rw[lO];decide)
theorem tR{a b c}(d:sl a b=true)(e:sle b c=true):sl a c=true:=by
 cases f:sl a c with
 |true=>rfl
 |false=>
  have g:sle c a=true:=by unfold sle;rw[f];rfl
  have:=jf e g;unfold sle at this;rw[d]at this;exact absurd this uB
theorem Am{a b c}(d:sle a b=true)(e:sl b c=true):sl a c=true:=by
 cases f:sl a c with
 |true=>rfl
 |false=>
  have g:sle c a=true:=by unfold sle;rw[f];rfl
  have:=jf g d;unfold sle at this;rw[e]at this;exact absurd this uB
def lfK(l:List Int):Nat:=(l.getD 0 0).toNat
def lfV(l:List Int):Nat:=(l.getD (1+lfK l) 0).toNat
def ee(l:List Int):Bool:=decide (1<=lfK l/\lfK l<=40/\1+lfK l<l.length/\lfV l<=70/\2+lfK l+lfV l<=l.length)
theorem gI{l}:ee l=true↔1<=lfK l/\lfK l<=40/\1+lfK l<l.length/\lfV l<=70/\2+lfK l+lfV l<=l.length:=by unfold ee;rw[decide_eq_true_iff]
def fu(l:List Int):Nat:=2+lfK l+lfV l
def cU(l:List Int):ByteArray:=strOfNums ((l.drop 1).take (lfK l))
def fh(l:List Int):ByteArray:=strOfNums ((l.drop (2+lfK l)).take (lfV l))
def lfP(l:List Int):Option (List (ByteArray×ByteArray)):=
 if h:l.length=0 then some []else if ee l=true then(lfP (l.drop (fu l))).map ((cU l,fh l):: ·)else none
 termination_by l.length
 decreasing_by simp[fu];omega
theorem jg{l}(h:l.length=0):lfP l=some []:=by rw[lfP];simp[h]
theorem iL{l}(h:l.length≠0)(a:ee l=false):lfP l=none:=by rw[lfP];simp[h,a]
theorem nf{l}(h:ee l=true):lfP l=(lfP (l.drop (fu l))).map ((cU l,fh l):: ·):=by
 rw[lfP,dif_neg (by have:=(gI.1 h).2.2.1;omega),B4 h]
def eJ(l:List Int):Bool:=decide (1<=lfK l/\lfK l<=40/\5+lfK l<=l.length)
theorem gJ{l}:eJ l=true↔1<=lfK l/\lfK l<=40/\5+lfK l<=l.length:=by unfold eJ;rw[decide_eq_true_iff]
def eg(l:List Int):Int:=low (l.take 4)
def lnP(l:List Int):Option (List (ByteArray×Int)):=
 if h:l.length=0 then some []else if eJ l=true then(lnP (l.drop (5+lfK l))).map ((cU l,eg (l.drop (1+lfK l))):: ·)else none
 termination_by l.length
 decreasing_by simp;omega
theorem gZ{l}(h:l.length=0):lnP l=some []:=by rw[lnP];simp[h]
theorem ji{l}(h:l.length≠0)(a:eJ l=false):lnP l=none:=by rw[lnP];simp[h,a]
theorem j4{l}(h:eJ l=true):lnP l=(lnP (l.drop (5+lfK l))).map ((cU l,eg (l.drop (1+lfK l))):: ·):=by
 rw[lnP,dif_neg (by have:=(gJ.1 h).2.2;omega),B4 h]
def inP(l:List Int):Option (List (ByteArray×Int)):=if 4<=l.length then(lnP (l.drop 4)).map ((strOfNums [],eg l):: ·)else none
inductive Tr where
 |leaf (id:Int) (es:List (ByteArray×ByteArray))
 |node (id:Int) (ks:Tr)
 |nil
 |cons (s:ByteArray) (t:Tr) (ks:Tr)
structure Pg where
 kd:Int->Int
 bd:Int->List Int
 ok:Int->Bool
structure St where
 seen:List Int
 tall:Int
def rdK(r:St->Int->Option (Tr×St)):List (ByteArray×Int)->St->Option (Tr×St)
 |[],st=>some (.nil,st)
 |(s,id)::ls,st=>(r st id).bind fun x=>(rdK r ls x.2).bind fun y=>some (.cons s x.1 y.1,y.2)
def dQ(P:Pg)(st:St)(id:Int):Bool:=P.ok id&&decide (2<=id)&& !st.seen.contains id&&(P.kd id==2||P.kd id==3)
theorem fO{P a id}:dQ P a id=true↔P.ok id=true/\2<=id/\id∉a.seen/\(P.kd id=2\/P.kd id=3):=by
 simp[dQ,and_assoc]
def rdT(P:Pg):Nat->Int->St->Int->Option (Tr×St)
 |0,_,_,_=>none
 |f+1,steps,st,id=>
  if dQ P st id=true then
   if P.kd id=2 then
    if st.tall<0\/st.tall=steps then(lfP (P.bd id)).bind fun es=>if es.isEmpty then none else some (.leaf id es,⟨id::st.seen,steps⟩)else none
   else(inP (P.bd id)).bind fun ls=>(rdK (rdT P f (steps+1)) ls ⟨id::st.seen,st.tall⟩).map fun y=>(.node id y.1,y.2)
  else none
theorem bM:ElT 174 9 1 (.string (strOfNums [])) 16:=⟨underlying174,vk,rfl,uA⟩
theorem co:ElT 100 3 1 (.int .i64 0) 8:=⟨underlying100,vk,rfl,uA⟩
def os(l:List ByteArray):List Value:=l.map Value.string
def on(l:List Int):List Value:=l.map (Value.int .i64)
theorem jm(l m):os l++os m=os (l++m):=by simp[os]
theorem fv(l m):on l++on m=on (l++m):=by simp[on]
theorem An(l):(os l).length=l.length:=by simp[os]
theorem lP(l):(on l).length=l.length:=by simp[on]
theorem eh(l i)(h:i<l.length):(os l).getD i undef= .string (l.getD i (strOfNums [])):=by simp[os,List.getD,h]
theorem cF(l i)(h:i<l.length):(on l).getD i undef= .int .i64 (l.getD i 0):=by simp[on,List.getD,h]
theorem tS(l i x):(on l).set i (.int .i64 x)=on (l.set i x):=by simp[on,List.map_set]
structure NdV where
 ka:Option Addr
 kc:Nat
 va:Option Addr
 vc:Nat
 da:Option Addr
 dc:Nat
 sa:Option Addr
 sc:Nat
structure NdK where
 page:Int
 leaf:Bool
 keys:List ByteArray
 vals:List ByteArray
 kids:List Int
 signs:List ByteArray
def ndc(v:NdV)(K:NdK):List Value:=[.int .i64 K.page,.bool K.leaf,.slice v.ka K.keys.length v.kc,.slice v.va K.vals.length v.vc,.slice v.da K.kids.length v.dc,.slice v.sa K.signs.length v.sc]
def aF:NdV:=⟨none,0,none,0,none,0,none,0⟩
structure ONd(B:Nat)(w:World)(v:NdV)(K:NdK):Prop where
 keys:Own1 9 B w v.ka K.keys.length v.kc (os K.keys)
 vals:Own1 9 B w v.va K.vals.length v.vc (os K.vals)
 kids:Own1 3 B w v.da K.kids.length v.dc (on K.kids)
 signs:Own1 9 B w v.sa K.signs.length v.sc (os K.signs)
theorem ONd.below{B w w' v K}(h:ONd B w v K)(a:Below w.1.size w w'):ONd B w' v K:=⟨h.keys.below a,h.vals.below a,h.kids.below a,h.signs.below a⟩
theorem ONd.mono{B B' w v K}(h:ONd B w v K)(a:B'<=B):ONd B' w v K:=⟨h.keys.mono a,h.vals.mono a,h.kids.mono a,h.signs.mono a⟩
theorem ONd.keep{B w w' v K}(h:ONd B w v K)(a:KeepT 9 w w')(b:KeepT 3 w w'):ONd B w' v K:=⟨h.keys.keep a,h.vals.keep a,h.kids.keep b,h.signs.keep a⟩
theorem tU(B w p b):ONd B w aF ⟨p,b,[],[],[],[]⟩:=⟨cQ _ _ _,cQ _ _ _,cQ _ _ _,cQ _ _ _⟩
theorem aD:(prog.info? 176).map (·.size)=some 6:=vk
theorem cy(v K):(ndc v K).toArray.all (·.oneCell')=true:=by
 rw[Array.all_eq_true_iff_forall_mem];intro x hx;simp[ndc]at hx;rcases hx with rfl|rfl|rfl|rfl|rfl|rfl<;>rfl
structure R1(e:Nat)(w:World)(a:Option Addr)(n c:Nat)(xs:List Value):Prop where
 len:xs.length=n
 le:n<=c
 le':c<=maxLen
 nil:a=none->c=0
 one:∀u∈xs,u.oneCell'=true
 at_:0<n->∃b off,a=some ⟨b,off,none⟩/\(∃cs fr,w.heap[b]?=some (.cells cs e fr))/\∀i,i<n->w.cell? ⟨b,off+i,none⟩=some (xs.getD i undef)
theorem R1.keep{e w w' a n c xs}(h:R1 e w a n c xs)(m:KeepT e w w'):R1 e w' a n c xs:=
 ⟨h.len,h.le,h.le',h.nil,h.one,fun o=>by
  obtain⟨b,g,j,⟨cs,fr,f⟩,k⟩:=h.at_ o;have d:=m.block b cs fr f;refine⟨b,g,j,⟨cs,fr,d⟩,fun i l=> ?_⟩;rw[<-k i l,DC w b _ cs e fr f,DC w' b _ cs e fr d]⟩
theorem R1.below{e w w' a n c xs}(h:R1 e w a n c xs)(b:Below w.1.size w w'):R1 e w' a n c xs:=h.keep (aV b)
theorem gh(e w):R1 e w none 0 0 []:=⟨rfl,t6,wa _,fun _=>rfl,fun u a=>by simp at a,fun h=>by omega⟩
theorem Own1.r1{e B w a n c xs}(h:Own1 e B w a n c xs)(j:∀u∈xs,u.oneCell'=true):R1 e w a n c xs:=
 ⟨h.len,h.le.1,h.le.2,(fun b=>by
  subst b;rcases h.2 with⟨d,_⟩|⟨g,p,f,d,_⟩
  ·cases d;rfl
  ·cases d),j,fun o=>by
  obtain⟨g,b,_,_,⟨f,l⟩,k⟩:=h.at_ o;exact⟨g,0,b,⟨_,_,l⟩,fun i m=>by rw[wE];exact k i m⟩⟩
theorem dR(l):∀u∈os l,u.oneCell'=true:=by intro u a;obtain⟨x,_,rfl⟩:=x7.1 a;rfl
theorem fw(l):∀u∈on l,u.oneCell'=true:=by intro u a;obtain⟨x,_,rfl⟩:=x7.1 a;rfl
theorem R1.get{e w a n c xs}(h:R1 e w a n c xs){i}(j:i<n):∃b d,a=some ⟨b,d,none⟩/\w.cell? ⟨b,d+i,none⟩=some (xs.getD i undef):=by
 obtain⟨b,d,f,_,g⟩:=h.at_ uA;exact⟨b,d,f,g i j⟩
theorem ng{a:Type}(l:List a)(i j d):(l.drop i).getD j d=l.getD (i+j) d:=by simp[List.getD_eq_getElem?_getD]
theorem Ao{a:Type}(l:List a)(i j d)(h:j<i):(l.take i).getD j d=l.getD j d:=by simp[List.getD_eq_getElem?_getD,h]
theorem R1.take{e w a n c xs}(h:R1 e w a n c xs){j}(m:j<=n):R1 e w a j c (xs.take j):=
 ⟨by rw[wR,h.len];omega,wg m h.le,h.le',h.nil,fun u o=>h.one u (List.mem_of_mem_take o),fun p=>by
  obtain⟨b,d,f,g,k⟩:=h.at_ uA;exact⟨b,d,f,g,fun i l=>by rw[Ao _ _ _ _ l];exact k i uA⟩⟩
theorem R1.drop{e w a n c xs}(h:R1 e w a n c xs){i}(m:i<=n):R1 e w (if c=i then a else a.map (·.add i)) (n-i) (c-i) (xs.drop i):=
 ⟨by rw[wi,h.len],by have:=h.le;omega,by have:=h.le';omega,(fun d=>by
  split at d
  ·omega
  ·cases a with
   |none=>have:=h.nil rfl;omega
   |some x=>cases d),fun u l=>h.one u (List.mem_of_mem_drop l),fun p=>by
  obtain⟨b,f,d,g,k⟩:=h.at_ uA;have:=h.le;subst d;refine⟨b,f+i,by rw[CH uA,Option.map_some,C8],g,fun j o=> ?_⟩;rw[ng,Nat.add_assoc];exact k (i+j) uA⟩
theorem Ap{t e bytes p}(T:ElT t e 1 p bytes)(w a n c j)(g:j<=c):(Instr.sliceAt t (.slice a n c) none (some (.int .i64 (j:Int))) none).run prog w= .ok (.slice a j c) w:=by
 obtain⟨i,f,k,l,m⟩:=DB T.inf;have hA:(Option.map (fun x:Addr=>x.add 0) a)=a:=by cases a with|none=>rfl|some x=>obtain⟨b,o,q⟩:=x;cases q<;>rfl
 have d:(if c=0 then a else Option.map (fun x:Addr=>x.add 0) a)=a:=by rw[hA];split<;>rfl
 simp[Instr.sliceAt,Instr.slice,Instr.sliceBounds,Instr.sliceBound,asIntOf,Sem.run_bind,run_underlying T.und w,sizeOf,typeInfo,f,g,d]
theorem tV{t e bytes l}(T:ElT t e 1 l bytes)(w a n c i)(b:i<=n):(Instr.sliceAt t (.slice a n c) (some (.int .i64 (i:Int))) none none).run prog w= .ok (.slice (if c=i then a else a.map (·.add i)) (n-i) (c-i)) w:=by
 obtain⟨k,f,g,d,j⟩:=DB T.inf;simp[Instr.sliceAt,Instr.slice,Instr.sliceBounds,Instr.sliceBound,asIntOf,Sem.run_bind,run_underlying T.und w,sizeOf,typeInfo,f,b,d]
theorem nh{w b rest o a j}(c:o.guard=none){t x e d}(i:o.op= .slice t x e d none){v}(h:(Instr.sliceAt t (a.eval x) (e.map a.eval) (d.map a.eval) none).run prog w= .ok v w)(g:wpList prog b j rest (a.put o.dst v) w):wpList prog b j (o::rest) a w:=
 DR c fun _ f=>by
  unfold Oper.wp execOp;simp only[i,Option.map_none,CT,h,DI,C2];exact f _ _ g
theorem iM{w d rest o b q t e bytes r}(T:ElT t e 1 r bytes){a n c xs}(h:R1 e w a n c xs){x y j}(k:j<=n)(i:o.guard=none)(m:o.op= .slice t x none (some y) none)(hx:b.eval x= .slice a n c)(p:b.eval y= .int .i64 (j:Int))(l:∀f g,R1 e w f j g (xs.take j)->wpList prog d q rest (b.put o.dst (.slice f j g)) w):wpList prog d q (o::rest) b w:=
 nh i m (by rw[hx,Option.map_some,p];exact Ap T w a n c j (by have:=h.le;omega)) (l _ _ (h.take k))
theorem ni{w d rest o b q t e bytes r}(T:ElT t e 1 r bytes){a n c xs}(h:R1 e w a n c xs){x y i}(k:i<=n)(j:o.guard=none)(m:o.op= .slice t x (some y) none none)(hx:b.eval x= .slice a n c)(p:b.eval y= .int .i64 (i:Int))(l:∀f g,R1 e w f (n-i) g (xs.drop i)->wpList prog d q rest (b.put o.dst (.slice f (n-i) g)) w):wpList prog d q (o::rest) b w:=
 nh j m (by rw[hx,Option.map_some,p];exact tV T w a n c i k) (l _ _ (h.drop k))
theorem iN{w}{o:Oper}{l y ac}(so xo){t e bytes ab}(T:ElT t e 1 ab bytes)(I:o.op= .call {callee:= .builtin .append,args:=#[so,xo],argTypes:=#[t,t]}){B a n c xs}(J:l.eval so= .slice a n c)(f:Own1 e B w a n c xs){b m d v}(hx:l.eval xo= .slice b m d)(g:R1 e w b m d v)(af:n+m<=1048576)(D:bytes<=1024)(A:B<=w.1.size)(E:∀p q w',Own1 e B w' p (n+m) q (xs++v)->Below B w w'->w.grownBy w' (Value.slice a n c).ownBlock->y (l.put o.dst (.slice p (n+m) q)) w'):
 o.wp prog l w y ac:=by
 obtain⟨i,F,K,L,M⟩:=DB T.inf;have C:∀w',w.grownBy w' (Value.slice a n c).ownBlock->Below B w w':=fun w' S=>t7.grown S A (fun k U=>(Ct f k U).1);cases b with
 |none=>
  have R:=g.nil rfl;have V:m=0:=by have:=g.le;omega
  subst V;obtain rfl:v=[]:=y3 g.len;subst R;have x:=run_append_owned_none (P:=prog) (w:=w) B t o.type e i 1 T.und F _ _ _ f;have s:=E a c w (by rw[wP];exact f) t7 ⟨rfl,rfl,rfl,t6,fun _ _ _=>rfl⟩;unfold Oper.wp;simp only[execOp,I,resolve,invoke,builtin,CT,C2,DI,wB,ws,wz,J,hx,x];exact s
 |some N=>
  refine wp_append_own _ so xo t I B e i ab 1 bytes T.und F K L M T.cells T.pos _ n xs J f N m d v hx (by rw[g.len,Nat.mul_one]) ?_ g.one (by unfold maxLen;omega) ?_ A ?_
  ·intro j u G;have H:j<m:=by have:=(wC.1 G).1;rw[g.len]at this;exact this
   obtain⟨ad,Z,r,_,Q⟩:=g.at_ uA;cases r;rw[C8,Q j H,yc,G]
   rfl
  ·have:(n+m)*bytes<=(n+m)*1024:=A1 _ D;omega
  ·intro v' w' z s _;have W:∃p q,v'= .slice p (n+m) q:=by
    rcases z.2 with⟨r,O⟩|⟨ae,X,Y,r,_⟩
    ·have:=O;exact⟨none,0,by rw[r,this]⟩
    ·exact⟨_,_,r⟩
   obtain⟨p,q,rfl⟩:=W;exact E p q w' z (C w' s) s
theorem ir{w j rest o f E so xo t e bytes F}(T:ElT t e 1 F bytes){B a n c xs}(k:Own1 e B w a n c xs){b m d q}(C:R1 e w b m d q)(z:n+m<=1048576)(l:bytes<=1024)(v:B<=w.1.size)(p:o.guard=none)(A:o.op= .call {callee:= .builtin .append,args:=#[so,xo],argTypes:=#[t,t]})(D:f.eval so= .slice a n c)(hx:f.eval xo= .slice b m d)(y:∀g i w',Own1 e B w' g (n+m) i (xs++q)->Below B w w'->w.grownBy w' (Value.slice a n c).ownBlock->wpList prog j E rest (f.put o.dst (.slice g (n+m) i)) w'):
 wpList prog j E (o::rest) f w:=
 DR p fun _ x=>iN so xo T A D k hx C z l v fun g i w' r s u=>x _ _ (y g i w' r s u)
theorem jn{w a n c l}(h:Bs w a n c l):(convert 56 9 (.slice a n c)).run prog w= .ok (.string (strOfNums l)) w:=by
 rcases Nat.eq_zero_or_pos n with h0|hp
 ·have i:=y3 (by rw[h.len_eq];exact h0);subst i;cases a with
  |none=>exact run_convert_bytes_nil w 56 5 underlying56 D0 n c _ D7
  |some d=>
   subst h0;rw[run_convert_bytes_string w _ _ 5 _ 0 c underlying56 D0 D7,run_bytesToString w d 0 c [] (by have:=run_loadCells_list (P:=prog) w d [] (fun j v g=>by simp at g);simpa using this)]
   rfl
 ·obtain⟨b,e,rfl,_,f⟩:=h.at_ hp;exact run_convert_bytes_arg w 56 5 underlying56 D0 b e n c l h.len_eq f _ D7
