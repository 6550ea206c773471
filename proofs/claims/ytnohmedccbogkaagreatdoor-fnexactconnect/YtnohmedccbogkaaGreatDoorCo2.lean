import Derived.Test.YtnohmedccbogkaaGreatDoorCo1
import Derived.Lib.LaidU8
import Derived.OpenVars
import Derived.LaidHandle
import Derived.MakeChecks
import Derived.DeepKeys4
import Derived.Lib.AppendZeros
namespace Go.Proofs.YtnohmedccbogkaaGreatDoor
open Go.Proofs.Tryz
open Go.RowKit Go.ChangeShapes Go.WideShapes
set_option linter.unusedVariables false
set_option maxRecDepth 100000
set_option maxHeartbeats 32000000
theorem rk:(prog.info? 3).map (fun i=>(i.zero,i.size,i.bytes))=some (some (.int .i64 0),1,8):=kO
def oi(l:List Int):List Value:=l.map (Value.int .i64)
theorem vq?(l:List Int)(j:Nat)(h:j<l.length):(oi l)[j]?=some (.int .i64 (l.getD j 0)):=by simp[oi,List.getD,h]
theorem vr(l):∀a∈oi l,a.oneCell'=true:=ints_oneCell .i64 l
theorem DY(l i x):(oi l).set i (.int .i64 x)=oi (l.set i x):=by simp[oi,List.map_set]
def OwnI(B:Nat)(w:World)(a:Option Addr)(n c:Nat)(l:List Int):Prop:=w.ownsRow B 3 1 (.slice a n c) n (oi l)
theorem OwnI.len{B w a n c l}(h:OwnI B w a n c l):l.length=n:=by
 have:=h.1;simpa [oi]using this
theorem OwnI.below{B w w' a n c l}(h:OwnI B w a n c l)(b:Below w.1.size w w'):OwnI B w' a n c l:=cj h b
theorem OwnI.mono{B b w a n c l}(h:OwnI B w a n c l)(d:b<=B):OwnI b w a n c l:=World.ownsRow.mono h d
theorem OwnI.addr{B w a n c l}(h:OwnI B w a n c l)(k:0<n):∃g,a=some ⟨g,0,none⟩/\B<=g/\g<w.1.size:=by
 rcases h.2 with⟨_,j⟩|⟨g,f,i,e,b,d,_⟩
 ·omega
 ·cases e;exact⟨g,rfl,b,(k6.1 d).1⟩
theorem OwnI.cell{B g w n c l}(h:OwnI B w (some ⟨g,0,none⟩) n c l)(i)(a:i<n):w.cell? ⟨g,i,none⟩=some (.int .i64 (l.getD i 0)):=by
 rw[sD h i kH];exact vq? l i (by have:=h.len;omega)
theorem mF(w:World)(cs l n)(a:cs.toList=oi l)(c:l.length=n)(h:n<=1048576)(B)(b:B<=w.1.size):OwnI B (w.alloc (.cells cs 3)) (some ⟨w.1.size,0,none⟩) n n l:=by
 have:=World.ownsRow_lit (base:=B) (e:=3) (size:=1) w cs n b (by unfold maxLen;omega) (by rw[<-Array.length_toList,a];simp[oi];omega);unfold OwnI;rw[<-a];exact this
theorem vu{w1}{o:Oper}{b q I}(s x)(D:o.op= .call {callee:= .builtin .append,args:=#[s,x],argTypes:=#[119,119]})(B a n c xs)(E:b.eval s= .slice a n c)(m:OwnI B w1 a n c xs)(z)(hx:b.eval x= .slice (some ⟨w1.1.size,0,none⟩) 1 1)(K:n<=1048576)(w:B<=w1.1.size)(h:∀d f w',OwnI B w' d (n+1) f (xs++[z])->Below B w1 w'->q (b.put o.dst (.slice d (n+1) f)) w'):
 o.wp prog b (w1.alloc (.cells #[.int .i64 z] 3)) q I:=by
 obtain⟨i,y,t,u,v⟩:=sk rk;have p:=bAl w1 (.cells #[.int .i64 z] 3);refine wp_append_own _ s x _ D B 3 i _ 1 8 sS y t u v rfl kH _ n (oi xs) E (cj m p) ⟨w1.1.size,0,none⟩ 1 1 (oi [z]) hx (by simp[oi]) ?_ (vr _) (by unfold maxLen;omega) kH (by simp;omega) ?_
 ·intro j L A;rw[sj,ld];have:(w1.alloc (.cells #[.int .i64 z] 3)).cell? ⟨w1.1.size,j,none⟩=(#[Value.int .i64 z]:Array Value)[j]?:=so _ w1.1.size j _ 3 (0,0) (s2 w1 _);rw[this,<-A];simp[oi]
 ·intro v' w' l r _;have e:oi xs++oi [z]=oi (xs++[z]):=by simp[oi]
  rw[e]at l;have F:∃d f,v'= .slice d (n+1) f:=by
   rcases l.2 with⟨rfl,J⟩|⟨g,G,H,rfl,_⟩
   ·omega
   ·exact⟨_,_,rfl⟩
  obtain⟨d,f,rfl⟩:=F;exact h d f w' l ((p.mono w).trans (kF.grown r (by simp;omega) (fun k C=>(qX (cj m p) k C).1)))
theorem DZ{w1 d o b f r q}(j:o.guard=none)(s x)(m:o.op= .call {callee:= .builtin .append,args:=#[s,x],argTypes:=#[119,119]})(B a n c xs)(p:b.eval s= .slice a n c)(e:OwnI B w1 a n c xs)(z)(hx:b.eval x= .slice (some ⟨w1.1.size,0,none⟩) 1 1)(l:n<=1048576)(k:B<=w1.1.size)(h:∀g i w',OwnI B w' g (n+1) i (xs++[z])->Below B w1 w'->f (b.put o.dst (.slice g (n+1) i)) w'):
 if Region.wanted o (yielded d b.tmps)=true then Oper.wp prog o b (w1.alloc (.cells #[.int .i64 z] 3)) f r else q:=by
 rw[qb (show Region.wanted o (yielded d b.tmps)=true by simp[Region.wanted,j])];exact vu s x m B a n c xs p e z hx l k h
theorem D4{w1 f rest o b t}(i:o.guard=none)(s x)(q:o.op= .call {callee:= .builtin .append,args:=#[s,x],argTypes:=#[119,119]})(B a n c xs)(r:b.eval s= .slice a n c)(g:OwnI B w1 a n c xs)(z)(hx:b.eval x= .slice (some ⟨w1.1.size,0,none⟩) 1 1)(p:n<=1048576)(l:B<=w1.1.size)(h:∀d e w',OwnI B w' d (n+1) e (xs++[z])->Below B w1 w'->wpList prog f t rest (b.put o.dst (.slice d (n+1) e)) w'):wpList prog f t (o::rest) b (w1.alloc (.cells #[.int .i64 z] 3)):=
 sH i fun _ m=>vu s x q B a n c xs r g z hx p l fun d e w' j k=>m _ _ (h d e w' j k)
def pc(p:List Int×Int):List Value:=ob p.1++[.int .i64 p.2]
theorem dS(p)(h:p.1.length=32):(pc p).length=33:=by simp[pc,au,h]
theorem kf(p):∀b∈pc p,b.oneCell'=true:=by
 intro b a;simp only[pc,mx,List.mem_singleton]at a;rcases a with a|rfl
 ·exact ev _ b a
 ·rfl
theorem rm(p)(h:p.1.length=32)(j)(a:j<32):(pc p)[j]?=some (.int .u8 (p.1.getD j 0)):=by
 unfold pc;rw[l7 (by rw[au];omega)];exact de? _ j kH
theorem jC(p)(h:p.1.length=32):(pc p)[32]?=some (.int .i64 p.2):=by
 unfold pc;rw[m4 (by rw[au];omega),au,h]
 rfl
theorem vx(p):∀(j:Nat)(v:Value),(ob p.1)[j]?=some v->(pc p)[j]?=some v:=fun j v h=>by
 unfold pc;rw[l7 ((lb.1 h).1)];exact h
def fy:List Int×Int:=(List.replicate 32 0,0)
def dH(P:Nat->List Int×Int):Nat->List Value:=fun i=>pc (P i)
structure IsPts(P:Nat->List Int×Int)(n:Nat):Prop where
 len:∀i,i<n->(P i).1.length=32
 byte:∀i,i<n->IsB (P i).1
theorem IsPts.row{P n}(h:IsPts P n):IsRow 33 (dH P) n:=⟨fun i a=>dS _ (h.len i a),fun i a=>kf _⟩
def eg(V:Nat->Int):Nat->List Value:=fun i=>[.int .i64 (V i)]
theorem D8(V n):IsRow 1 (eg V) n:=⟨fun i b=>rfl,fun i b c a=>by simp[eg]at a;subst a;rfl⟩
structure TxV where
 ia:Option Addr
 ic:Nat
 oa:Option Addr
 oc:Nat
structure TxK where
 ni:Nat
 P:Nat->List Int×Int
 no:Nat
 V:Nat->Int
 h:Int
def dM(v:TxV)(K:TxK):Value:= .agg #[.slice v.ia K.ni v.ic,.slice v.oa K.no v.oc,.int .i64 K.h]
structure RTx(w:World)(v:TxV)(K:TxK):Prop where
 pts:IsPts K.P K.ni
 ins:RRow w 33 v.ia K.ni v.ic (dH K.P)
 outs:RRow w 1 v.oa K.no v.oc (eg K.V)
structure OTx(B:Nat)(w:World)(v:TxV)(K:TxK):Prop where
 pts:IsPts K.P K.ni
 ins:ORow 52 33 B w v.ia K.ni v.ic (dH K.P)
 outs:ORow 3 1 B w v.oa K.no v.oc (eg K.V)
theorem RTx.below{w w' v K}(h:RTx w v K)(a:Below w.1.size w w'):RTx w' v K:=⟨h.pts,h.ins.below a,h.outs.below a⟩
theorem OTx.below{B w w' v K}(h:OTx B w v K)(a:Below w.1.size w w'):OTx B w' v K:=⟨h.pts,h.ins.below a,h.outs.below a⟩
theorem OTx.mono{B a w v K}(h:OTx B w v K)(b:a<=B):OTx a w v K:=⟨h.pts,h.ins.mono b,h.outs.mono b⟩
theorem OTx.reads{B w v K}(h:OTx B w v K):RTx w v K:=⟨h.pts,h.ins.reads h.pts.row,h.outs.reads (D8 _ _)⟩
theorem gl:(prog.info? 52).map (·.size)=some 33:=kO
theorem D9:(prog.info? 52).map (fun i=>(i.zero,i.size,i.bytes))=some (some (.agg (pc fy).toArray),33,40):=kO
theorem kh:ElT 56 52 33 (.agg (pc fy).toArray) 40:=⟨underlying56,D9,rfl,kH⟩
theorem oq:ElT 119 3 1 (.int .i64 0) 8:=⟨sS,rk,rfl,kH⟩
theorem ou(p)(h:p.1.length=32):(pc p).toArray.size=33:=by simp[dS p h]
theorem vy(p):(pc p).toArray.all (·.oneCell')=true:=by
 rw[pn];intro v a;exact kf p v (by simpa using a)
theorem vz(b j):(⟨b,0,none⟩:Addr).add j=⟨b,0+j,none⟩:=by
 unfold Addr.add;split
 ·rename_i h;subst h;rfl
 ·rfl
theorem Ea:(prog.info? 5).map (fun i=>(i.zero,i.size,i.bytes))=some (some (.int .u8 0),1,1):=kO
theorem Eb{w}{o:Oper}{f K O}(s x)(J:o.op= .call {callee:= .builtin .append,args:=#[s,x],argTypes:=#[70,70]})(b n l)(L:f.eval s= .slice (some ⟨b,0,none⟩) n n)(p:Bs w (some ⟨b,0,none⟩) n n l)(a y)(hx:f.eval x= .slice (some ⟨a,0,none⟩) 1 1)(u:Bs w (some ⟨a,0,none⟩) 1 1 [y])(I:0<n)(N:n<=1048576)(h:∀c w',Below w.1.size w w'->Bs w' (some ⟨w.1.size,0,none⟩) (n+1) c (l++[y])->K (f.put o.dst (.slice (some ⟨w.1.size,0,none⟩) (n+1) c)) w'):o.wp prog f w K O:=by
 obtain⟨i,G,E,t,F⟩:=sk Ea;have m:=p.len_eq;have D:∀j v,(ob l)[j]?=some v->w.cell? ((⟨b,0,none⟩:Addr).add j)=some v:=fun j v d=>by
  have k:j<n:=by have:=(lb.1 d).1;rw[au]at this;omega
  obtain⟨_,_,e,_,r⟩:=p.at_ I;cases e;have:=r j k;rw[de? _ j kH]at d;rw[<-d,vz];exact this
 have C:∀j v,(ob [y])[j]?=some v->w.cell? ((⟨a,0,none⟩:Addr).add j)=some v:=fun j v d=>by
  have k:j<1:=by have:=(lb.1 d).1;rw[au]at this;simpa using this
  obtain⟨_,_,e,_,r⟩:=u.at_ kH;cases e;have:=r j k;rw[de? _ j (by simpa using k)]at d;rw[<-d,vz];exact this
 have Q:=run_append_grow (P:=prog) w 70 o.type 5 i (.int .u8 0) rC G E ⟨b,0,none⟩ n n (ob l) (by rw[au,t];omega) D ⟨a,0,none⟩ 1 1 (ob [y]) (by rw[au,t];rfl) C kH kH (by
  rw[F];exact growslice_fits kH kH)
 unfold Oper.wp execOp;simp only[J,resolve,invoke,builtin,q9,r2,sr,k9,k4,k7,L,hx,Q];have z:=grownCap_ge w (n+1) n 5;have A:=grownCap_le_maxLen w (n+1) n 5 (by unfold maxLen;omega);generalize grownCap w (n+1) n 5=g at*;have M:=ao w.drew 5 ((ob l).toArray++(ob [y]).toArray++Builtin.zeroCells (Value.int .u8 0).cells (g-(n+1)));have q:Below w.1.size w (w.drew.alloc (.cells ((ob l).toArray++(ob [y]).toArray++Builtin.zeroCells (Value.int .u8 0).cells (g-(n+1))) 5)):=(show Below w.1.size w w.drew from⟨rfl,rfl,rfl,kE,fun _ _=>rfl⟩).alloc kE _;refine h _ _ q ⟨by rw[kY,m];rfl,z,A,fun e=>(by cases e),fun _=>⟨w.1.size,0,rfl,kP,fun j k=> ?_⟩,?_⟩
 ·rw[show 0+j=j by omega];have B:Blk (w.drew.alloc (.cells ((ob l).toArray++(ob [y]).toArray++Builtin.zeroCells (Value.int .u8 0).cells (g-(n+1))) 5)) 5 w.1.size ((ob l).toArray++(ob [y]).toArray++Builtin.zeroCells (Value.int .u8 0).cells (g-(n+1))).toList:=M;rw[B.cell j];have e:((ob l).toArray++(ob [y]).toArray++Builtin.zeroCells (Value.int .u8 0).cells (g-(n+1))).toList=ob (l++[y])++(Builtin.zeroCells (Value.int .u8 0).cells (g-(n+1))).toList:=by simp[ob]
  have H:(ob (l++[y])).length=n+1:=by rw[au,kY,m];rfl
  rw[e,l7 kH,de? _ j (by rw[kY,m];exact k)]
 ·exact cY p.byte u.byte
theorem Eh{w e rest o d u}(f:o.guard=none)(s x)(r:o.op= .call {callee:= .builtin .append,args:=#[s,x],argTypes:=#[70,70]})(b n l)(t:d.eval s= .slice (some ⟨b,0,none⟩) n n)(p:Bs w (some ⟨b,0,none⟩) n n l)(a y)(hx:d.eval x= .slice (some ⟨a,0,none⟩) 1 1)(m:Bs w (some ⟨a,0,none⟩) 1 1 [y])(q:0<n)(g:n<=1048576)(h:∀c w',Below w.1.size w w'->Bs w' (some ⟨w.1.size,0,none⟩) (n+1) c (l++[y])->wpList prog e u rest (d.put o.dst (.slice (some ⟨w.1.size,0,none⟩) (n+1) c)) w'):wpList prog e u (o::rest) d w:=
 sH f fun _ k=>Eb s x r b n l t p a y hx m q g fun c w' i j=>k _ _ (h c w' i j)
theorem vA{w f g n l}(h:Blk w f g (ob l))(b:l.length=n)(d:n<=1048576)(a:IsB l):Bs w (some ⟨g,0,none⟩) n n l:=
 ⟨b,kE,by unfold maxLen;omega,fun e=>(by cases e),fun _=>⟨g,0,rfl,h.lt,fun i c=>by rw[show 0+i=i by omega,h.cell i];exact de? l i kH⟩,a⟩
theorem jf(l m):strOfNums l++strOfNums m=strOfNums (l++m):=by
 apply ByteArray.ext;simp[strOfNums]
theorem ro(l n)(o:l.length=32)(m:IsB l)(j:0<=n)(k:n<256)(w):
 Calls prog 133 #[.agg (ob l).toArray,.int .i64 n] w fun e w'=>e= .returned (.string (strOfNums (l++[n])))/\Below w.1.size w w':=by
 have k0:Blk (w.alloc (.cells (ob l).toArray 32)) 32 w.1.size (ob l):=ao w 32 (ob l).toArray;have b:=bAl w (.cells (ob l).toArray 32);go_enter func133,ntmps133;go_upto_region 1 with fail
 generalize w.alloc (.cells (ob l).toArray 32)=a at*;have c:=bAl a (.cells #[.int .u8 n] 5);have g:=(vA k0 o kH m).below c;have h:=cZ a n j k;have d:Hid _:=b.trans (c.mono b.size);have f:Hid ((a.alloc (.cells #[.int .u8 n] 5)).1.size=a.1.size+1):=by show(a.alloc (.cells #[.int .u8 n] 5)).1.size= _;simp
 clear k0 b c;go_wp2_with (refine Eh rfl _ _ rfl w.1.size 32 l rfl g a.1.size n rfl h kH kH ?_;rintro r s i q;have p:=aP (n:=33) q;rw[f.out]at p);go_ret;exact⟨rfl,d.out.trans (i.mono d.out.size)⟩
def kyC(p:List Int×Int):ByteArray:=strOfNums (99::(p.1++[p.2]))
theorem rp(p)(a:p.1.length=32)(q:IsB p.1)(n:0<=p.2)(o:p.2<256)(w):
 Calls prog 92 #[.agg (pc p).toArray] w fun e w'=>e= .returned (.string (kyC p))/\Below w.1.size w w':=by
 have k0:Blk (w.alloc (.cells (pc p).toArray 52)) 52 w.1.size (pc p):=ao w 52 (pc p).toArray;have l:=bAl w (.cells (pc p).toArray 52);go_enter func92,ntmps92;go_upto_region 1 with fail
 change Code.wp _ _ _ _ (w.alloc (.cells (pc p).toArray 52));generalize w.alloc (.cells (pc p).toArray 52)=f at*;have d:=ro p.1 p.2 a q n o f;have h:∀j u,(ob p.1)[j]?=some u->f.cell? ⟨w.1.size,0+j,none⟩=some u:=fun j u k=>by
  have r:j<32:=by have:=(lb.1 k).1;rw[au]at this;omega
  rw[show 0+j=j by omega,k0.cell j,rm p a j r,<-k,de? _ j kH]
 have v:=(k0.cell 32).trans (jC p a);have s:(prog.info? 32).map (·.size)=some (ob p.1).length:=by rw[au,a];exact aJ
 have c:Hid _:=l;have m:Hid (kyC p=⟨#[99]⟩++strOfNums (p.1++[p.2])):=by
  show kyC p= _;unfold kyC;rw[show(⟨#[99]⟩:ByteArray)=strOfNums [99]from rfl,jf]
  rfl
 have i:((strOfNums (p.1++[p.2])).size:Int)=33:=by rw[rg,kY,a];rfl
 generalize strOfNums (p.1++[p.2])=t at*;have x:¬(9223372036854775807:Int)<1+(t.size:Int):=kH;clear k0 l i;go_wp2_with (refine dm rfl 32 _ rfl w.1.size 0 rfl (ob p.1) _ h qa rfl s ?_);refine d.mono ?_;rintro e w1 ⟨rfl,g⟩;have b:Hid _:=c.out.trans (g.mono c.out.size);clear d g;go_wp2_with fail;go_ret;rw[m.out];exact⟨rfl,b.out⟩
theorem rq(p)(y:p.1.length=32)(B:IsB p.1)(G:0<=p.2)(H:p.2<256)(w):
 Calls prog 68 #[.agg (pc p).toArray] w fun e w'=>e= .returned (.string (kyC p))/\Below w.1.size w w':=by
 have k0:Blk (w.alloc (.cells (pc p).toArray 52)) 52 w.1.size (pc p):=ao w 52 (pc p).toArray;have I:=bAl w (.cells (pc p).toArray 52);go_enter func68,ntmps68;go_upto_region 1 with fail
 change Code.wp _ _ _ _ (w.alloc (.cells (pc p).toArray 52));generalize w.alloc (.cells (pc p).toArray 52)=f at*;have ad:(prog.info? 32).map (·.size)=some (ob p.1).length:=by rw[au,y];exact aJ
 have o:Hid (∀z,Below f.1.size f z->(Instr.loadAt 32 (.pointer (some ⟨w.1.size,0,none⟩))).run prog z= .ok (.agg (ob p.1).toArray) z/\z.cell? ⟨w.1.size,32,none⟩=some (.int .i64 p.2)):=fun z aO=>by
  have k:=k0.below aO;refine⟨?_,(k.cell 32).trans (jC p y)⟩;simp only[Instr.loadAt,Instr.sureAddr,q9,r2,Result.andThen];refine iM z w.1.size 0 32 (ob p.1) _ (fun j v ab=> ?_) qa rfl ad;have aH:j<32:=by have:=(lb.1 ab).1;rw[au]at this;omega
  rw[show 0+j=j by omega,k.cell j,rm p y j aH,<-ab,de? _ j kH]
 have Q:Hid (kyC p=(⟨#[99]⟩++strOfNums p.1)++strOfNums [p.2]):=by
  show kyC p= _;unfold kyC;rw[show(⟨#[99]⟩:ByteArray)=strOfNums [99]from rfl,jf,jf];simp
 have K:((strOfNums p.1).size:Int)=32:=by rw[rg,y];rfl
 have L:((strOfNums [p.2]).size:Int)=1:=by rw[rg];rfl
 obtain⟨J,D⟩:∃aX,strOfNums p.1=aX:=⟨_,rfl⟩;obtain⟨ae,E⟩:∃aX,strOfNums [p.2]=aX:=⟨_,rfl⟩;rw[D]at K Q;rw[E]at L Q;have q:Hid _:=D;have i:Hid _:=E;have ac:((⟨#[99]⟩++J:ByteArray).size:Int)=33:=by
  rw[ByteArray.size_append];have:((⟨#[99]⟩:ByteArray).size:Nat)=1:=rfl;omega
 have Y:¬(9223372036854775807:Int)<1+(J.size:Int):=kH;have Z:¬(9223372036854775807:Int)<1+(J.size:Int)+(ae.size:Int):=kH;clear D E;clear K L ac k0 ad;rename_i aw W;have g:Hid (∀(z:World){af ag ah ai ak am an ap ar M N O P:Value},Below f.1.size f z->aw {tmps:=#[af,ag,.string ((⟨#[99]⟩++J)++ae),ah,ai,ak,am,an,ap,ar,M,N,O,P],defers:=[]} z):=by
  intro z af ag ah ai ak am an ap ar M N O P U;have S:Hid _:=I.trans (U.mono I.size);refine W _ _ ?_;clear I U;clear Y Z;go_wp2_with fail;go_ret;exact⟨by rw[Q.out];rfl,S.out⟩
 obtain⟨r,F⟩:∃r,r=f.drew:=⟨_,rfl⟩;have B0:Hid (Below f.1.size f r):=by show Below f.1.size f r;rw[F];exact⟨rfl,rfl,rfl,kE,fun _ _=>rfl⟩
 have u:=o.out _ B0.out;refine ay (fun z=>(Instr.loadAt 32 (.pointer (some ⟨w.1.size,0,none⟩))).run prog z= .ok (.agg (ob p.1).toArray) z/\z.cell? ⟨w.1.size,32,none⟩=some (.int .i64 p.2)) (fun k=>decide (12<=k)) kO ?_;rw[<-F];clear F I;refine aa 0 u ?_;refine aC 1 (.agg (ob p.1).toArray) u ?hyk2 ?_
 case hyk2=>exact fun z X=>bO (p:= .pointer (some ⟨w.1.size,0,none⟩)) rfl rfl X.1
 refine aa 5 u ?_;refine aa 6 u ?_;refine aa 7 u ?_;refine cI 2 8 kO rfl rfl (fun b a=> ?brk6a) (fun b a=> ?brk6b)
 case brk6a=>
  rw[qb (show Region.wanted _ _=true from rfl)];have s:=gj p.1 r y B;go_wp2_with fail;refine s.mono ?_;rintro e w1 ⟨T,V,rfl,R,x⟩;have t:=x.bs B;have m:Hid (Below f.1.size f w1):=B0.out.trans (R.mono B0.out.size);have A:=o.out _ m.out;clear s x;go_wp2_with fail;refine a.out _ _ (fun _=>A) ?_;clear a b;refine cI 3 8 kO rfl rfl (fun b a=> ?brk7a) (fun b a=> ?brk7b)
  case brk7a=>
   rw[qb (show Region.wanted _ _=true from rfl)];have c:=aP t;rw[q.out]at c;go_wp2_with fail;clear c;refine a.out _ _ (fun _=>A) ?_;clear a b;refine cI 4 8 kO rfl rfl (fun b a=> ?brk8a) (fun b a=> ?brk8b)
   case brk8a=>
    rw[qb (show Region.wanted _ _=true from rfl)];go_wp2_with fail;refine a.out _ _ (fun _=>A) ?_;clear a b;refine aj 8 fun b a=> ?_;have l:=bAl w1 (.cells #[.int .u8 p.2] 5);have n:=cZ w1 p.2 G H;go_wp2_with fail;have h:Hid (Below f.1.size f (w1.alloc (.cells #[.int .u8 p.2] 5))):=m.out.trans (l.mono m.out.size);have d:=o.out _ h.out;refine al a ?_;clear a b;generalize w1.alloc (.cells #[.int .u8 p.2] 5)=C at*;refine aj 9 fun b a=> ?_;have c:=aP n;rw[i.out]at c;go_wp2_with fail;clear c;refine al a ?_;clear a b;refine aj 10 fun b a=> ?_;go_wp2_with fail;refine al a ?_;clear a b;refine aa 11 d ?_;refine ax ?_;exact g.out _ h.out
   case brk8b=>
    rw[qb (show Region.wanted _ _=true from rfl)];have l:=bAl w1 (.cells #[.int .u8 p.2] 5);have n:=cZ w1 p.2 G H;go_wp2_with fail;have h:Hid (Below f.1.size f (w1.alloc (.cells #[.int .u8 p.2] 5))):=m.out.trans (l.mono m.out.size);have d:=o.out _ h.out;refine al a ?_;clear a b;generalize w1.alloc (.cells #[.int .u8 p.2] 5)=C at*;refine cI 4 9 kO rfl rfl (fun b a=> ?brk10a) (fun b a=> ?brk10b)
    case brk10a=>
     rw[qb (show Region.wanted _ _=true from rfl)];go_wp2_with fail;refine a.out _ _ (fun _=>d) ?_;clear a b;refine aj 9 fun b a=> ?_;have c:=aP n;rw[i.out]at c;go_wp2_with fail;clear c;refine al a ?_;clear a b;refine aj 10 fun b a=> ?_;go_wp2_with fail;refine al a ?_;clear a b;refine aa 11 d ?_;refine ax ?_;exact g.out _ h.out
    case brk10b=>
     rw[qb (show Region.wanted _ _=true from rfl)];have c:=aP n;rw[i.out]at c;go_wp2_with fail;clear c;refine al a ?_;clear a b;refine aj 4 fun b a=> ?_;go_wp2_with fail;refine al a ?_;clear a b;refine aj 10 fun b a=> ?_;go_wp2_with fail;refine al a ?_;clear a b;refine aa 11 d ?_;refine ax ?_;exact g.out _ h.out
  case brk7b=>
   rw[qb (show Region.wanted _ _=true from rfl)];have l:=bAl w1 (.cells #[.int .u8 p.2] 5);have n:=cZ w1 p.2 G H;go_wp2_with fail;have h:Hid (Below f.1.size f (w1.alloc (.cells #[.int .u8 p.2] 5))):=m.out.trans (l.mono m.out.size);have d:=o.out _ h.out;refine al a ?_;clear a b;generalize w1.alloc (.cells #[.int .u8 p.2] 5)=C at*;refine cI 3 9 kO rfl rfl (fun b a=> ?brk13a) (fun b a=> ?brk13b)
   case brk13a=>
    rw[qb (show Region.wanted _ _=true from rfl)];have c:=aP (t.below l);rw[q.out]at c;go_wp2_with fail;clear c;refine a.out _ _ (fun _=>d) ?_;clear a b;refine cI 4 9 kO rfl rfl (fun b a=> ?brk14a) (fun b a=> ?brk14b)
    case brk14a=>
     rw[qb (show Region.wanted _ _=true from rfl)];go_wp2_with fail;refine a.out _ _ (fun _=>d) ?_;clear a b;refine aj 9 fun b a=> ?_;have c:=aP n;rw[i.out]at c;go_wp2_with fail;clear c;refine al a ?_;clear a b;refine aj 10 fun b a=> ?_;go_wp2_with fail;refine al a ?_;clear a b;refine aa 11 d ?_;refine ax ?_;exact g.out _ h.out
    case brk14b=>
     rw[qb (show Region.wanted _ _=true from rfl)];have c:=aP n;rw[i.out]at c;go_wp2_with fail;clear c;refine al a ?_;clear a b;refine aj 4 fun b a=> ?_;go_wp2_with fail;refine al a ?_;clear a b;refine aj 10 fun b a=> ?_;go_wp2_with fail;refine al a ?_;clear a b;refine aa 11 d ?_;refine ax ?_;exact g.out _ h.out
   case brk13b=>
    rw[qb (show Region.wanted _ _=true from rfl)];have c:=aP n;rw[i.out]at c;go_wp2_with fail;clear c;refine al a ?_;clear a b;refine aj 3 fun b a=> ?_;have c:=aP (t.below l);rw[q.out]at c;go_wp2_with fail;clear c;refine al a ?_;clear a b;refine aj 4 fun b a=> ?_;go_wp2_with fail;refine al a ?_;clear a b;refine aj 10 fun b a=> ?_;go_wp2_with fail;refine al a ?_;clear a b;refine aa 11 d ?_;refine ax ?_;exact g.out _ h.out
 case brk6b=>
  rw[qb (show Region.wanted _ _=true from rfl)];have R:=bAl r (.cells #[.int .u8 p.2] 5);have n:=cZ r p.2 G H;go_wp2_with fail;have m:Hid (Below f.1.size f (r.alloc (.cells #[.int .u8 p.2] 5))):=B0.out.trans (R.mono B0.out.size);have A:=o.out _ m.out;refine al a ?_;clear a b;generalize r.alloc (.cells #[.int .u8 p.2] 5)=w1 at*;refine cI 2 9 kO rfl rfl (fun b a=> ?brk18a) (fun b a=> ?brk18b)
  case brk18a=>
   rw[qb (show Region.wanted _ _=true from rfl)];have s:=gj p.1 w1 y B;go_wp2_with fail;refine s.mono ?_;rintro e C ⟨T,V,rfl,l,x⟩;have t:=x.bs B;have h:Hid (Below f.1.size f C):=m.out.trans (l.mono m.out.size);have d:=o.out _ h.out;clear s x;go_wp2_with fail;refine a.out _ _ (fun _=>d) ?_;clear a b;refine cI 3 9 kO rfl rfl (fun b a=> ?brk19a) (fun b a=> ?brk19b)
   case brk19a=>
    rw[qb (show Region.wanted _ _=true from rfl)];have c:=aP t;rw[q.out]at c;go_wp2_with fail;clear c;refine a.out _ _ (fun _=>d) ?_;clear a b;refine cI 4 9 kO rfl rfl (fun b a=> ?brk20a) (fun b a=> ?brk20b)
    case brk20a=>
     rw[qb (show Region.wanted _ _=true from rfl)];go_wp2_with fail;refine a.out _ _ (fun _=>d) ?_;clear a b;refine aj 9 fun b a=> ?_;have c:=aP (n.below l);rw[i.out]at c;go_wp2_with fail;clear c;refine al a ?_;clear a b;refine aj 10 fun b a=> ?_;go_wp2_with fail;refine al a ?_;clear a b;refine aa 11 d ?_;refine ax ?_;exact g.out _ h.out
    case brk20b=>
     rw[qb (show Region.wanted _ _=true from rfl)];have c:=aP (n.below l);rw[i.out]at c;go_wp2_with fail;clear c;refine al a ?_;clear a b;refine aj 4 fun b a=> ?_;go_wp2_with fail;refine al a ?_;clear a b;refine aj 10 fun b a=> ?_;go_wp2_with fail;refine al a ?_;clear a b;refine aa 11 d ?_;refine ax ?_;exact g.out _ h.out
   case brk19b=>
    rw[qb (show Region.wanted _ _=true from rfl)];have c:=aP (n.below l);rw[i.out]at c;go_wp2_with fail;clear c;refine al a ?_;clear a b;refine aj 3 fun b a=> ?_;have c:=aP t;rw[q.out]at c;go_wp2_with fail;clear c;refine al a ?_;clear a b;refine aj 4 fun b a=> ?_;go_wp2_with fail;refine al a ?_;clear a b;refine aj 10 fun b a=> ?_;go_wp2_with fail;refine al a ?_;clear a b;refine aa 11 d ?_;refine ax ?_;exact g.out _ h.out
  case brk18b=>
   rw[qb (show Region.wanted _ _=true from rfl)];have c:=aP n;rw[i.out]at c;go_wp2_with fail;clear c;refine al a ?_;clear a b;refine aj 2 fun b a=> ?_;have s:=gj p.1 w1 y B;go_wp2_with fail;refine s.mono ?_;rintro e C ⟨T,V,rfl,l,x⟩;have t:=x.bs B;have h:Hid (Below f.1.size f C):=m.out.trans (l.mono m.out.size);have d:=o.out _ h.out;clear s x;go_wp2_with fail;refine al a ?_;clear a b;refine aj 3 fun b a=> ?_;have c:=aP t;rw[q.out]at c;go_wp2_with fail;clear c;refine al a ?_;clear a b;refine aj 4 fun b a=> ?_;go_wp2_with fail;refine al a ?_;clear a b;refine aj 10 fun b a=> ?_;go_wp2_with fail;refine al a ?_;clear a b;refine aa 11 d ?_;refine ax ?_;exact g.out _ h.out
theorem Ei(l:List Int)(k)(h:k<l.length):
 ((ob (l.take k))++List.replicate (l.length-k) (Value.int .u8 0)).set k (.int .u8 (l.getD k 0))=(ob (l.take (k+1)))++List.replicate (l.length-(k+1)) (Value.int .u8 0):=by
 have e:l.length-k=(l.length-(k+1))+1:=kH;have a:(ob (l.take k)).length=k:=by simp[ob];omega
 have b:ob (l.take (k+1))=ob (l.take k)++[.int .u8 (l.getD k 0)]:=by
  rw[n6 h];simp only[ob,List.map_append,k4,k7,List.getD,lx h,Option.getD_some]
 rw[e,List.replicate_succ,n2 _ _ kH,a,oX,List.set_cons_zero,b,k5]
 rfl
theorem vC(n):(madeCells #[Value.int .u8 0] n).toList=List.replicate n (Value.int .u8 0):=by
 apply oS
 ·simp[madeCells]
 ·intro i a b;simp[madeCells,Nat.mod_one]
theorem lF(a n o l w)(h:Bs w a n o l)(H:n<=1048576):
 Calls prog 33 #[.slice a n o] w fun e w'=> ∃g,e= .returned (.slice (some ⟨g,0,none⟩) n n)/\Below w.1.size w w'/\w'.ownsRow w.1.size 5 1 (.slice (some ⟨g,0,none⟩) n n) n (ob l):=by
 obtain⟨i,x,r,s,t⟩:=sk i7;go_enter func33,ntmps33;go_wp2_with (at_make;refine wpList_make_full _ rfl _ _ 70 rfl w.1.size 5 i _ 1 rC x r s _ _ _ _ n rfl rfl rfl rfl ?b1 ?b2 ?b3 ?_)
 case b1=>rw[t];omega
 case b2=>unfold maxLen;omega
 case b3=>exact kE
 clear x r s t;intro w1 c q;rw[vC]at c;have f:=kF.grown q kE (fun _ e=>by cases e);go_wp2;go_loopw [4] (fun i wr=> ∃k:Nat,k<=n/\i= .int .i64 k/\Below w.1.size w wr/\wr.ownsRow w.1.size 5 1 (.slice (some ⟨w.1.size,0,none⟩) n n) n (ob (l.take k)++List.replicate (n-k) (Value.int .u8 0))) (fun i _=>n-(intOf i).toNat)
 case atStart=>exact⟨0,kX _,rfl,f,by simpa [ob]using c⟩
 case round=>
  obtain⟨k,G,rfl,u,d⟩:=hrel;by_cases y:k<n
  ·obtain⟨b,off,rfl,v,C⟩:=h.at_ kH;have D:wr.cell? ⟨b,off+k,none⟩=some (.int .u8 (l.getD k 0)):=by rw[u.cell (p:=⟨b,off+k,none⟩) v];exact C k y
   have E:wr.cell? ⟨w.1.size,k,none⟩=some (.int .u8 0):=by
    rw[d.cellAt k kH];have B:(ob (l.take k)).length=k:=by simp[ob];have:=h.len_eq;omega
    rw[m4 kH,B,oX];rw[List.getElem?_replicate,qb kH]
   have F:=d.frozenAt k;have j:=d.stored k (.int .u8 (l.getD k 0));have m:=Ei l k (by have:=h.len_eq;omega);rw[h.len_eq]at m;rw[m]at j;have z:Hid (World.ownsRow (wr.setCell ⟨w.1.size,k,none⟩ (.int .u8 (l.getD k 0))) w.1.size 5 1 (.slice (some ⟨w.1.size,0,none⟩) n n) n (ob (l.take (k+1))++List.replicate (n-(k+1)) (Value.int .u8 0))):=j.1;clear j m d c q f;go_wp2;go_roundw
   case rel=>exact⟨k+1,kH,by go_num,u.setCell kE _,z.out⟩
   case measure=>simp[intOf];omega
  ·have e:k=n:=kH;subst e;go_wp2;go_ret;refine⟨w.1.size,rfl,u,?_⟩;have A:l.take k=l:=mm (by have:=h.len_eq;omega);rw[A,oX,List.replicate_zero,lj]at d;exact d
def az(r x:Nat):Nat:=x/2^r+x%2^r*2^(32-r)
theorem di{r x}(hr:r<=32)(hx:x<4294967296):az r x<4294967296:=by
 unfold az;have e:2^r*2^(32-r)=4294967296:=by rw[<-Nat.pow_add,show r+(32-r)=32 by omega]
 have c:x/2^r<2^(32-r):=Nat.div_lt_of_lt_mul kH;have a:x%2^r+1<=2^r:=m8 _ (Nat.two_pow_pos r);have b:=oO (2^(32-r)) a;rw[e,ov]at b;omega
theorem Ej{r x}(hr:r<=32)(hx:x<4294967296):(x*2^(32-r))%4294967296|||x/2^r=az r x:=by
 have e:2^r*2^(32-r)=4294967296:=by rw[<-Nat.pow_add,show r+(32-r)=32 by omega]
 have a:x/2^r<2^(32-r):=Nat.div_lt_of_lt_mul kH;have b:x*2^(32-r)%4294967296=x%2^r*2^(32-r):=by rw[<-e,Nat.mul_mod_mul_right]
 rw[b,nat_join (32-r) _ _ (by rw[Nat.mul_mod_left]) a];unfold az;omega
def sg0(x:Nat):Nat:=az 7 x^^^az 18 x^^^x/8
def sg1(x:Nat):Nat:=az 17 x^^^az 19 x^^^x/1024
def bs0(a:Nat):Nat:=az 2 a^^^az 13 a^^^az 22 a
def bs1(e:Nat):Nat:=az 6 e^^^az 11 e^^^az 25 e
def chf(e f g:Nat):Nat:=(e&&&f)^^^((4294967295-e)&&&g)
def jD(a b c:Nat):Nat:=(a&&&b)^^^(a&&&c)^^^(b&&&c)
theorem xlt{a b}(c:a<4294967296)(d:b<4294967296):a^^^b<4294967296:=Nat.xor_lt_two_pow (n:=32) kH kH
theorem alt{a b}(c:a<4294967296):a&&&b<4294967296:=Nat.lt_of_le_of_lt Nat.and_le_left c
theorem Ek{x}(h:x<4294967296):sg0 x<4294967296:=xlt (xlt (di kH h) (di kH h)) kH
theorem El{x}(h:x<4294967296):sg1 x<4294967296:=xlt (xlt (di kH h) (di kH h)) kH
theorem Em{x}(h:x<4294967296):bs0 x<4294967296:=xlt (xlt (di kH h) (di kH h)) (di kH h)
theorem En{x}(h:x<4294967296):bs1 x<4294967296:=xlt (xlt (di kH h) (di kH h)) (di kH h)
theorem Eo{e f g}(h:e<4294967296):chf e f g<4294967296:=xlt (alt h) (alt kH)
theorem Ep{a b c}(h:a<4294967296)(d:b<4294967296):jD a b c<4294967296:=xlt (xlt (alt h) (alt h)) (alt d)
def kW:List Nat:=[1116352408,1899447441,3049323471,3921009573,961987163,1508970993,2453635748,2870763221,3624381080,310598401,607225278,1426881987,1925078388,2162078206,2614888103,3248222580,3835390401,4022224774,264347078,604807628,770255983,1249150122,1555081692,1996064986,2554220882,2821834349,2952996808,3210313671,3336571891,3584528711,113926993,338241895,666307205,773529912,1294757372,1396182291,1695183700,1986661051,2177026350,2456956037,2730485921,2820302411,3259730800,3345764771,3516065817,3600352804,4094571909,275423344,430227734,506948616,659060556,883997877,958139571,1322822218,1537002063,1747873779,1955562222,2024104815,2227730452,2361852424,2428436474,2756734187,3204031479,3329325298]
def hi4(b:List Int)(i:Nat):Nat:=(b.getD (4*i) 0).toNat*16777216+(b.getD (4*i+1) 0).toNat*65536+(b.getD (4*i+2) 0).toNat*256+(b.getD (4*i+3) 0).toNat
def rr(l:List Nat):Nat:=(sg1 (l.getD (l.length-2) 0)+l.getD (l.length-7) 0+sg0 (l.getD (l.length-15) 0)+l.getD (l.length-16) 0)%4294967296
def wds(b:List Int):Nat->List Nat
 |0=>[]
 |k+1=>wds b k++[if k<16 then hi4 b k else rr (wds b k)]
theorem mG(b):∀k,(wds b k).length=k
 |0=>rfl
 |k+1=>by simp[wds,mG b k]
def wAt(b:List Int)(k:Nat):Nat:=if k<16 then hi4 b k else rr (wds b k)
theorem vD(b k):wds b (k+1)=wds b k++[wAt b k]:=rfl
theorem lG(b):∀(k i:Nat),i<k->(wds b k).getD i 0=wAt b i
 |0,i,h=>by omega
 |k+1,i,h=>by
  rw[vD];by_cases a:i<k
  ·have:=lG b k i a;simp[List.getD,List.getElem?_append_left (by rw[mG];exact a:i< (wds b k).length)]at this ⊢;exact this
  ·have e:i=k:=kH;subst e;simp[List.getD,mG]
theorem rs(b){k}(h:k<16):wAt b k=hi4 b k:=by simp[wAt,h]
theorem vE(b){k}(h:16<=k):wAt b k=(sg1 (wAt b (k-2))+wAt b (k-7)+sg0 (wAt b (k-15))+wAt b (k-16))%4294967296:=by
 have h':¬k<16:=kH;rw[wAt,q4 h',rr,mG,lG b k _ kH,lG b k _ kH,lG b k _ kH,lG b k _ kH]
theorem Er{b}(a:∀i,0<=b.getD i 0/\b.getD i 0<256)(i):hi4 b i<4294967296:=by
 unfold hi4;have c:=a (4*i);have d:=a (4*i+1);have e:=a (4*i+2);have f:=a (4*i+3);omega
theorem jg{b}(a:∀i,0<=b.getD i 0/\b.getD i 0<256)(k):wAt b k<4294967296:=by
 by_cases h:k<16
 ·rw[rs b h];exact Er a k
 ·rw[vE b kH];exact m8 _ kH
structure R8 where
 a:Nat
 b:Nat
 c:Nat
 d:Nat
 e:Nat
 f:Nat
 g:Nat
 h:Nat
structure R8.Ok(v:R8):Prop where
 a:v.a<4294967296
 b:v.b<4294967296
 c:v.c<4294967296
 d:v.d<4294967296
 e:v.e<4294967296
 f:v.f<4294967296
 g:v.g<4294967296
 h:v.h<4294967296
def R8.list(v:R8):List Nat:=[v.a,v.b,v.c,v.d,v.e,v.f,v.g,v.h]
def jE(v:R8)(k w:Nat):Nat:=(v.h+bs1 v.e+chf v.e v.f v.g+k+w)%4294967296
def rnd(v:R8)(k w:Nat):R8:=⟨(jE v k w+bs0 v.a+jD v.a v.b v.c)%4294967296,v.a,v.b,v.c,(v.d+jE v k w)%4294967296,v.e,v.f,v.g⟩
def fq(v:R8)(b:List Int):Nat->R8
 |0=>v
 |i+1=>rnd (fq v b i) (kW.getD i 0) (wAt b i)
def R8.add(v u:R8):R8:=⟨(v.a+u.a)%4294967296,(v.b+u.b)%4294967296,(v.c+u.c)%4294967296,(v.d+u.d)%4294967296,(v.e+u.e)%4294967296,(v.f+u.f)%4294967296,(v.g+u.g)%4294967296,(v.h+u.h)%4294967296⟩
def kj(v:R8)(b:List Int):R8:=(fq v b 64).add v
theorem Es{v}(h:v.Ok)(k w):(rnd v k w).Ok:=
 ⟨m8 _ kH,h.a,h.b,h.c,m8 _ kH,h.e,h.f,h.g⟩
theorem mH{v}(h:v.Ok)(b):∀i,(fq v b i).Ok
 |0=>h
 |i+1=>Es (mH h b i) _ _
theorem vF(v a:R8):(v.add a).Ok:=
 ⟨m8 _ kH,m8 _ kH,m8 _ kH,m8 _ kH,m8 _ kH,m8 _ kH,m8 _ kH,m8 _ kH⟩
def iw:R8:=⟨1779033703,3144134277,1013904242,2773480762,1359893119,2600822924,528734635,1541459225⟩
theorem vG:iw.Ok:=⟨kN,kN,kN,kN,kN,kN,kN,kN⟩
def blk(m:List Int)(i:Nat):List Int:=(m.drop (64*i)).take 64
def cW(m:List Int):Nat->R8
 |0=>iw
 |k+1=>kj (cW m k) (blk m k)
theorem vH(m):∀k,(cW m k).Ok
 |0=>vG
 |_+1=>vF _ _
theorem Et(m x i)(h:64*i+64<=m.length):blk (m++x) i=blk m i:=by
 unfold blk;rw[o4 kH,oM (by rw[k3];omega)]
theorem ru(m x):∀k,64*k<=m.length->cW (m++x) k=cW m k
 |0,_=>rfl
 |k+1,h=>by rw[cW,cW,ru m x k kH,Et m x k kH]
def fP(n:Nat):List Int:=[((n/16777216%256:Nat):Int),((n/65536%256:Nat):Int),((n/256%256:Nat):Int),((n%256:Nat):Int)]
def oy(n:Nat):List Int:=fP (n/4294967296)++fP n
def fQ(n:Nat):Nat:=(119-n%64)%64
def fA(l:List Int):List Int:=l++[128]++List.replicate (fQ l.length) 0++oy (8*l.length)
def R8.bytes(v:R8):List Int:=v.list.flatMap fP
def dj(l:List Int):List Int:=(cW (fA l) ((fA l).length/64)).bytes
theorem jF(l):(dj l).length=32:=by simp[dj,R8.bytes,R8.list,fP]
theorem rv(n):(n+1+fQ n)%64=56:=by unfold fQ;omega
theorem Eu(l):(fA l).length%64=0:=by
 have:=rv l.length;simp[fA,oy,fP];omega
theorem mI{n}(a:0<=n)(b:n<9223372036854775808):wrap64 n=n:=by unfold wrap64;omega
theorem Ev(a b c:Nat)(h:a+b*c<4294967296)(e:c<=4294967296):wrap64 (wrap64 (a:Int)+wrap64 ((b:Int)*wrap64 (c:Int)))=((a+b*c:Nat):Int):=by
 rw[mI (n:=(c:Int)) kH kH,<-Int.natCast_mul];generalize b*c=d at*;rw[mI (n:=(a:Int)) kH kH,mI (n:=(d:Int)) kH kH,mI kH kH];omega
def pw(r:Nat):Nat:=2^r
theorem vI{r}(h:r<=32):pw r<=4294967296:=Nat.pow_le_pow_right (n:=2) kH h
theorem Ew(k):pw (k+1)=pw k*2:=Nat.pow_succ 2 k
theorem Ex(r:Nat)(w)(hr:r<=32):
 Calls prog 240 #[.int .i64 r] w fun e w'=>e= .returned (.int .i64 (pw r:Nat))/\w'=w:=by
 go_enter func240,ntmps240;go_wp2
 go_loop [3,4] (fun v i=> ∃k:Nat,k<=r/\i= .int .i64 k/\v= .int .i64 (pw k:Nat)) (fun _ i=>r-(intOf i).toNat)
 case atStart=>exact⟨0,kX _,rfl,rfl⟩
 case round=>
  obtain⟨k,d,rfl,rfl⟩:=hrel;have c:=vI (r:=k) kH;have a:Hid (pw (k+1)=pw k*2):=Ew k;by_cases b:k<r
  ·generalize pw k=f at*;go_wp2
   go_round
   case rel=>exact⟨k+1,kH,by go_num,by rw[a.out];go_num⟩
   case measure=>simp[intOf];omega
  ·have e:k=r:=kH;subst e;go_wp2;go_ret;exact⟨rfl,rfl⟩
theorem iS(x r:Nat)(w)(hr:r<=32)(hx:x<4294967296):
 Calls prog 216 #[.int .i64 x,.int .i64 r] w fun e w'=>e= .returned (.int .i64 (az r x:Nat))/\∃m,w'=w.drewN m:=by
 have f:=Ex r w hr;have c:Hid (az r x=x/pw r+x%pw r*(4294967296/pw r)):=by
  show az r x=x/2^r+x%2^r*(4294967296/2^r);have e:4294967296=2^r*2^(32-r):=by rw[<-Nat.pow_add,show r+(32-r)=32 by omega]
  have d:4294967296/2^r=2^(32-r):=by
   have:=Nat.mul_div_cancel_left (2^(32-r)) (Nat.two_pow_pos r);rw[<-e]at this;exact this
  rw[d,az]
 have b:=di hr hx;have i:1<=pw r:=Nat.two_pow_pos r;have h:=vI hr;rw[c.out]at b;generalize pw r=a at*;go_enter func216,ntmps216;have g:((a:Int)==0)=false:=by simp;omega
 go_wp2_with fail;refine f.mono ?_;rintro e w1 ⟨rfl,rfl⟩;have j:(x:Int).tdiv (a:Int)=((x/a:Nat):Int):=by rw[p3 kH];rfl
 have k:(x:Int).tmod (a:Int)=((x%a:Nat):Int):=by rw[Int.tmod_eq_emod_of_nonneg kH];rfl
 have q3:(4294967296:Int).tdiv (a:Int)=((4294967296/a:Nat):Int):=by rw[p3 kH];rfl
 go_wp2
 go_quiet (fail)
 go_wp2;go_ret;exact⟨qy (by rw[c.out];exact Ev (x/a) (x%a) (4294967296/a) b (Nat.div_le_self _ _)),_,rfl⟩
theorem Ey(r:Nat)(a:1<=r)(b:r<32):bits .and .u64 (IntKind.u64.wrap (-(r:Int))) 31=((32-r:Nat):Int):=by
 have e:IntKind.u64.wrap (-(r:Int))=((18446744073709551616-r:Nat):Int):=by
  simp[IntKind.wrap,IntKind.bits,IntKind.signed];omega
 rw[e];have:=u64_and_nat (18446744073709551616-r) 31 kH kH;rw[nat_mask5]at this;rw[show(31:Int)=((31:Nat):Int)from rfl,this];omega
theorem Ez(x r:Nat)(hr:r<32)(hx:x<4294967296):bits .or .u32 ((x:Int)*2^(32-r)%4294967296) ((x:Int)/2^(32-(32-r)))=(az r x:Nat):=by
 have e:=u32_or_nat (x*2^(32-r)%4294967296) (x/2^r) (m8 _ kH) (Nat.lt_of_le_of_lt (Nat.div_le_self _ _) hx);rw[Ej kH hx]at e;rw[show 32-(32-r)=r by omega,<-e];simp
theorem EA(x r:Nat)(w)(a:1<=r)(hr:r<32)(hx:x<4294967296):
 Calls prog 250 #[.int .u32 x,.int .i64 (-(r:Int))] w fun e w'=>e= .returned (.int .u32 (az r x:Nat))/\w'=w:=by
 have c:=Ey r a hr;have b:(0:Int)<=32-((32-r:Nat):Int):=kH;go_enter func250,ntmps250;go_wp2;go_ret;exact⟨qy (Ez x r hr hx),rfl⟩
theorem iT(x r:Nat)(w)(a:1<=r)(hr:r<32)(hx:x<4294967296):
 Calls prog 242 #[.int .u32 x,.int .i64 r] w fun e w'=>e= .returned (.int .u32 (az r x:Nat))/\w'=w:=by
 go_enter func242,ntmps242;go_wp2_with fail;refine(EA x r w a hr hx).mono ?_;rintro e w1 ⟨rfl,rfl⟩;go_wp2;go_ret;exact⟨rfl,rfl⟩
theorem EG(a n c l w)(h:Bs w a n c l)(g:n=4):
 Calls prog 239 #[.slice a n c] w fun e w'=>e= .returned (.int .i64 (hi4 l 0:Nat))/\∃m,w'=w.drewN m:=by
 subst g;obtain⟨b,off,rfl,i,d⟩:=h.at_ kH;have t:w.cell? ⟨b,off,none⟩= _:=d 0 kH;have u:=d 1 kH;have v:=d 2 kH;have x:=d 3 kH;have p:=h.byte 0;have q:=h.byte 1;have r:=h.byte 2;have s:=h.byte 3;have f:Hid (hi4 l 0=(l.getD 0 0).toNat*16777216+(l.getD 1 0).toNat*65536+(l.getD 2 0).toNat*256+(l.getD 3 0).toNat):=rfl;generalize l.getD 0 0=B0 at*;generalize l.getD 1 0=j at*;generalize l.getD 2 0=k at*;generalize l.getD 3 0=o at*;clear h d;go_enter func239,ntmps239;go_wp2
 go_quiet (fail)
 go_wp2;go_ret;exact⟨qy (by rw[f.out];go_num),_,rfl⟩
def gZ(v k j:Nat):Int:=((v/256^(k-1-j)%256:Nat):Int)
def bW(v k:Nat):List Int:=(List.range k).map (gZ v k)
theorem km(v k):(bW v k).length=k:=by simp[bW]
theorem EH(v k j):0<=gZ v k j/\gZ v k j<256:=by unfold gZ;omega
theorem EI(v k j)(h:j<k):(bW v k).getD j 0=gZ v k j:=by simp[bW,List.getD,h]
theorem iG(v k):IsB (bW v k):=fun i=>by
 by_cases h:i<k
 ·rw[EI v k i h];exact EH v k i
 ·simp[bW,List.getD,h]
theorem EJ(v k j)(h:j<k):(bW v k).take (j+1)=(bW v k).take j++[gZ v k j]:=by
 rw[n6 (by rw[km];exact h)];simp[bW]
theorem oz(v):bW v 4=fP v:=by
 simp[bW,fP,gZ,List.range,List.range.loop]
theorem EM(v):bW v 8=oy v:=by
 simp[bW,oy,fP,gZ,List.range,List.range.loop];omega
def go(v k m:Nat):List Int:=(List.range k).map fun j=>if j<m then 0 else gZ v k j
theorem EO(v k m):(go v k m).length=k:=by simp[go]
theorem ER(v k):go v k k=List.replicate k 0:=by
 apply oS
 ·simp[go]
 ·intro i a b;simp[go]at a ⊢;omega
theorem EU(v k):go v k 0=bW v k:=by simp[go,bW]
theorem EW(v k m):(go v k (m+1)).set m (gZ v k m)=go v k m:=by
 apply oS
 ·simp[go]
 ·intro i b c;rw[List.getElem_set];simp only[go,List.getElem_map,List.getElem_range];by_cases e:m=i
  ·subst e;simp
  ·rw[q4 e];by_cases a:i<m
   ·rw[qb kH,qb a]
   ·rw[q4 kH,q4 a]
def ix(v j:Nat):Nat:=v/256^j
theorem EZ(v j):ix v j/256=ix v (j+1):=by unfold ix;rw[Nat.div_div_eq_div_mul,Nat.pow_succ]
theorem E0(v j):ix v j<=v:=Nat.div_le_self _ _
theorem vJ(v k j):gZ v k j=((ix v (k-1-j)%256:Nat):Int):=rfl
theorem oA(v k:Nat)(w)(E:v<=9223372036854775807)(C:k<=8):
 Calls prog 58 #[.int .i64 v,.int .i64 k] w fun e w'=> ∃g,e= .returned (.slice (some ⟨g,0,none⟩) k k)/\Below w.1.size w w'/\Own w.1.size w' (some ⟨g,0,none⟩) k k (bW v k):=by
 obtain⟨i,r,l,n,o⟩:=sk i7;go_enter func58,ntmps58;go_wp2_with (at_make;refine wpList_make_full _ rfl _ _ 70 rfl w.1.size 5 i _ 1 rC r l n _ _ _ _ k rfl rfl rfl rfl ?b1 ?b2 ?b3 ?_)
 case b1=>rw[o];omega
 case b2=>unfold maxLen;omega
 case b3=>exact kE
 clear r l n o;intro w1 a h;rw[vC]at a;have d:=kF.grown h kE (fun _ e=>by cases e);have b:w1.ownsRow w.1.size 5 1 (.slice (some ⟨w.1.size,0,none⟩) k k) k (ob (go v k k)):=by
  rw[ER];simpa [ob]using a
 clear a h;go_wp2;go_loopw [0,6] (fun x i wr=> ∃m:Nat,m<=k/\i= .int .i64 ((m:Int)-1)/\x= .int .i64 (ix v (k-m):Nat)/\Below w.1.size w wr/\wr.ownsRow w.1.size 5 1 (.slice (some ⟨w.1.size,0,none⟩) k k) k (ob (go v k m))) (fun _ i _=>(intOf i+1).toNat)
 case atStart=>exact⟨k,kE,rfl,by rw[oX];simp[ix],d,b⟩
 case round=>
  obtain⟨m,D,rfl,rfl,q,c⟩:=hrel;clear b d;by_cases B:0<m
  ·obtain⟨j,rfl⟩:∃j,m=j+1:=⟨m-1,kH⟩;have A:=E0 v (k-(j+1));have u:Hid (ix v (k-(j+1))/256=ix v (k-j)):=by
    show _= _;rw[EZ,show k-(j+1)+1=k-j by omega]
   have p:Hid (gZ v k j=((ix v (k-(j+1))%256:Nat):Int)):=by
    show _= _;rw[vJ,show k-1-j=k-(j+1)by omega]
   have s:((j+1:Nat):Int)-1=(j:Int):=kH;rw[s];have y:wr.cell? ⟨w.1.size,j,none⟩=some (.int .u8 ((go v k (j+1)).getD j 0)):=by
    rw[sD c j kH];exact de? _ j (by rw[EO];omega)
   have z:=sx c j;have f:=World.ownsRow.stored c j (.int .u8 (gZ v k j));rw[qA,EW v k j,p.out]at f;generalize ix v (k-(j+1))=x at*;have t:Hid (World.ownsRow (wr.setCell ⟨w.1.size,j,none⟩ (.int .u8 ((x%256:Nat):Int))) w.1.size 5 1 (.slice (some ⟨w.1.size,0,none⟩) k k) k (ob (go v k j))):=f.1;clear f c p;go_wp2;go_roundw
   case rel=>exact⟨j,kH,by go_num,by rw[<-u.out];rfl,q.setCell kE _,t.out⟩
   case measure=>simp[intOf]
  ·have e:m=0:=kH;subst e;go_wp2;go_ret;refine⟨w.1.size,rfl,q,?_⟩;rw[EU]at c;exact c
theorem E2(v j:Nat):((v:Int)/2^(8*j))%256=((ix v j%256:Nat):Int):=by
 have e:(2:Nat)^(8*j)=256^j:=by rw[Nat.pow_mul]
 have h:((v/2^(8*j)%256:Nat):Int)=((v:Int)/2^(8*j))%256:=by simp
 rw[<-h,e]
 rfl
theorem ry(B a n c xs)(v k:Nat)(w)(g:Own B w a n c xs)(y:B<=w.1.size)(D:n<=1048576)(A:k<=8):
 Calls prog 162 #[.slice a n c,.int .i64 v,.int .i64 k] w fun e w'=> ∃a c,e= .returned (.slice a (n+k) c)/\Below B w w'/\Own B w' a (n+k) c (xs++bW v k):=by
 go_enter func162,ntmps162;go_wp2;go_loopw [0,7] (fun o i wr=> ∃m a c,m<=k/\i= .int .i64 ((m:Int)-1)/\o= .slice a (n+(k-m)) c/\Below B w wr/\Own B wr a (n+(k-m)) c (xs++(bW v k).take (k-m))) (fun _ i _=>(intOf i+1).toNat)
 case atStart=>exact⟨k,a,c,kE,rfl,by rw[oX];rfl,kF,by rw[oX];simpa using g⟩
 case round=>
  obtain⟨m,a,c,C,rfl,rfl,b,d⟩:=hrel;by_cases z:0<m
  ·obtain⟨j,rfl⟩:∃j,m=j+1:=⟨m-1,kH⟩;have t:Hid ((bW v k).take (k-j)=(bW v k).take (k-(j+1))++[((v:Int)/2^(8*j))%256]):=by
    show _= _;rw[E2,show k-j=k-(j+1)+1 by omega,EJ v k _ kH,vJ,show k-1-(k-(j+1))=j by omega]
   have h:Hid (n+(k-(j+1))+1=n+(k-j)):=by show _= _;omega
   have p:((j+1:Nat):Int)-1=(j:Int):=kH;rw[p];have r:0<=((v:Int)/2^(8*j))%256:=Int.emod_nonneg _ kH;have s:((v:Int)/2^(8*j))%256<256:=Int.emod_lt_of_pos _ kH;go_wp2_with (at_builtin;refine db rfl _ _ rfl B a (n+(k-(j+1))) c (xs++(bW v k).take (k-(j+1))) rfl ?own _ 1 1 [((v:Int)/2^(8*j))%256] rfl ?bs ?len ?B ?_)
   case own=>exact rc d _
   case bs=>exact cZ wr _ r s
   case len=>omega
   case B=>have:=b.size;simp;omega
   intro u x w' q f _;have l:=(b.alloc (k2 y b.size) _).trans f;clear d b f;go_wp2;go_roundw
   case rel=>exact⟨j,u,x,kH,by go_num,by rw[h.out],l,by rw[t.out,<-h.out];simpa using q⟩
   case measure=>simp[intOf]
  ·have e:m=0:=kH;subst e;go_wp2;go_ret;refine⟨a,c,rfl,b,?_⟩;rw[Nat.sub_zero,mm (by rw[km];omega)]at d;exact d
def fi(l:List Int)(k:Nat):List Int:=l++[128]++List.replicate k 0
theorem vM(l):fi l 0=l++[128]:=by simp[fi]
theorem vN(l k):fi l k++[0]=fi l (k+1):=by simp[fi,List.replicate_succ']
theorem Fa{l}(h:IsB l)(k):IsB (fi l k):=cY (cY h (fw kH kH)) (iL k)
theorem vO(l):fi l (fQ l.length)++bW (8*l.length) 8=fA l:=by rw[EM];rfl
theorem Fb:mq prog 52=some ((pc fy).toArray,[(0,32),(32,1)]):=kO
theorem lH(c n)(d:c.length=32):prog.built 52 [(0,.agg (ob c).toArray),(1,.int .i64 n)]=some (pc (c,n)).toArray:=by
 have a:(ob c).length=32:=by rw[au,d]
 have b:(pc fy).length=33:=rfl;rw[nH Fb,jw _ _ 0 0 _ (ob c) _ (by simp[a]) rfl (by simp[a,b])];rw[jw _ _ 1 32 _ [.int .i64 n] _ kP rfl (by simp[a,b])];simp only[Instr.fill,o7,m7,ld,a];rw[oM (by simp[a]),mm (by simp[a]),List.drop_of_length_le (by simp[a,b])];simp[pc]
theorem vP{P c o h p n}(i j k){oi l m d b a w}(hr:Region.ready h c b=[i,j,k])(v:c[i]?=some oi)(y:c[j]?=some l)(z:c[k]?=some m)(s:∀K':Act->World->Prop,Shut (∀a w,(n i=false->p w)->bL P h c o p n d (b.setIfInBounds i true) a w->K' a w)->if Region.wanted oi (yielded c a.tmps)=true then Oper.wp P oi a w K' o else K' (a.put oi.dst undef) w)(t:∀K':Act->World->Prop,Shut (∀a w,(n j=false->p w)->bL P h c o p n d (b.setIfInBounds j true) a w->K' a w)->if Region.wanted l (yielded c a.tmps)=true then Oper.wp P l a w K' o else K' (a.put l.dst undef) w)(u:∀K':Act->World->Prop,Shut (∀a w,(n k=false->p w)->bL P h c o p n d (b.setIfInBounds k true) a w->K' a w)->if Region.wanted m (yielded c a.tmps)=true then Oper.wp P m a w K' o else K' (a.put m.dst undef) w):bL P h c o p n (d+1) b a w:=
 ⟨fun q=>(by rw[hr]at q;cases q),fun x hx=>by
  rw[hr]at hx;have r:x=i\/x=j\/x=k:=by simpa using hx
  rcases r with rfl|rfl|rfl
  ·exact wpOp_step v (fun K' e=>s K' (fun a w f g=>e a w ⟨f,g⟩))
  ·exact wpOp_step y (fun K' e=>t K' (fun a w f g=>e a w ⟨f,g⟩))
  ·exact wpOp_step z (fun K' e=>u K' (fun a w f g=>e a w ⟨f,g⟩))⟩
theorem Fh{g B e s:Nat}{w w' v n xs}(h:OnlyB g w w')(a:w.ownsRow B e s v n xs)(b:v.ownBlock≠some g):w'.ownsRow B e s v n xs:=by
 refine⟨a.1,?_⟩;rcases a.2 with h2|⟨k,cap,cur,hv,hg,hh,r⟩
 ·exact kV h2
 ·exact kT ⟨k,cap,cur,hv,hg,by rw[h.block k (k6.1 hh).1 (fun e=>b (by rw[hv,e];rfl))];exact hh,r⟩
theorem ORow.only{g e s B w w' a n c f}(H:ORow e s B w a n c f)(h:OnlyB g w w')(d:g<B):ORow e s B w' a n c f:=
 Fh h H (fun b=>by have:=(qX H g b).1;omega)
theorem OTx.only{g B w w' v K}(H:OTx B w v K)(h:OnlyB g w w')(a:g<B):OTx B w' v K:=⟨H.pts,H.ins.only h a,H.outs.only h a⟩
def txc(v:TxV)(K:TxK):List Value:=[.slice v.ia K.ni v.ic,.slice v.oa K.no v.oc,.int .i64 K.h]
theorem rz(v K):(txc v K).toArray.all (·.oneCell')=true:=by simp[txc,Value.oneCell']
def txz:List Value:=[.slice none 0 0,.slice none 0 0,.int .i64 0]
def rA:Obj->Bool
 | .cells _ t _=>t !=5
 |_=>true
structure Keeps(w w':World):Prop where
 size:w.1.size<=w'.1.size
 block:∀(k:Nat)(o:Obj),w.heap[k]?=some o->rA o=true->w'.heap[k]?=some o
theorem Keeps.refl(w):Keeps w w:=⟨kE,fun _ _ h _=>h⟩
theorem Keeps.trans{a b c}(h:Keeps a b)(k:Keeps b c):Keeps a c:=⟨k2 h.size k.size,fun i o e d=>k.block i o (h.block i o e d) d⟩
theorem Fi{w w'}(h:Below w.1.size w w'):Keeps w w':=⟨h.size,fun k o a _=>by rw[h.block k (k6.1 a).1];exact a⟩
theorem Keeps.alloc{w w'}(h:Keeps w w')(o):Keeps w (w'.alloc o):=h.trans (Fi (kF.alloc kE o))
theorem mJ{w w' B a n c l}(j:Own B w a n c l)(f:w.grownBy w' (Value.slice a n c).ownBlock):Keeps w w':=
 ⟨f.size,fun k o d i=>by
  rw[f.block k (k6.1 d).1 (fun e=> ?_)]
  ·exact d
  ·rcases j.2 with⟨b,_⟩|⟨g,m,p,b,_,h,_⟩
   ·cases b;simp[Value.ownBlock]at e
   ·cases b;simp[Value.ownBlock]at e;subst e;rw[d]at h;cases h;simp[rA]at i⟩
theorem Blk.keeps{w w' c g xs}(h:Blk w c g xs)(a:Keeps w w')(b:c≠5):Blk w' c g xs:=a.block g _ h (by simp[rA,b])
theorem rD(B a n c xs v)(k:Nat)(w)(h:Own B w a n c xs)(y:B<=w.1.size)(F:n<=1048576)(A:0<=v)(C:v<=9223372036854775807)(E:k<=8):
 Calls prog 163 #[.slice a n c,.int .i64 v,.int .i64 k] w fun e w'=> ∃a c,e= .returned (.slice a (n+k) c)/\Below B w w'/\Keeps w w'/\Own B w' a (n+k) c (xs++num v k):=by
 go_enter func163,ntmps163;go_wp2;go_loopw [0,1,8] (fun o x i wr=> ∃j a c,j<=k/\i= .int .i64 (j:Nat)/\o= .slice a (n+j) c/\x= .int .i64 (v/256^j)/\Below B w wr/\Keeps w wr/\Own B wr a (n+j) c (xs++num v j)) (fun _ _ i _=>k-(intOf i).toNat)
 case atStart=>exact⟨0,a,c,kX _,rfl,rfl,kP,kF,Keeps.refl _,by simpa [num]using h⟩
 case round=>
  obtain⟨j,a,c,D,rfl,rfl,rfl,b,l,d⟩:=hrel;have s:Hid (v/256^j/256=v/256^(j+1)):=qE v j;have r:Hid (num v (j+1)=num v j++[v/256^j%256]):=ln v j;generalize v/256^j=x at*;by_cases z:j<k
  ·go_wp2_with (at_builtin;refine db rfl _ _ rfl B a (n+j) c (xs++num v j) rfl ?own _ 1 1 [x%256] rfl ?bs ?len ?B ?_)
   case own=>exact rc d _
   case bs=>exact cZ wr (x%256) kH kH
   case len=>omega
   case B=>have:=b.size;simp;omega
   intro t u w' p f g;have q:=(l.alloc _).trans (mJ (rc d _) g);have m:=(b.alloc (k2 y b.size) _).trans f;clear d b f g l;go_wp2;go_roundw
   case rel=>exact⟨j+1,t,u,kH,by go_num,rfl,by rw[<-s.out],m,q,by rw[r.out];exact p⟩
   case measure=>simp[intOf];omega
  ·have e:j=k:=kH;subst e;go_wp2;go_ret;exact⟨a,c,rfl,b,l,d⟩
def ow(l:List Nat):List Value:=l.map fun n:Nat=> .int .u32 (n:Int)
theorem rE(l):(ow l).length=l.length:=by simp[ow]
theorem iH?(l:List Nat)(j:Nat)(h:j<l.length):(ow l)[j]?=some (.int .u32 (l.getD j 0:Nat)):=by simp[ow,List.getD,h]
theorem rF(l i)(x:Nat):(ow l).set i (.int .u32 (x:Int))=ow (l.set i x):=by simp[ow,List.map_set]
theorem vQ(l):(ow l).toArray.all (·.oneCell')=true:=by
 rw[pn];intro v a;simp only[ow,List.mem_toArray,oj]at a;obtain⟨n,_,rfl⟩:=a
 rfl
theorem rG(l):(ow l).toArray.size=l.length:=by simp[ow]
def hx(v:R8)(ch:List Int)(s:Nat):List Value:=ow v.list++(ob ch++[.int .i64 (s:Int)])
theorem vS(v a s j)(h:j<8):(hx v a s)[j]?=some (.int .u32 (v.list.getD j 0:Nat)):=by
 unfold hx;rw[l7 (by rw[rE];exact h)];exact iH? _ j h
theorem Fj(v a s j)(b:a.length=64)(h:j<64):(hx v a s)[8+j]?=some (.int .u8 (a.getD j 0)):=by
 unfold hx;have e:(ow v.list).length=8:=rfl;rw[m4 kH,e,show 8+j-8=j by omega,l7 (by rw[au];omega)];exact de? _ j kH
theorem oD(v a s)(b:a.length=64):(hx v a s)[72]?=some (.int .i64 (s:Int)):=by
 unfold hx;have e:(ow v.list).length=8:=rfl;rw[m4 kH,e,m4 (by rw[au];omega),au,b]
 rfl
structure IsH(w:World)(b:Nat)(v:R8)(ch:List Int)(s:Nat):Prop where
 blk:Blk w 315 b (hx v ch s)
 len:ch.length=64
 byte:IsB ch
 ok:v.Ok
 ne1:b≠1
 ne2:b≠3
theorem IsH.below{w w' b v a s}(h:IsH w b v a s)(c:Below w.1.size w w'):IsH w' b v a s:=⟨h.blk.below c,h.len,h.byte,h.ok,h.ne1,h.ne2⟩
structure Tabs(w:World):Prop where
 s:∀j,j<8->w.cell? ⟨1,j,none⟩=some (.int .u32 (iw.list.getD j 0:Nat))
 k:∀j,j<64->w.cell? ⟨3,j,none⟩=some (.int .u32 (kW.getD j 0:Nat))
 lt:1<w.1.size/\3<w.1.size
theorem Tabs.below{w w'}(h:Tabs w)(a:Below w.1.size w w'):Tabs w':=
 ⟨fun j b=>by rw[a.cell (p:=⟨1,j,none⟩) h.lt.1];exact h.s j b,fun j b=>by rw[a.cell (p:=⟨3,j,none⟩) h.lt.2];exact h.k j b,by have:=a.size;have:=h.lt;omega⟩
theorem Tabs.only{w w' b}(h:Tabs w)(d:OnlyB b w w')(e:b≠1)(f:b≠3):Tabs w':=
 ⟨fun j c=>by rw[r8 (a:=⟨1,j,none⟩) (d.block _ h.lt.1 (s8 e))];exact h.s j c,
  fun j c=>by rw[r8 (a:=⟨3,j,none⟩) (d.block _ h.lt.2 (s8 f))];exact h.k j c,by have:=d.size;have:=h.lt;omega⟩
theorem oE{P:Program}(w:World)(m e:TypeId)(n:Nat)(cs:List Value)(j:Nat)(v:Value)(l:P.underlying m=some (.array n e))(d:TypeDesc)(g:P.underlying e=some d)(o:(match d with| .struct _| .array _ _=>true|_=>false)=false)
 (c:(P.info? e).map (·.size)=some 1)(h:j<n)(f:cs[j]?=some v):
 (Instr.index m (.agg cs.toArray) (.int .i64 (j:Int))).run P w= .ok v w:=by
 have a:(isAgg e).run P w= .ok false w:=by
  unfold isAgg;rw[q9,s1 g w];cases d<;>simp_all
 cases b:P.info? e with
 |none=>simp[b]at c
 |some i=>
  have k:i.size=1:=by simpa [b]using c
  simp[Instr.index,asIntOf,Sem.run_bind,run_underlying l w,h,sizeOf,typeInfo,b,k,part,a,f]
theorem vT:(prog.info? 5).map (·.size)=some 1:=kO
theorem rH:(prog.info? 311).map (·.size)=some 1:=kO
theorem Fk:(prog.info? 313).map (·.size)=some 64:=kO
theorem lI:(prog.info? 312).map (·.size)=some 8:=kO
theorem Fl:(prog.info? 337).map (·.size)=some 64:=kO
def spF(ch:List Int):Nat->Nat->Nat
 |0,_=>0
 |i+1,k=>if k=i/4 then spF ch i k*256%4294967296+(ch.getD i 0).toNat else spF ch i k
theorem rJ(a):∀i k,i<=4*k->spF a i k=0
 |0,_,_=>rfl
 |i+1,k,h=>by
  rw[spF,q4 kH];exact rJ a i k kH
theorem Fm(a)(b:∀i,0<=a.getD i 0/\a.getD i 0<256)(k):spF a (4*k+4) k=hi4 a k:=by
 have e:=b (4*k);have f:=b (4*k+1);have g:=b (4*k+2);have h:=b (4*k+3);have c:spF a (4*k+1) k=(a.getD (4*k) 0).toNat:=by rw[spF,qb kH,rJ a (4*k) k kH];omega
 have d:spF a (4*k+2) k=(a.getD (4*k) 0).toNat*256%4294967296+(a.getD (4*k+1) 0).toNat:=by
  show spF a (4*k+1+1) k= _;rw[spF,qb kH,c]
 have s3:spF a (4*k+3) k=((a.getD (4*k) 0).toNat*256%4294967296+(a.getD (4*k+1) 0).toNat)*256%4294967296+(a.getD (4*k+2) 0).toNat:=by
  show spF a (4*k+2+1) k= _;rw[spF,qb kH,d]
 show spF a (4*k+3+1) k= _;rw[spF,qb kH,s3];unfold hi4;omega
theorem vU(a k):∀d,spF a (4*k+4+d) k=spF a (4*k+4) k
 |0=>rfl
 |d+1=>by
  rw[show 4*k+4+(d+1)=(4*k+4+d)+1 from rfl,spF,q4 kH];exact vU a k d
theorem Fn(a)(b:∀i,0<=a.getD i 0/\a.getD i 0<256)(k):spF a 64 k=if k<16 then hi4 a k else 0:=by
 by_cases h:k<16
 ·rw[qb h,<-Fm a b k];have:=vU a k (60-4*k);rw[show 4*k+4+(60-4*k)=64 by omega]at this;exact this
 ·rw[q4 h];exact rJ a 64 k kH
def fr(f:Nat->Nat):List Nat:=(List.range 64).map f
theorem kq(f):(fr f).length=64:=by simp[fr]
theorem rK(f j)(h:j<64):(fr f).getD j 0=f j:=by simp[fr,List.getD,h]
theorem vV(f g j)(h:∀k,g k=if k=j then g j else f k):(fr f).set j (g j)=fr g:=by
 apply oS
 ·simp[fr]
 ·intro i a b;rw[List.getElem_set];simp only[fr,List.getElem_map,List.getElem_range];rw[h i];by_cases e:j=i
  ·subst e;simp
  ·rw[q4 e,q4 (s8 e)]
theorem vW{f g}(h:∀k,k<64->f k=g k):fr f=fr g:=by
 apply oS
 ·simp[fr]
 ·intro i a b;simp only[fr,List.getElem_map,List.getElem_range];exact h i (by simpa [fr]using a)
def wF(ch:List Int)(t k:Nat):Nat:=if k<t then wAt ch k else 0
def wI(b:List Int)(k:Nat):List Int:=(wds b k).map fun n:Nat=>(n:Int)
theorem vX(b k):wI b (k+1)=wI b k++[(wAt b k:Int)]:=by simp[wI,vD]
theorem mK(b k i)(h:i<k):(wI b k).getD i 0=(wAt b i:Int):=by
 have:=lG b k i h;rw[<-this];simp[wI,List.getD,mG,h]
theorem Fo(b i)(h:4*i+4<=b.length):hi4 ((b.drop (4*i)).take 4) 0=hi4 b i:=by
 simp[hi4,List.getD,List.getElem?_drop]
theorem Bs.part{w a n c l}(h:Bs w a n c l)(i j)(k:i<j)(r:j<=n):
 ∃b off,a=some ⟨b,off,none⟩/\Bs w (some ⟨b,off+i,none⟩) (j-i) (c-i) ((l.drop i).take (j-i)):=by
 obtain⟨b,off,e,g,f⟩:=h.at_ kH;have m:=h.le;have o:=h.le';have p:=h.len_eq;refine⟨b,off,e,by simp;omega,kH,kH,fun e=>(by cases e),fun _=>⟨b,off+i,rfl,g,fun q d=> ?_⟩,fun q=> ?_⟩
 ·rw[oK,f (i+q) kH];simp[List.getD,List.getElem?_drop,d]
 ·by_cases d:q<j-i
  ·have:=h.byte (i+q);simpa [List.getD,List.getElem?_take,List.getElem?_drop,d]using this
  ·simp[List.getD,List.getElem?_take,d]
theorem jG{n}(a: -9223372036854775808<=n)(b:n<9223372036854775808):IntKind.i64.wrap n=n:=by
 simp[IntKind.wrap,IntKind.bits,IntKind.signed];omega
theorem Fp(a b c d:Nat)(e:a<4294967296)(f:b<4294967296)(g:c<4294967296)(h:d<4294967296):(IntKind.i64.wrap (IntKind.i64.wrap ((a:Int)+(b:Int)+(c:Int))+(d:Int))).tmod 4294967296=(((a+b+c+d)%4294967296:Nat):Int):=by
 rw[jG (n:=(a:Int)+(b:Int)+(c:Int)) kH kH,jG kH kH,Int.tmod_eq_emod_of_nonneg kH];omega
theorem vY(a b)(h:16<=b):∃x y p q,x=wAt a (b-15)/\y=wAt a (b-2)/\p=wAt a (b-7)/\q=wAt a (b-16)/\wAt a b=(sg1 y+p+sg0 x+q)%4294967296:=
 ⟨_,_,_,_,rfl,rfl,rfl,rfl,vE a h⟩
theorem Fq(a c l w)(h:Bs w a 64 c l):
 Calls prog 214 #[.slice a 64 c] w fun e w'=> ∃g F,e= .returned (.slice (some ⟨g,0,none⟩) 64 F)/\Below w.1.size w w'/\OwnI w.1.size w' (some ⟨g,0,none⟩) 64 F (wI l 64):=by
 go_enter func214,ntmps214;go_wp2;go_loopw [3,4] (fun o i wr=> ∃j a c,j<=16/\i= .int .i64 (j:Nat)/\o= .slice a j c/\Below w.1.size w wr/\OwnI w.1.size wr a j c (wI l j)) (fun _ i _=>16-(intOf i).toNat)
 case atStart=>
  refine⟨0,_,0,kX _,rfl,rfl,bAl _ _,?_⟩;exact mF w #[] [] 0 rfl rfl kH _ kE
 case round=>
  obtain⟨j,Z,P,bn,rfl,rfl,m,k⟩:=hrel;by_cases C:j<16
  ·obtain⟨b,off,rfl,D⟩:=h.part (4*j) (4*j+4) kH kH;have a2:=h.le;have bp:=h.len_eq;have G:hi4 ((l.drop (4*j)).take 4) 0=wAt l j:=by rw[Fo l j kH,rs l C]
   rw[show 4*j+4-4*j=4 by omega]at D;go_wp2_with fail;refine(EG _ 4 _ _ wr (D.below m) rfl).mono ?_;rintro e w1 ⟨rfl,H,rfl⟩;rw[G];have A:Below w.1.size w (wr.drewN H):=sP m _;have L:OwnI w.1.size (wr.drewN H) Z j P (wI l j):=k;generalize wr.drewN H=w1 at*;clear k m D;go_wp2_with (at_builtin;refine D4 rfl _ _ rfl w.1.size Z j P (wI l j) rfl L _ rfl ?len ?B ?_)
   case len=>omega
   case B=>exact A.size
   intro aw F w' K I;have ag:=A.trans I;rw[<-vX]at K;clear L A I;go_wp2;go_roundw
   case rel=>exact⟨j+1,aw,F,kH,by go_num,rfl,ag,K⟩
   case measure=>simp[intOf];omega
  ·have ah:16<=j:=kH;clear C;go_wp2;go_loopw [3,5] (fun o i wr=> ∃f g c,16<=f/\f<=64/\i= .int .i64 (f:Nat)/\o= .slice (some ⟨g,0,none⟩) f c/\Below w.1.size w wr/\OwnI w.1.size wr (some ⟨g,0,none⟩) f c (wI l f)) (fun _ i _=>64-(intOf i).toNat)
   case atStart=>
    obtain⟨g,rfl,_,_⟩:=k.addr kH;exact⟨j,g,P,ah,kH,by rw[show j=16 by omega];rfl,rfl,m,k⟩
   case round=>
    clear k m;obtain⟨f,g,ad,a4,ba,rfl,rfl,m,k⟩:=hrel;by_cases C:f<64
    ·have s:=h.byte;obtain⟨x,y,p,q,S,T,Q,R,G⟩:=vY l f a4;have hx:x<4294967296:=by rw[S];exact jg s _
     have E:y<4294967296:=by rw[T];exact jg s _
     have D:p<4294967296:=by rw[Q];exact jg s _
     have a3:q<4294967296:=by rw[R];exact jg s _
     have bi:wr.cell? ⟨g,f-15,none⟩=some (.int .i64 (x:Nat)):=by rw[k.cell (f-15) kH,mK _ _ _ kH,S]
     have bj:wr.cell? ⟨g,f-2,none⟩=some (.int .i64 (y:Nat)):=by rw[k.cell (f-2) kH,mK _ _ _ kH,T]
     have ae:wr.cell? ⟨g,f-7,none⟩=some (.int .i64 (p:Nat)):=by rw[k.cell (f-7) kH,mK _ _ _ kH,Q]
     have af:wr.cell? ⟨g,f-16,none⟩=some (.int .i64 (q:Nat)):=by rw[k.cell (f-16) kH,mK _ _ _ kH,R]
     have ak:=di (r:=7) kH hx;have am:=di (r:=18) kH hx;have an:=di (r:=17) kH E;have ap:=di (r:=19) kH E;have bq:=gI _ _ ak am;have bs:=gI _ _ an ap;have bt:bits .xor .i64 ((az 7 x^^^az 18 x:Nat):Int) ((x:Int)/8)=(sg0 x:Nat):=gI _ (x/8) (xlt ak am) kH;have bu:bits .xor .i64 ((az 17 y^^^az 19 y:Nat):Int) ((y:Int)/1024)=(sg1 y:Nat):=gI _ (y/1024) (xlt an ap) kH;have a5:=Ek hx;have a6:=El E;have V:∀w,_:=fun w=>iS x 7 w kH hx;have W:∀w,_:=fun w=>iS x 18 w kH hx;have X:∀w,_:=fun w=>iS y 17 w kH E;have Y:∀w,_:=fun w=>iS y 19 w kH E;have t:=kG V (kR W (kR X Y));have ar:Hid _:=G;have N:Hid _:=k;have M:Hid _:=m;clear V W X Y S T Q R G k m s;generalize az 7 x^^^az 18 x=bP at*;generalize az 17 y^^^az 19 y=bR at*;generalize az 7 x=bd at*;generalize az 18 x=be at*;generalize az 17 y=bf at*;generalize az 19 y=bg at*;generalize sg0 x=O at*;generalize sg1 y=z at*;go_wp2_with fail;refine(t.out.1 _).mono ?_;rintro e w1 ⟨rfl,H,rfl⟩;go_wp2_with fail;refine(t.out.2.1 _).mono ?_;rintro e w1 ⟨rfl,bw,rfl⟩;go_wp2_with fail;refine(t.out.2.2.1 _).mono ?_;rintro e w1 ⟨rfl,bx,rfl⟩;go_wp2_with fail;refine(t.out.2.2.2 _).mono ?_;rintro e w1 ⟨rfl,bz,rfl⟩;go_wp2_with fail;have bk:IntKind.i64.wrap ((f:Int)-7)=((f-7:Nat):Int):=by rw[jG kH kH];omega
     have a7:IntKind.i64.wrap ((f:Int)-16)=((f-16:Nat):Int):=by rw[jG kH kH];omega
     have bv:((f-7:Nat):Int)< (f:Int):=kH;have bb:((f-16:Nat):Int)< (f:Int):=kH;have bE:0<=((f-7:Nat):Int):=kH;have bc:0<=((f-16:Nat):Int):=kH;have bH:IntKind.i64.wrap ((z:Int)+(p:Int))=((z+p:Nat):Int):=jG kH kH;have bN:IntKind.i64.wrap (((z+p:Nat):Int)+(O:Int))=((z+p+O:Nat):Int):=jG kH kH;have J:g<wr.1.size:=by
      obtain⟨bl,aX,_,a1⟩:=OwnI.addr N.out kH;cases aX;exact a1
     have U:Hid (∀v:World,Below wr.1.size wr v->v.cell? ⟨g,f-7,none⟩=some (.int .i64 (p:Nat))/\v.cell? ⟨g,f-16,none⟩=some (.int .i64 (q:Nat))):=fun v ac=>
      ⟨(ac.cell (p:=⟨g,f-7,none⟩) J).trans ae,(ac.cell (p:=⟨g,f-16,none⟩) J).trans af⟩
     refine ay (fun v=>v.cell? ⟨g,f-7,none⟩=some (.int .i64 (p:Nat))/\v.cell? ⟨g,f-16,none⟩=some (.int .i64 (q:Nat))) (fun j=>decide (18<=j)) kO ?_;have d:=kR ae af;refine aa 0 d ?_;refine aa 1 d ?_;refine aa 2 d ?_;refine aa 3 d ?_;refine aa 4 d ?_;refine aa 5 d ?_;refine aa 6 d ?_;refine aa 7 d ?_;refine aa 8 d ?_;refine aa 9 d ?_;refine aa 10 d ?_;refine aa 11 d ?_;refine aa 12 d ?_;refine aa 13 d ?_;refine aa 14 d ?_;refine aa 15 d ?_;refine aa 16 d ?_;refine aT 17 kO rfl (fun u n=> ?_);go_simp;refine n.out _ _ (fun _=>U.out _ ((sP kF _).alloc kE _)) ?_;clear n u;refine aT 18 kO rfl (fun u n=> ?_);refine DZ rfl _ _ rfl w.1.size (some ⟨g,0,none⟩) f ad (wI l f) rfl ?_ _ ?_ kH ?_ ?_
     ·exact N.out
     ·rfl
     ·exact M.out.size
     intro bh aO bF ai ab;refine al n ?_;clear n u;refine aT 19 kO rfl (fun u n=> ?_);go_simp;refine al n ?_;clear n u;refine ax ?_;obtain⟨a0,rfl,a8,a9⟩:=OwnI.addr ai kH;have aH:=(sP M.out _).trans ab;clear N M ab t;go_wp2;go_roundw
     case rel=>
      refine⟨f+1,a0,aO,kH,kH,by go_num,rfl,aH,?_⟩;rw[vX,ar.out,<-Fp z p O q a6 D a5 a3];exact ai
     case measure=>simp[intOf];omega
    ·have e:f=64:=kH;subst e;go_wp2;go_ret;exact⟨g,ad,rfl,m,k⟩
def jh:Value->Nat
 | .slice _ n _=>n
 |_=>0
def HSt(w:World)(b:Nat)(m:List Int):Prop:= ∃ch,IsH w b (cW m (m.length/64)) ch m.length/\ch.take (m.length%64)=m.drop (64*(m.length/64))
theorem HSt.below{w w' b m}(h:HSt w b m)(e:Below w.1.size w w'):HSt w' b m:=by
 obtain⟨a,c,d⟩:=h;exact⟨a,c.below e,d⟩
def eE(ch:List Int)(r:Nat)(x:List Int):List Int:=ch.take r++x++ch.drop (r+x.length)
theorem vZ(a r x)(h:r+x.length<=a.length):(eE a r x).length=a.length:=by simp[eE];omega
theorem Fr{a r x}(h:IsB a)(hx:IsB x):IsB (eE a r x):=by
 refine cY (cY (dR h r) hx) (fun i=> ?_);have:=h (r+x.length+i);simpa [List.getD,List.getElem?_drop]using this
theorem wi(a r x)(h:r+x.length<=a.length):(eE a r x).take (r+x.length)=a.take r++x:=by
 unfold eE;rw[oM (by simp;omega),mm (by simp;omega)]
theorem Fs(v a s r x)(c:a.length=64)(h:r+x.length<=64):(hx v a s).take (8+r)++ob x++(hx v a s).drop (8+r+x.length)=hx v (eE a r x) s:=by
 have b:(ow v.list).length=8:=rfl;unfold hx eE;rw[List.take_append,List.drop_append,b,show 8+r-8=r by omega,show 8+r+x.length-8=r+x.length by omega,mm (by rw[b];omega),pk (by rw[b];omega),m7,
  oM (by rw[au];omega),o4 (by rw[au];omega)]
 simp[ob,List.map_take,List.map_drop]
theorem Ft(v a)(s d:Nat)(c:a.length=64):(hx v a s).set 72 (.int .i64 (d:Int))=hx v a d:=by
 have b:(ow v.list).length=8:=rfl;unfold hx;rw[n2 _ _ kH,b,n2 _ _ (by rw[au];omega),au,c]
 rfl
theorem Fu(m x a)(d:a.length=64)(h:a.take (m.length%64)=m.drop (64*(m.length/64)))(e:m.length%64+x.length<64):
 cW (m++x) ((m++x).length/64)=cW m (m.length/64)/\(eE a (m.length%64) x).take ((m++x).length%64)=(m++x).drop (64*((m++x).length/64)):=by
 have b:(m++x).length/64=m.length/64:=by rw[kY];omega
 have c:(m++x).length%64=m.length%64+x.length:=by rw[kY];omega
 rw[b,c];refine⟨ru m x _ kH,?_⟩;rw[wi _ _ _ kH,h,o4 kH]
theorem Fv(m x a)(f:a.length=64)(h:a.take (m.length%64)=m.drop (64*(m.length/64)))(g:m.length%64+x.length=64):
 cW (m++x) ((m++x).length/64)=kj (cW m (m.length/64)) (eE a (m.length%64) x)/\(m++x).length%64=0/\64*((m++x).length/64)=(m++x).length:=by
 have b:(m++x).length/64=m.length/64+1:=by rw[kY];omega
 have c:(m++x).length%64=0:=by rw[kY];omega
 have d:eE a (m.length%64) x=blk (m++x) (m.length/64):=by
  have e:=wi a (m.length%64) x kH;rw[mm (by rw[vZ _ _ _ kH];omega)]at e;rw[e,h,blk,o4 kH,mm (by simp;omega)]
 rw[b,d];refine⟨?_,c,?_⟩
 ·rw[cW,ru m x _ kH]
 ·have:(m++x).length=m.length+x.length:=kY;omega
theorem Fw:prog.globalNamed "loop.example/s01906/impl.startWords" =some 1:=kO
theorem Fx:prog.globalNamed "loop.example/s01906/impl.roundWords" =some 3:=kO
theorem Fy:(prog.globals[1]?).map (·.type)=some 312:=kO
theorem Fz:(prog.globals[3]?).map (·.type)=some 337:=kO
theorem FA:prog.cellsOf 311=1:=kO
theorem wj{w nm g n x}(i:prog.globalNamed nm=some g)(k:(prog.globals[g]?).map (·.type)=some x)(v:prog.underlying x=some (.array n 311))(l:List Nat)(A:l.length=n)(h:Lib.VarReads prog w nm (.agg (l.map fun z:Nat=> .lit (.int .u32 (z:Int))))):∀j,j<n->w.cell? ⟨g,j,none⟩=some (.int .u32 (l.getD j 0:Nat)):=by
 obtain⟨y,B,cs,m,p,o,r,s,t⟩:=h;obtain rfl:=sv (i.symm.trans o);obtain rfl:=sv (k.symm.trans r);intro j u;obtain⟨f',d,q,e,hr⟩:=Lib.array_elem v t j u;rw[FA,oG]at hr;obtain⟨z,c,f,_⟩:=DataW.trod_int underlying311 hr;cases f;have a:j<l.length:=kH;simp only[pb,lx a,Option.map_some,Option.some.injEq,DataW.lit.injEq,Lit.int.injEq,true_and]at e;have b:cs.toList[j]?=some (.int .u32 z):=by
  have:=rx (·[0]?) c;simpa [List.getElem?_take,List.getElem?_drop]using this
 have:=World.var?_cell i s j;rw[this];rw[<-e]at b;simpa [List.getD,a]using b
theorem FB:varsRowed prog ["loop.example/s01906/impl.startWords","loop.example/s01906/impl.roundWords"]=true:=kO
theorem FD{H d P w e a b}{c:List (DataW H)}{ps}(h:DataW.TrodVars d P w e [a,b] c ps):∃g1 g2,c=[g1,g2]:=by
 match c,h with
 |[],h=>exact h.elim
 |[_],⟨_,_,_,_,_,_,_,_,_,_,h,_⟩=>exact h.elim
 |[g1,g2],_=>exact⟨g1,g2,rfl⟩
 |_::_::_::_,⟨_,_,_,_,_,_,_,_,_,_,⟨_,_,_,_,_,_,_,_,_,_,h,_⟩,_⟩=>exact h.elim
theorem wl:(prog.info? 32).map (fun i=>(i.zero,i.size,i.bytes))=some (some (.agg (ob (List.replicate 32 0)).toArray),32,32):=kO
def aS(h:Nat->List Int):Nat->List Value
 |0=>[]
 |k+1=>aS h k++ob (h k)
structure IsHs(h:Nat->List Int)(n:Nat):Prop where
 len:∀i,i<n->(h i).length=32
 byte:∀i,i<n->IsB (h i)
theorem IsHs.mono{h n k}(H:IsHs h n)(b:k<=n):IsHs h k:=⟨fun i a=>H.len i kH,fun i a=>H.byte i kH⟩
theorem wm(h):∀n,IsHs h n->(aS h n).length=n*32
 |0,_=>by simp[aS]
 |n+1,H=>by
  rw[aS,kY,wm h n (H.mono kH),au,H.len n kH];omega
theorem wn(h):∀n,IsHs h n->∀i q,i<n->q<32->(aS h n)[i*32+q]?=some (.int .u8 ((h i).getD q 0))
 |0,_,i,_,b,_=>by omega
 |n+1,H,i,q,b,a=>by
  rw[aS];have c:=wm h n (H.mono kH);by_cases e:i=n
  ·subst e;rw[m4 kH,c,show i*32+q-i*32=q by omega];exact de? _ q (by rw[H.len i kH];exact a)
  ·rw[l7 kH];exact wn h n (H.mono kH) i q kH a
theorem rL{h h'}:∀n,(∀i,i<n->h i=h' i)->aS h n=aS h' n
 |0,_=>rfl
 |n+1,H=>by rw[aS,aS,rL n (fun i a=>H i kH),H n kH]
structure RHs(w:World)(a:Option Addr)(n c:Nat)(h:Nat->List Int):Prop where
 ok:IsHs h n
 le:n<=c
 le':c<=maxLen
 nil:a=none->c=0
 at_:0<n->∃b off,a=some ⟨b,off,none⟩/\b<w.1.size/\∀i q,i<n->q<32->w.cell? ⟨b,off+i*32+q,none⟩=some (.int .u8 ((h i).getD q 0))
theorem RHs.below{w w' a n c h}(H:RHs w a n c h)(d:Below w.1.size w w'):RHs w' a n c h:=
 ⟨H.ok,H.le,H.le',H.nil,fun k=>by
  obtain⟨b,off,e,f,g⟩:=H.at_ k;exact⟨b,off,e,lk f d.size,fun i q j l=>by rw[d.cell (p:=⟨b,off+i*32+q,none⟩) f];exact g i q j l⟩⟩
theorem RHs.cells{w n c b off h}(H:RHs w (some ⟨b,off,none⟩) n c h)(i)(a:i<n):∀j v,(ob (h i))[j]?=some v->w.cell? ⟨b,off+i*32+j,none⟩=some v:=fun j v f=>by
 have d:j<32:=by have:=(lb.1 f).1;rw[au,H.ok.len i a]at this;exact this
 obtain⟨l,k,e,_,g⟩:=H.at_ kH;cases e;rw[g i j a d,<-f];exact(de? _ j (by rw[H.ok.len i a];exact d)).symm
theorem RHs.load{w n c b off h}(H:RHs w (some ⟨b,off,none⟩) n c h)(i)(a:i<n):(Instr.loadAt 32 (.pointer (some ⟨b,off+i*32,none⟩))).run prog w= .ok (.agg (ob (h i)).toArray) w:=by
 have s:(prog.info? 32).map (·.size)=some (ob (h i)).length:=by rw[au,H.ok.len i a];exact aJ
 simp only[Instr.loadAt,Instr.sureAddr,q9,r2,Result.andThen];exact iM w b (off+i*32) 32 (ob (h i)) _ (H.cells i a) qa rfl s
def OHs(B:Nat)(w:World)(a:Option Addr)(n c:Nat)(h:Nat->List Int):Prop:=w.ownsRow B 32 32 (.slice a n c) n (aS h n)
theorem OHs.reads{B w a n c h}(H:OHs B w a n c h)(d:IsHs h n):RHs w a n c h:=by
 rcases H.2 with⟨b,s⟩|⟨g,p,r,b,v,l,j,k,t,u⟩
 ·cases b;exact⟨d,kH,kX _,fun _=>rfl,fun f=>absurd f kH⟩
 ·cases b;refine⟨d,j,k,fun e=>(by cases e),fun f=>⟨g,0,rfl,(k6.1 l).1,fun i q m o=> ?_⟩⟩;rw[show 0+i*32+q=i*32+q by omega,sD H (i*32+q) kH];exact wn h n d i q m o
theorem OHs.below{B w w' a n c h}(H:OHs B w a n c h)(b:Below w.1.size w w'):OHs B w' a n c h:=cj H b
theorem OHs.mono{B b w a n c h}(H:OHs B w a n c h)(d:b<=B):OHs b w a n c h:=World.ownsRow.mono H d
theorem wo(B w h):OHs B w none 0 0 h:=World.ownsRow_nil w B _ _
def ji(h:Nat->List Int)(n:Nat)(x:List Int):Nat->List Int:=fun i=>if i=n then x else h i
theorem FE(h n x):ji h n x n=x:=by simp[ji]
theorem FF(h){n i}(x)(a:i<n):ji h n x i=h i:=by simp[ji,Nat.ne_of_lt a]
theorem FG(h n x):aS (ji h n x) (n+1)=aS h n++ob x:=by
 rw[aS,FE,rL n (fun i a=>FF h x a)]
theorem mL{w1}{o:Oper}{b q J}(s x)(D:o.op= .call {callee:= .builtin .append,args:=#[s,x],argTypes:=#[117,117]})(B a n c h)(E:b.eval s= .slice a n c)(l:OHs B w1 a n c h)(z)(G:z.length=32)(hx:b.eval x= .slice (some ⟨w1.1.size,0,none⟩) 1 1)(L:n<=1048576)(v:B<=w1.1.size)(w:∀d e w',OHs B w' d (n+1) e (ji h n z)->Below B w1 w'->(w1.alloc (.cells (ob z).toArray 32)).grownBy w' (Value.slice a n c).ownBlock->q (b.put o.dst (.slice d (n+1) e)) w'):
 o.wp prog b (w1.alloc (.cells (ob z).toArray 32)) q J:=by
 obtain⟨i,y,r,t,u⟩:=sk wl;have p:=bAl w1 (.cells (ob z).toArray 32);refine wp_append_own _ s x _ D B 32 i _ 32 32 underlying117 y r t u rfl kH _ n (aS h n) E (cj l p) ⟨w1.1.size,0,none⟩ 1 1 (ob z) hx (by rw[au,G]) ?_ (ev _) (by unfold maxLen;omega) kH (by simp;omega) ?_
 ·intro j M A;rw[sj,ld];have:(w1.alloc (.cells (ob z).toArray 32)).cell? ⟨w1.1.size,j,none⟩=(ob z).toArray[j]?:=so _ w1.1.size j _ 32 (0,0) (s2 w1 _);rw[this,<-A];simp
 ·intro v' w' f m _;rw[<-FG]at f;have F:∃d e,v'= .slice d (n+1) e:=by
   rcases f.2 with⟨rfl,K⟩|⟨g,H,I,rfl,_⟩
   ·omega
   ·exact⟨_,_,rfl⟩
  obtain⟨d,e,rfl⟩:=F;exact w d e w' f ((p.mono v).trans (kF.grown m (by simp;omega) (fun k C=>(qX (cj l p) k C).1))) m
theorem FH{P}(w g off)(d k:TypeId)(a cs)(j:Blk w k g a)(e:(P.info? d).map (·.size)=some cs.length)(b:off+cs.length<=a.length)(h:∀v∈cs,v.oneCell'=true):
 (storeVar d ⟨g,off,none⟩ (.agg cs.toArray)).run P w= .ok () (w.setRow g (a.take off++cs++a.drop (off+cs.length)).toArray):=by
 have:=run_storeCells_at P g off k cs 0 a.toArray w j (by simpa using b) h;cases c:P.info? d with
 |none=>simp[c]at e
 |some i=>
  have f:cs.length=i.size:=by simp[c]at e;omega
  simp only[m2]at this;simp[storeVar,sizeOf,typeInfo,c,Value.cells,f];simpa [f]using this
def aD:List Int:=List.replicate 32 0
def fR(f:Nat->List Value)(n:Nat)(g:Nat->List Value):Nat->List Value:=fun i=>if i<n then f i else g (i-n)
theorem wt(f n g):∀m,aQ (fR f n g) (n+m)=aQ f n++aQ g m
 |0=>by
  rw[m2,nF n (f':=f) (fun i a=>by simp[fR,a])];simp[aQ]
 |m+1=>by
  rw[<-oK,aQ,wt f n g m,aQ,show fR f n g (n+m)=g m from by unfold fR;rw[q4 kH,Nat.add_sub_cancel_left],k5]
theorem FJ{w}{o:Oper}{l E ai}(C D){S e s bytes z}(T:ElT S e s z bytes)(L:o.op= .call {callee:= .builtin .append,args:=#[C,D],argTypes:=#[S,S]})(B a n c f)(N:l.eval C= .slice a n c)(k:ORow e s B w a n c f)(b m d g)(hx:l.eval D= .slice b m d)(hr:RRow w s b m d g)(am:n+m<=1048576)(F:bytes<=1048576)(Z:B<=w.1.size)(I:∀p q w',ORow e s B w' p (n+m) q (fR f n g)->w.grownBy w' (Value.slice a n c).ownBlock->E (l.put o.dst (.slice p (n+m) q)) w'):
 o.wp prog l w E ai:=by
 obtain⟨i,J,O,Q,R⟩:=sk T.inf;have y:=T.pos;cases b with
 |none=>
  have ac:=hr.nil rfl;have ad:m=0:=by have:=hr.le;omega
  subst ac;subst ad;have A:=run_append_owned_none (P:=prog) (w:=w) B S o.type e i s T.und J _ _ _ k;have Y:=I a c w (ORow.congr k (fun j x=>by unfold fR;rw[qb kH])) ⟨rfl,rfl,rfl,kE,fun _ _ _=>rfl⟩;unfold Oper.wp;simp only[execOp,L,resolve,invoke,builtin,q9,r2,sr,k9,k4,k7,N,hx,A];exact Y
 |some U=>
  have ah:(n+m)*bytes<=(n+m)*1048576:=Nat.mul_le_mul_left _ F;refine wp_append_own _ C D _ L B e i z s bytes T.und J O Q R T.cells T.pos _ n (aQ f n) N k U m d (aQ g m) hx (by rw[ju _ hr.ok]) ?_ (qC _ hr.ok) (by unfold maxLen;omega) kH Z ?_
  ·intro j an x;have u:j<m*s:=by have:=(lb.1 x).1;rw[ju _ hr.ok]at this;exact this
   have K:0<m:=by rcases o6 m with h|h;rw[h]at u;omega;exact h
   obtain⟨ak,off,V,_,ab⟩:=hr.at_ K;cases V;have M:=Nat.div_lt_of_lt_mul (by rw[Nat.mul_comm];exact u);have v:j%s<s:=m8 _ y;have t:j/s*s+j%s=j:=by rw[Nat.mul_comm];exact Nat.div_add_mod j s
   have X:=ab (j/s) (j%s) M v;have G:=mn m hr.ok (j/s) (j%s) M v;rw[t]at G;rw[sj,show off+j=off+j/s*s+j%s by rw[oK,t],X,<-G];exact x
  ·intro v' w' r H _;rw[<-wt]at r;have ae:∃p q,v'= .slice p (n+m) q:=by
    rcases r.2 with⟨rfl,W⟩|⟨g,af,ag,rfl,_⟩
    ·exact⟨none,0,by rw[W]⟩
    ·exact⟨_,_,rfl⟩
   obtain⟨p,q,rfl⟩:=ae;exact I p q w' r H
theorem oI{w k rest o h G}(t:o.guard=none)(p q){F e s bytes z}(T:ElT F e s z bytes)(D:o.op= .call {callee:= .builtin .append,args:=#[p,q],argTypes:=#[F,F]})(B a n c f)(E:h.eval p= .slice a n c)(l:ORow e s B w a n c f)(b m d g)(hx:h.eval q= .slice b m d)(hr:RRow w s b m d g)(C:n+m<=1048576)(r:bytes<=1048576)(x:B<=w.1.size)(A:∀i j w',ORow e s B w' i (n+m) j (fR f n g)->w.grownBy w' (Value.slice a n c).ownBlock->wpList prog k G rest (h.put o.dst (.slice i (n+m) j)) w'):
 wpList prog k G (o::rest) h w:=
 sH t fun _ y=>FJ p q T D B a n c f E l b m d g hx hr C r x fun i j w' u v=>y _ _ (A i j w' u v)
theorem wu:prog.plainKey 5=true:=kO
theorem ww(d a b w):∀(is:List Nat),(∀i∈is,i<a.length/\i<b.length)->
 (Op.eqItems (d+1) 5 1 (ob a).toArray (ob b).toArray is).run prog w= .ok (is.all fun i=>a.getD i 0==b.getD i 0) w
 |[],_=>by simp[Op.eqItems]
 |i::is,h=>by
  have c:=h i kP;have e:(part 5 (ob a).toArray (i*1)).run prog w= .ok (.int .u8 (a.getD i 0)) w:=run_part_plain w wu (by rw[oG,List.getElem?_toArray];exact de? a i c.1);have f:(part 5 (ob b).toArray (i*1)).run prog w= .ok (.int .u8 (b.getD i 0)) w:=run_part_plain w wu (by rw[oG,List.getElem?_toArray];exact de? b i c.2);have g:=run_equalIn_int (P:=prog) w d 5 .u8 .u8 (a.getD i 0) (b.getD i 0) sM;have ih:=ww d a b w is (fun j k=>h j (by simp[k]));simp only[Op.eqItems,q9,e,f,g,sr,List.all_cons];cases l:(a.getD i 0==b.getD i 0)
  ·simp
  ·simpa using ih
theorem FK{b c:List Int}(h:b.length=c.length):((List.range b.length).all fun i=>b.getD i 0==c.getD i 0)=(b==c):=by
 rw[Bool.eq_iff_iff,oW,beq_iff_eq];constructor
 ·intro H;apply o3;intro i;by_cases a:i<b.length
  ·have:=H i (m3.2 a);rw[beq_iff_eq,oC,oC,lx a,lx kH]at this;rw[lx a,lx kH];simpa using this
  ·rw[ot kH,ot kH]
 ·rintro rfl i _;simp
theorem FM:∃i,prog.info? 5=some i:=by
 obtain⟨i,a,_⟩:=sk i7;exact⟨i,a⟩
theorem rM{a b}(c:a.length=32)(f:b.length=32)(w):(Op.equalIn 10000 32 (.agg (ob a).toArray) (.agg (ob b).toArray)).run prog w= .ok (a==b) w:=by
 obtain⟨i,d⟩:=FM;rw[run_equalIn_array w 9999 _ _ qa d,uk,ww 9998 a b w (List.range 32) (fun j e=>by have:=m3.1 e;omega),<-c,FK kH]
theorem rN{a b}(c:a.length=32)(d:b.length=32)(w):(binOp .neq 32 (.agg (ob a).toArray) (.agg (ob b).toArray)).run prog w= .ok (.bool (a !=b)) w:=by
 rw[run_neq_struct,rM c d];rfl
theorem FN{a b}(c:a.length=32)(d:b.length=32)(w):(binOp .eql 32 (.agg (ob a).toArray) (.agg (ob b).toArray)).run prog w= .ok (.bool (a==b)) w:=by
 rw[run_eql_struct,rM c d];rfl
noncomputable def ddL(f:Nat->List Value):Nat->List (List Value)
 |0=>[]
 |n+1=>open Classical in if f n∈ddL f n then ddL f n else ddL f n++[f n]
theorem oJ{f n}(h:f n∈ddL f n):ddL f (n+1)=ddL f n:=qb h
theorem oL{f n}(h:f n∉ddL f n):ddL f (n+1)=ddL f n++[f n]:=q4 h
theorem oQ(f):∀(n:Nat)(v:List Value),v∈ddL f n↔∃i,i<n/\f i=v
 |0,v=>by simp[ddL]
 |n+1,v=>by
  have key:v∈ddL f (n+1)↔v∈ddL f n\/f n=v:=by
   by_cases h:f n∈ddL f n
   ·rw[oJ h];exact⟨kV,fun a=>a.elim id (fun e=>by rw[<-e];exact h)⟩
   ·rw[oL h,mx,List.mem_singleton];exact⟨fun a=>a.imp id Eq.symm,fun a=>a.imp id Eq.symm⟩
  rw[key,oQ f n v];constructor
  ·rintro(⟨i,b,e⟩|e)
   ·exact⟨i,kH,e⟩
   ·exact⟨n,kH,e⟩
  ·rintro⟨i,b,e⟩;rcases og (oH b)with h|rfl
   ·exact kV ⟨i,h,e⟩
   ·exact kT e
theorem wA(f):∀n,(ddL f n).length<=n
 |0=>by simp[ddL]
 |n+1=>by
  have:=wA f n;by_cases h:f n∈ddL f n
  ·rw[oJ h];omega
  ·rw[oL h,kY];simp;omega
def gu(f:Nat->List Value)(n:Nat):Prop:= ∀i j,i<j->j<n->f i≠f j
theorem wC(f):∀n,(ddL f n).length=n↔gu f n
 |0=>by simp[ddL,gu]
 |n+1=>by
  have k:=wA f n;by_cases h:f n∈ddL f n
  ·rw[oJ h];refine⟨fun e=>by omega,fun b=> ?_⟩;obtain⟨i,g,e⟩:=(oQ f n _).1 h;exact absurd e (b i n g kH)
  ·rw[oL h,kY];have ih:=wC f n;refine⟨fun e i j a c=> ?_,fun b=> ?_⟩
   ·rcases og (oH c)with h1|rfl
    ·exact(ih.1 (by simp at e;omega)) i j a h1
    ·exact fun d=>h ((oQ f j _).2 ⟨i,a,d⟩)
   ·have:=ih.2 (fun i j a c=>b i j a kH);simp;omega
def SetM(w:World)(b:Nat)(f:Nat->List Value)(n:Nat):Prop:= ∃es clock,w.heap[b]?=some (.map es clock)/\es.toList.map (·.key)=(ddL f n).map fun x=>Value.agg x.toArray
theorem SetM.below{w w' b f n}(h:SetM w b f n)(e:Below w.1.size w w'):SetM w' b f n:=by
 obtain⟨es,c,a,d⟩:=h;exact⟨es,c,by rw[e.block b (k6.1 a).1];exact a,d⟩
theorem wG(w:World)(f):SetM (w.alloc (.map #[] 0)) w.1.size f 0:=⟨#[],0,(MapKept.heap_alloc w _).1,by simp[ddL]⟩
theorem wH{x y:List Value}(h:Value.agg x.toArray=Value.agg y.toArray):x=y:=by
 have:=Value.agg.inj h;simpa using rx Array.toList this
theorem FO{w b f}{n H k e:Nat}(h:SetM w b f n)(K:Go.Maps.Keyed prog k)(A:prog.underlying H=some (.map k e))(z:∀i,i<=n->∃l,keyOf prog k (.agg (f i).toArray)=some l)(v):
 ∃w',(Instr.mapUpdate H (.map (some b)) (.agg (f n).toArray) v).run prog w= .ok () w'/\SetM w' b f (n+1)/\OnlyB b w w':=by
 obtain⟨es,p,a,c⟩:=h;obtain⟨J,hx⟩:=z n kE;have r:∀x∈es.toList,∃l,keyOf prog k x.key=some l:=fun x hx=>by
  have:x.key∈(ddL f n).map fun x=>Value.agg x.toArray:=by rw[<-c];exact List.mem_map_of_mem hx
  obtain⟨y,u,e⟩:=oj.1 this;obtain⟨i,I,rfl⟩:=(oQ f n y).1 u;rw[<-e];exact z i kH
 have g:∀o,OnlyB b w (ChangeMaps.setBlock w b o):=fun o=>⟨rfl,rfl,rfl,by simp[ChangeMaps.setBlock],fun q _ m=>ChangeMaps.heap_setBlock_other a _ m⟩;rcases K.find w hx es.toList r with⟨hr,G⟩|⟨j,e0,hr,s,d⟩
 ·refine⟨ChangeMaps.setBlock w b (.map (es.push {key:= .agg (f n).toArray,val:=v,born:=p}) (p+1)),?_,⟨_,_,ChangeMaps.heap_setBlock_same a _,?_⟩,g _⟩
  ·simp[Instr.mapUpdate,run_underlying A,MapKept.run_getObj_map a,K.check w false hx,hr,Result.andThen,MapKept.run_setObj_map _ a,ChangeMaps.setBlock]
  ·rw[oL (fun F=> ?_)]
   ·simp[c]
   ·have:Value.agg (f n).toArray∈es.toList.map (·.key):=by rw[c];exact List.mem_map_of_mem F
    obtain⟨x,B,C⟩:=oj.1 this;exact G x B C
 ·have t:f n∈ddL f n:=by
   have D:=List.mem_of_getElem? s;have:e0.key∈(ddL f n).map fun x=>Value.agg x.toArray:=by rw[<-c];exact List.mem_map_of_mem D
   obtain⟨y,u,e⟩:=oj.1 this;rw[d]at e;rw[<-wH e];exact u
  have E:es[j]?=some e0:=by simpa using s
  refine⟨ChangeMaps.setBlock w b (.map (es.modify j fun e=>{e with key:= .agg (f n).toArray,val:=v}) p),?_,⟨_,_,ChangeMaps.heap_setBlock_same a _,?_⟩,g _⟩
  ·simp[Instr.mapUpdate,run_underlying A,MapKept.run_getObj_map a,K.check w false hx,hr,Result.andThen,E,d,K.stays w hx,MapKept.run_setObj_map _ a,ChangeMaps.setBlock]
  ·rw[oJ t,<-c];apply o3;intro q;simp only[pb,Array.toList_modify,List.getElem?_modify];by_cases m:j=q
   ·subst m;simp[s,d]
   ·simp[m]
theorem wJ{w c rest o a z}(p:o.guard=none)(m x v)(A:Nat)(h:o.op=Op.mapUpdate A m x v)(k e:Nat)(K:Go.Maps.Keyed prog k)(t:prog.underlying A=some (.map k e))(b f n)(r:a.eval m= .map (some b))(s:SetM w b f n)(hx:a.eval x= .agg (f n).toArray)(q:∀i,i<=n->∃l,keyOf prog k (.agg (f i).toArray)=some l)(j:∀w',SetM w' b f (n+1)->OnlyB b w w'->wpList prog c z rest (a.put o.dst undef) w'):wpList prog c z (o::rest) a w:=by
 refine sH p fun K' g=> ?_;obtain⟨w',d,u,y⟩:=FO s K t q (a.eval v);unfold Oper.wp;simp[execOp,h,r,hx,d,Result.andThen];exact g _ _ (j w' u y)
theorem SetM.len{w b f}{n j k e:Nat}(h:SetM w b f n)(g:prog.underlying j=some (.map k e))(i:Nat):(Builtin.len_ #[j] i #[.map (some b)]).run prog w= .ok (.int .i64 ((ddL f n).length:Nat)) w:=by
 obtain⟨es,l,c,d⟩:=h;have a:es.size=(ddL f n).length:=by have:=rx List.length d;simpa using this
 rw[<-a];simp[Builtin.len_,run_underlying g,MapKept.run_getObj_map c,goInt,Result.andThen]
theorem wK{w c rest o a q}(i:o.guard=none)(m)(r:Nat)(g:o.op=Op.call {callee:=Callee.builtin Builtin.len,args:=#[m],argTypes:=#[r]})(k e:Nat)(p:prog.underlying r=some (.map k e))(b f n)(j:a.eval m= .map (some b))(l:SetM w b f n)(h:wpList prog c q rest (a.put o.dst (.int .i64 ((ddL f n).length:Nat))) w):wpList prog c q (o::rest) a w:=by
 refine sH i fun K' d=> ?_;unfold Oper.wp;simp[execOp,g,resolve,invoke,builtin,j,l.len p o.type,Result.andThen];exact d _ _ h
theorem wL{g i:Type}(f:g->Option i):∀c:List g,(∀x∈c,∃y,f x=some y)->∃a,c.mapM f=some a
 |[],_=>⟨[],rfl⟩
 |x::c,h=>by
  obtain⟨y,d⟩:=h x kP;obtain⟨a,b⟩:=wL f c (fun z e=>h z (by simp[e]));exact⟨y::a,by simp[List.mapM_cons,d,b]⟩
theorem rO:prog.cellsOf 32=32:=kO
theorem wM:prog.cellsOf 52=33:=kO
theorem FP:prog.cellsOf 5=1:=kO
theorem FQ:prog.cellsOf 3=1:=kO
theorem wN:∃m,prog.types.size=m+1+1:=⟨382-2,kO⟩
theorem wO(m){l}(g:l.length=32)(d:IsB l):∃ls,prog.keyLits (m+1+1) 32 (ob l)=some ls:=by
 unfold Program.keyLits;simp only[qa,rO,FP,au,g];rw[qb trivial];obtain⟨h,b⟩:=wL (fun i=>prog.keyLits (m+1) 5 (((ob l).drop (i*1)).take 1)) (List.range 32) (fun i f=>by
  have a:i<l.length:=by have:=m3.1 f;omega
  have e:((ob l).drop (i*1)).take 1=[.int .u8 (l.getD i 0)]:=by
   have:=de? l i a;rw[oG];rw[oF (by rw[au];exact a)];have c:(ob l)[i]'(by rw[au];exact a)= .int .u8 (l.getD i 0):=by
    rw[lx (by rw[au];exact a)]at this;exact sv this
   rw[c]
   rfl
  have j:=d i;rw[e];generalize l.getD i 0=x at*;refine⟨[.int .u8 x],?_⟩;unfold Program.keyLits;simp only[sM];rw[qb ⟨trivial,by simp[Lit.wf,show IntKind.u8.min=0 from rfl,show IntKind.u8.max=255 from rfl];omega⟩])
 exact⟨h.flatten,by rw[b];rfl⟩
theorem FT{l}(b:l.length=32)(d:IsB l):∃k,keyOf prog 32 (.agg (ob l).toArray)=some k:=by
 have a:prog.keyType 32=true:=kO;obtain⟨m,e⟩:=wN;obtain⟨ls,c⟩:=wO (m+1) b d;refine⟨.string (keyBytes ls),?_⟩;unfold keyOf;simp only[qa];rw[qb (by simp[a,Value.formed,underlying32,rO,au,b]),e];simp only[Value.cells,c]
 rfl
theorem FU{p}(a:p.1.length=32)(g:IsB p.1)(i: -9223372036854775808<=p.2)(j:p.2<=9223372036854775807):∃k,keyOf prog 52 (.agg (pc p).toArray)=some k:=by
 have c:prog.keyType 52=true:=kO;obtain⟨m,h⟩:=wN;obtain⟨ls,b⟩:=wO m a g;have b:prog.keyLits (m+2) 32 (ob p.1)=some ls:=b;refine⟨.string (keyBytes (ls++[.int .i64 p.2])),?_⟩;unfold keyOf;simp only[r9];rw[qb (by simp[c,Value.formed,underlying52,wM,dS p a]),h];have d:(pc p).take 32=ob p.1:=by unfold pc;rw[oM (by simp[au,a]),mm (by simp[au,a])]
 have e:((pc p).drop 32).take 1=[.int .i64 p.2]:=by unfold pc;rw[o4 (by simp[au,a]),List.drop_of_length_le (by simp[au,a])];rfl
 have f:prog.keyLits (m+1+1) 3 [.int .i64 p.2]=some [.int .i64 p.2]:=by
  unfold Program.keyLits;simp only[r7];rw[qb ⟨trivial,by simp[Lit.wf,show IntKind.i64.min= -9223372036854775808 from rfl,show IntKind.i64.max=9223372036854775807 from rfl];omega⟩]
 unfold Program.keyLits;simp only[r9,Value.cells,wM,dS p a];rw[qb ⟨trivial,kO⟩];simp[List.mapM_cons,rO,FQ,d,e,b,f]
theorem FW(n:Nat)(w)(o:n<=1048576):
 Calls prog 218 #[.slice none 0 0,.int .i64 n] w fun e w'=> ∃a c,e= .returned (.slice a 0 c)/\Below w.1.size w w'/\Own w.1.size w' a 0 c []:=by
 by_cases g:0<n
 ·obtain⟨i,h,d,m,f⟩:=sk i7;have hr:=fun j k=>Lib.run_append_nil_zeros (P:=prog) k 70 3 j 5 i _ .i64 .i64 rC r7 h d n g kH kH (by rw[f];omega);go_enter func218,ntmps218;go_wp2_with (at_builtin;refine Lib.wpList_append_run _ rfl _ _ _ _ rfl _ _ rfl rfl _ _ (hr _ _) ?_);go_ret;have l:=grownCap_ge w n 0 5;have b:=grownCap_le_maxLen w n 0 5 (by unfold maxLen;omega);refine⟨_,_,rfl,(bAl _ _).drew,?_⟩;refine World.ownsRow_made (size:=1) w _ _ kE b ?_;simp[size_zeroCells];omega
 ·have e:n=0:=kH;subst e;go_enter func218,ntmps218;go_wp2;go_ret;exact⟨none,0,rfl,kF,gR _ _⟩
def dT(L:Nat->List Int):Nat->List Int
 |0=>[]
 |k+1=>dT L k++L k
theorem rP(a){j k}(h:j<=k):(dT a j).length<=(dT a k).length:=by
 induction k with
 |zero=>have:j=0:=kH;subst this;exact kE
 |succ k ih=>
  by_cases e:j=k+1
  ·subst e;exact kE
  ·have:=ih kH;simp[dT];omega
theorem FX(b off n C)(E:Nat->Option Addr)(N F:Nat->Nat)(d w)(L:b<w.1.size)(V:n<=1048576)(r:∀i,i<n->w.cell? ⟨b,off+i,none⟩=some (.slice (E i) (N i) (F i)))(s:∀i,i<n->Bs w (E i) (N i) (F i) (d i))(P:(dT d n).length<=1048576):
 Calls prog 202 #[.slice (some ⟨b,off,none⟩) n C] w fun e w'=> ∃a c,e= .returned (.slice a (dT d n).length c)/\Below w.1.size w w'/\Own w.1.size w' a (dT d n).length c (dT d n):=by
 go_enter func202,ntmps202;go_wp2
 go_loop [3,11] (fun x i=> ∃k:Nat,k<=n/\i= .int .i64 k/\x= .int .i64 ((dT d k).length:Nat)) (fun _ i=>n-(intOf i).toNat)
 case atStart=>exact⟨0,kX _,rfl,rfl⟩
 case round=>
  obtain⟨k,M,rfl,rfl⟩:=hrel;have U:=rP d M;by_cases f:k<n
  ·have v:=r k f;have A:=s k f;have h:Hid ((dT d (k+1)).length=(dT d k).length+N k):=by
    show(dT d k++d k).length= _;rw[kY,A.len_eq]
   have l:=rP d (show k+1<=n from f);rw[h.out]at l;generalize (dT d k).length=R at*;generalize N k=S at*;have O:¬((R:Int)+(S:Int)<0):=kH;clear r s A;go_wp2
   go_round
   case rel=>exact⟨k+1,kH,by go_num,by rw[h.out];go_num⟩
   case measure=>simp[intOf];omega
  ·have e:k=n:=kH;subst e;go_wp2_with fail;refine(FW (dT d k).length _ P).mono ?_;rintro e w1 ⟨I,K,rfl,u,z⟩;go_wp2_with fail;go_loopw [6,27] (fun o i wr=> ∃j a c,j<=k/\i= .int .i64 (j:Nat)/\o= .slice a (dT d j).length c/\Below w.1.size w wr/\Own w.1.size wr a (dT d j).length c (dT d j)) (fun _ i _=>k-(intOf i).toNat)
   case atStart=>exact⟨0,I,K,kX _,rfl,rfl,u,z⟩
   case round=>
    obtain⟨j,a,c,T,rfl,rfl,g,m⟩:=hrel;by_cases f:j<k
    ·have v:wr.cell? ⟨b,off+j,none⟩=some (.slice (E j) (N j) (F j)):=by rw[g.cell (p:=⟨b,off+j,none⟩) L];exact r j f
     have q:=(s j f).below g;have l:=rP d (show j+1<=k from f);have h:Hid ((dT d (j+1)).length=(dT d j).length+N j):=by
      show(dT d j++d j).length= _;rw[kY,q.len_eq]
     rw[h.out]at l;have G:Hid (dT d (j+1)=dT d j++d j):=rfl;have Q:=g.size;clear r s z u;go_wp2_with (at_builtin;refine db rfl _ _ rfl w.1.size a _ c (dT d j) rfl ?own (E j) (N j) (F j) (d j) rfl ?bs ?len ?B ?_)
     case own=>exact m
     case bs=>exact q
     case len=>omega
     case B=>exact Q
     intro H J w' y t _;have D:=g.trans t;rw[<-h.out,<-G.out]at y;rw[<-h.out];clear m g t q v;go_wp2;go_roundw
     case rel=>exact⟨j+1,H,J,kH,by go_num,rfl,D,y⟩
     case measure=>simp[intOf];omega
    ·have e:j=k:=kH;subst e;go_wp2;go_ret;exact⟨a,c,rfl,g,m⟩
def fS(k:Nat):Nat:=5000/2^k
theorem FY(k):fS k/2=fS (k+1):=by unfold fS;rw[Nat.div_div_eq_div_mul,Nat.pow_succ]
theorem wP(k):fS k<=5000:=Nat.div_le_self _ _
theorem rQ(k)(h:13<=k):fS k=0:=by
 unfold fS;have:2^13<=2^k:=Nat.pow_le_pow_right kH h;exact Nat.div_eq_of_lt kH
theorem FZ(k)(h:k<13):0<fS k:=by
 unfold fS;have:2^k<=2^12:=Nat.pow_le_pow_right kH kH;exact Nat.div_pos kH (Nat.two_pow_pos k)
def dt(z:Int):Nat:=if z<1 then 0 else fS (z/3).toNat
theorem F4(z w)(n:z<=9223372036854775807):
 Calls prog 116 #[.int .i64 z] w fun e w'=>e= .returned (.int .i64 (dt z:Nat))/\w'=w:=by
 by_cases g:z<1
 ·have b:Hid (dt z=0):=by show _= _;unfold dt;rw[qb g]
  go_enter func116,ntmps116;go_wp2;go_ret;exact⟨by rw[b.out];rfl,rfl⟩
 ·have b:Hid (dt z=fS (z/3).toNat):=by show _= _;unfold dt;rw[q4 g]
  go_enter func116,ntmps116;go_wp2
  go_loop [3,4] (fun v i=> ∃k:Nat,(k:Int)<=z/3/\k<=13/\i= .int .i64 k/\v= .int .i64 (fS k:Nat)) (fun _ i=>13-(intOf i).toNat)
  case atStart=>exact⟨0,kH,kH,rfl,rfl⟩
  case round=>
   obtain⟨k,o,l,rfl,rfl⟩:=hrel;have f:=wP k;by_cases m:(k:Int)<z/3
   ·by_cases d:k<13
    ·have p:=FZ k d;have h:Hid (fS k/2=fS (k+1)):=FY k;generalize fS k=q at*;go_wp2
     go_round
     case rel=>exact⟨k+1,kH,kH,by go_num,by rw[<-h.out];go_num⟩
     case measure=>simp[intOf];omega
    ·have a:=rQ k kH;have j:Hid (fS (z/3).toNat=0):=rQ _ kH;have c:Hid _:=a;rw[a];clear a f;go_wp2;go_ret;exact⟨by rw[b.out,j.out];rfl,rfl⟩
   ·have c:Hid ((z/3).toNat=k):=by show _= _;omega
    go_wp2;go_ret;exact⟨by rw[b.out,c.out];rfl,rfl⟩
theorem Ga(z)(a:¬z<1):(5000:Int)/2^min (z/3).toNat 64=(dt z:Nat):=by
 unfold dt;rw[q4 a];generalize (z/3).toNat=k;by_cases h:k<=64
 ·rw[Nat.min_eq_left h];simp[fS]
 ·rw[Nat.min_eq_right kH,rQ k kH];rfl
theorem Gb(z w)(c:z<=9223372036854775807):
 Calls prog 129 #[.int .i64 z] w fun e w'=>e= .returned (.int .i64 (dt z:Nat))/\w'=w:=by
 by_cases a:z<1
 ·have b:Hid (dt z=0):=by show _= _;unfold dt;rw[qb a]
  go_enter func129,ntmps129;go_wp2;go_ret;exact⟨by rw[b.out];rfl,rfl⟩
 ·have f:=Ga z a;have d:(0:Int)<=z/3:=kH;go_enter func129,ntmps129;go_wp2;go_ret;exact⟨rfl,rfl⟩
theorem wQ{s}(f v):∀n i q,i<n->q<s->IsRow s f n->(aQ f n).set (i*s+q) v=aQ (dg f i ((f i).set q v)) n
 |0,i,q,h,_,_=>by omega
 |n+1,i,q,h,c,H=>by
  have a:=ju n (H.mono kH);by_cases e:i=n
  ·subst e;rw[nG,aQ,n2 _ _ kH,a,show i*s+q-i*s=q by omega]
  ·have b:(i+1)*s<=n*s:=oO _ kH;rw[ov,n8]at b;rw[aQ,aQ,List.set_append_left _ _ kH,wQ f v n i q kH c (H.mono kH)];have:dg f i ((f i).set q v) n=f n:=by simp[dg,Ne.symm e]
   rw[this]
theorem kr{e s B g w n c f}(h:ORow e s B w (some ⟨g,0,none⟩) n c f)(j:IsRow s f n)(i q)(a:i<n)(d:q<s):w.cell? ⟨g,i*s+q,none⟩=(f i)[q]?:=by
 have b:(i+1)*s<=n*s:=oO _ kH;rw[ov,n8]at b;rw[sD h (i*s+q) kH];exact mn n j i q a d
theorem rR{e s B g w n c f}(h:ORow e s B w (some ⟨g,0,none⟩) n c f)(d:IsRow s f n)(i q)(a:i<n)(b:q<s)(v):
 ORow e s B (w.setCell ⟨g,i*s+q,none⟩ v) (some ⟨g,0,none⟩) n c (dg f i ((f i).set q v))/\w.grownBy (w.setCell ⟨g,i*s+q,none⟩ v) (some g):=by
 have:=World.ownsRow.stored h (i*s+q) v;unfold ORow;rw[<-wQ f v n i q a b d];exact this
def dgs(k:Nat):List Int:=if h:k=0 then []else dgs (k/10)++[48+((k%10:Nat):Int)]
termination_by k
decreasing_by omega
def mkT(k:Int):ByteArray:=if k<=0 then strOfNums [109,48]else strOfNums (109::dgs k.toNat)
theorem wS(l m):strOfNums l++strOfNums m=strOfNums (l++m):=by
 apply ByteArray.ext;simp[strOfNums]
theorem wT{k}(h:k≠0):dgs k=dgs (k/10)++[48+((k%10:Nat):Int)]:=by
 rw[dgs,dif_neg h]
theorem wU:dgs 0=[]:=by rw[dgs];simp
theorem wV(k):(dgs k).length<=k:=by
 by_cases h:k=0
 ·rw[h,wU];simp
 ·rw[wT h,kY];have:=wV (k/10);simp;omega
termination_by k
decreasing_by omega
theorem oU(x)(k:0<x)(p:x<1099511627776)(w):
 Calls prog 64 #[.int .i64 x] w fun e w'=>e= .returned (.string (mkT x))/\Below w.1.size w w':=by
 have v:Hid (mkT x=strOfNums (109::dgs x.toNat)):=by
  show mkT x= _;unfold mkT;rw[q4 kH]
 have m:¬x<=0:=kH;have f:=kG k p;clear k p;generalize mkT x=r at*;go_enter func64,ntmps64;go_upto_region 1 with fail
 go_upto_region 3 with fail
 go_wp2_with fail;go_loopw [0,3] (fun z s3 wr=> ∃(j:Int)(l:List Int),z= .int .i64 j/\s3= .string (strOfNums l)/\0<=j/\j<1099511627776/\dgs x.toNat=dgs j.toNat++l/\Below w.1.size w wr) (fun s _ _=>(intOf s).toNat)
 case atStart=>exact⟨x,[],rfl,rfl,by have:=f.out.1;omega,f.out.2,kP,kF⟩
 case round=>
  obtain⟨j,l,rfl,rfl,A,D,a,b⟩:=hrel;obtain⟨h,rfl⟩:∃x,x=wr:=⟨_,rfl⟩;have q:l.length<=x.toNat:=by
   have m:=wV x.toNat;rw[a,kY]at m;omega
  have d:((strOfNums l).size:Int)<1099511627776:=by
   have:=f.out;rw[rg];omega
  clear q;by_cases B:(0:Int)<j
  ·have c:Hid (strOfNums [48+j%10]++strOfNums l=strOfNums ((48+j%10)::l)/\dgs x.toNat=dgs (j/10).toNat++((48+j%10)::l)):=by
    refine⟨by rw[wS];rfl,?_⟩;rw[a,wT kH,k5,show(j/10).toNat=j.toNat/10 by omega];have:((j.toNat%10:Nat):Int)=j%10:=kH;rw[this]
    rfl
   have t:Hid _:=b.trans (((p4 h.1.size h).alloc kE (.cells #[.int .u8 (48+j%10)] 5)).mono b.size);have E:=aP (cZ h (48+j%10) kH kH);have C:(0:Int)<=j%10:=kH;clear a b;have o:((strOfNums [48+j%10]).size:Int)=1:=by rw[rg];rfl
   generalize strOfNums l=g at*;generalize strOfNums [48+j%10]=y at*;have n:¬(9223372036854775807:Int)< (y.size:Int)+(g.size:Int):=kH;clear o d;go_wp2_with fail;go_roundw
   case rel=>exact⟨j/10,(48+j%10)::l,by go_num,by rw[c.out.1],kH,kH,c.out.2,t.out⟩
   case measure=>simp[intOf];omega
  ·have u:Hid (r=⟨#[109]⟩++strOfNums l):=by
    show r= _;rw[v.out,a,show j.toNat=0 by omega,wU,show(⟨#[109]⟩:ByteArray)=strOfNums [109]from rfl,wS]
    rfl
   have i:Hid _:=b;clear a b;generalize strOfNums l=g at*;have n:¬(9223372036854775807:Int)<1+(g.size:Int):=kH;clear d;go_wp2_with fail;go_ret;rw[u.out];exact⟨rfl,i.out⟩
