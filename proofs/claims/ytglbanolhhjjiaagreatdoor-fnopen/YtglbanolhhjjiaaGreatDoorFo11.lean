import Derived.Test.YtglbanolhhjjiaaGreatDoorFo10
namespace Go.Proofs.YtglbanolhhjjiaaGreatDoor
open Go.Proofs.Tryz
open Go.RowKit
set_option linter.unusedVariables false
set_option maxRecDepth 100000
set_option maxHeartbeats 32000000
theorem Cw:ElT 194 197 2 (.agg #[.string (strOfNums []),.int .i64 0]) 24:=⟨underlying194,vk,rfl,uA⟩
def l0:ByteArray×Int:=(strOfNums [],0)
def lnF(es:List (ByteArray×Int)):Nat->List Value:=fun i=>[.string (es.getD i l0).1,.int .i64 (es.getD i l0).2]
theorem Cx(es x i)(a:i<es.length+1):cH (lnF es) es.length [.string x.1,.int .i64 x.2] i=lnF (es++[x]) i:=by
 by_cases e:i=es.length
 ·subst e;rw[iJ];simp[lnF]
 ·rw[jQ _ _ uA];simp[lnF,List.getD,List.getElem?_append_left (show i<es.length by omega)]
def LnP(l:List Int)(g:Nat)(w:World)(e:Ending)(w':World):Prop:=OnlyB g w w'/\((∃ls a c,inP l=some ls/\e= .returned (.slice a ls.length c)/\ORow 197 2 w.1.size w' a ls.length c (lnF ls))\/(inP l=none/\e= .panicked bI))
theorem Cy(a i):prog.built 197 [(0,.string a),(1,.int .i64 i)]=some #[.string a,.int .i64 i]:=vk
theorem Cz(i):prog.built 197 [(1,.int .i64 i)]=some #[.string (strOfNums []),.int .i64 i]:=vk
theorem uX(e s B)(w:World)(a:B<=w.1.size)(x)(hx:x.length=s)(f)(b:f 0=x):ORow e s B (w.alloc (.cells x.toArray e)) (some ⟨w.1.size,0,none⟩) 1 1 f:=by
 have:=World.ownsRow_lit (base:=B) (e:=e) (size:=s) w x.toArray 1 a (by unfold maxLen;omega) (by simp[hx]);simpa [ORow,aK,b]using this
theorem CA(g B l w)(h:Cur w g B l)(a9:B<=w.1.size)(ba:l.length<=1048576):
 Calls prog 126 #[.pointer (some ⟨g,0,none⟩)] w fun e w'=>LnP l g w e w':=by
 have a0:=h.lt;by_cases aX:l.length<4
 ·have Y:=nt g B l w h aX;have k:inP l=none:=by unfold inP;rw[CH uA]
  clear h;go_enter func126,ntmps126;go_wp2_with fail;refine Y.mono ?_;rintro e w1 ⟨rfl,d⟩;go_wp2;exact⟨rfl,d,v6 ⟨k,rfl⟩⟩
 have Y:=uf g B l w h uA;have M:inP l=(lnP (l.drop 4)).map ((strOfNums [],eg l):: ·):=by unfold inP;rw[B4 uA]
 have X:Hid _:=M;rw[show low (l.take 4)=eg l from rfl]at Y;clear h M;go_enter func126,ntmps126;go_upto_region 2 with fail
 refine Y.mono ?_;rintro e w1 ⟨rfl,d,f⟩;clear Y;have I:=Cz (eg l);have t:=uv d f;have A:=d.size;clear d f;go_upto_region 2 with fail
 have H:ORow 197 2 w.1.size (w1.alloc (.cells [.string (strOfNums []),.int .i64 (eg l)].toArray 197)) (some ⟨w1.1.size,0,none⟩) 1 1 (lnF [(strOfNums [],eg l)]):=uX _ _ _ _ A _ rfl _ rfl;have v:=bAl w1 (.cells [.string (strOfNums []),.int .i64 (eg l)].toArray 197);have d:=t.out.1.thenN v A;have f:=t.out.2.belowB v uA uA;change Code.wp _ _ _ _ (w1.alloc (.cells [.string (strOfNums []),.int .i64 (eg l)].toArray 197));generalize (w1.alloc (.cells [.string (strOfNums []),.int .i64 (eg l)].toArray 197))=bc at*;generalize w1.1.size=a3 at*;have Q:=uv d (vJ f H);clear d f H v t A I;go_loopw [3] (fun s wr=> ∃(a:Option Addr)(c:Nat)(es:List (ByteArray×Int))(b:List Int),s= .slice a es.length c/\OnlyB g w wr/\Cur wr g B b/\ORow 197 2 w.1.size wr a es.length c (lnF es)/\inP l=(lnP b).map (es++ ·)/\es.length+b.length<=l.length) (fun _ wr=>fk wr g)
 case atStart=>exact⟨some ⟨a3,0,none⟩,1,[(strOfNums [],eg l)],l.drop 4,rfl,Q.out.1,Q.out.2.1,Q.out.2.2,by rw[X.out];rfl,by simp;omega⟩
 case round=>
  obtain⟨a,c,es,b,rfl,x,m,af,K,a7⟩:=hrel;obtain⟨F,ak⟩:=aa wr;subst ak;have J:=iU m;have V:Hid _:=J;have j:=uv K (vJ x af);have am:=x.size;clear J K x af;have p:=nu g B b F m;by_cases n:b.length=0
  ·rw[CR n]at p;have S:Hid (inP l=some es):=by show inP l=some es;rw[j.out.1,gZ n];simp
   clear m;go_wp2_with fail;refine p.mono ?_;rintro e u ⟨rfl,z⟩;obtain rfl:=z.symm;clear z p;go_wp2_with fail;go_ret;exact⟨j.out.2.1,v7 ⟨es,a,c,S.out,rfl,j.out.2.2⟩⟩
  rw[CP n]at p;have q:Hid (∀w',OnlyB g F w'->eJ b=false->LnP l g w (.panicked bI) w'):=fun w' x a2=>by
   refine⟨j.out.2.1.trans x,v6 ⟨?_,rfl⟩⟩;rw[j.out.1,ji n a2];rfl
  go_upto_region 3 with fail
  refine p.mono ?_;rintro e u ⟨rfl,z⟩;obtain rfl:=z.symm;clear z p;go_upto_region 3 with fail
  by_cases ae:¬(1<=lfK b/\lfK b<=40/\1+lfK b<=b.length)
  ·have aA:=uh g B b F m ae;have k:eJ b=false:=by
    rw[<-xA,gJ];omega
   clear m;go_wp2_with fail;refine aA.mono ?_;rintro e w1 ⟨rfl,d⟩;go_wp2;exact⟨rfl,q.out _ d k⟩
  obtain⟨N,O,P⟩:=Decidable.of_not_not ae;have Z:=ug g B b F m N O P;clear m;go_upto_region 4 with fail
  refine Z.mono ?_;rintro e w1 ⟨rfl,d,f⟩;clear Z;go_upto_region 4 with fail
  have ad:(b.drop (1+lfK b)).length=b.length-(1+lfK b):=wi;by_cases ag:(b.drop (1+lfK b)).length<4
  ·have aB:=nt g B _ w1 f ag;have k:eJ b=false:=by
    rw[<-xA,gJ];omega
   clear f;go_wp2_with fail;refine aB.mono ?_;rintro e a5 ⟨rfl,E⟩;go_wp2;exact⟨rfl,q.out _ (d.trans E) k⟩
  have R:=uf g B _ w1 f uA;clear f;have y:eJ b=true:=by rw[gJ];omega
  rw[show low ((b.drop (1+lfK b)).take 4)=eg (b.drop (1+lfK b))from rfl,w7,show 1+lfK b+4=5+lfK b by omega]at R;have a8:5+lfK b<=b.length:=uA;have ap:Hid _:=y;clear ad ag N O P y;go_wp2_with fail;refine R.mono ?_;rintro e a5 ⟨rfl,E,T⟩;clear R;have o:=d.trans E;have ab:=j.out.2.2.onlyN o uA;have an:=wg am o.size;have G:=uv T o;clear T o d E;have I:=Cy (cU b) (eg (b.drop (1+lfK b)));generalize L:eg (b.drop (1+lfK b))=C at*;have W:Hid _:=L;clear L;go_upto_region 9 with(first|(refine tf rfl _ _ Cw rfl w.1.size a _ c (lnF es) rfl ab [.string (cU b),.int .i64 C] rfl (by simp[Value.oneCell']) rfl uA uA an ?_;rintro aS aT bb D ac a6))
  have a4:=(j.out.2.1.trans G.out.2).thenN ac t6;have U:=G.out.1.belowB ac uA a0;refine⟨⟨aS,aT,es++[(cU b,C)],b.drop (5+lfK b),vo,a4,U,?_,?_,?_⟩,?_⟩
  ·rw[wb];exact D.congr (fun i a1=>Cx es (cU b,C) i a1)
  ·rw[j.out.1,j4 ap.out,W.out];cases lnP (b.drop (5+lfK b))with
   |none=>rfl
   |some r=>simp
  ·simp;omega
  ·rw[iU U,V.out];simp;omega
structure OnlyS(Z:Nat->Prop)(w w':World):Prop where
 os:w'.os=w.os
 tape:w'.tape=w.tape
 output:w'.output=w.output
 size:w.1.size<=w'.1.size
 block:∀k,k<w.1.size->¬Z k->w'.heap[k]?=w.heap[k]?
theorem OnlyS.refl(Z w):OnlyS Z w w:=⟨rfl,rfl,rfl,t6,fun _ _ _=>rfl⟩
theorem OnlyS.transN{Z Z2 a b c}(h:OnlyS Z a b)(k:OnlyS Z2 b c)(f:∀k,k<a.1.size->Z2 k->Z k):OnlyS Z a c:=
 ⟨k.os.trans h.os,k.tape.trans h.tape,k.output.trans h.output,wg h.size k.size,fun i d e=>(k.block i (wQ d h.size) (fun g=>e (f i d g))).trans (h.block i d e)⟩
theorem OnlyS.trans{Z a b c}(h:OnlyS Z a b)(k:OnlyS Z b c):OnlyS Z a c:=h.transN k (fun _ _ d=>d)
theorem OnlyS.mono{Z Z2 a b}(h:OnlyS Z a b)(e:∀k,k<a.1.size->Z k->Z2 k):OnlyS Z2 a b:=⟨h.os,h.tape,h.output,h.size,fun i c d=>h.block i c (fun f=>d (e i c f))⟩
theorem OnlyS.ofB{g a b}(h:OnlyB g a b):OnlyS (· =g) a b:=⟨h.os,h.tape,h.output,h.size,fun i c d=>h.block i c d⟩
theorem OnlyS.ofBelow{Z a b}(h:Below a.1.size a b):OnlyS Z a b:=⟨h.os,h.tape,h.output,h.size,fun i c _=>h.block i c⟩
theorem OnlyS.below{Z a b B}(h:OnlyS Z a b)(d:B<=a.1.size)(c:∀k,Z k->B<=k):Below B a b:=⟨h.os,h.tape,h.output,h.size,fun i e=>h.block i uA (fun f=>by have:=c i f;omega)⟩
theorem OnlyS.ofGrown{r a b}(h:a.grownBy b r):OnlyS (fun k=>r=some k) a b:=⟨h.os,h.tape,h.output,h.size,fun i c d=>h.block i c (fun e=>d e.symm)⟩
theorem Blk.onlyS{Z w w' t g xs}(h:Blk w t g xs)(b:OnlyS Z w w')(a:¬Z g):Blk w' t g xs:=(b.block g h.lt a).trans h
def rb:Option Addr->List Nat
 |some a=>[a.block]
 |none=>[]
def k0:ByteArray×Value:=(strOfNums [],.nilIface)
def kdF(vs:List (ByteArray×Value)):Nat->List Value:=fun i=>[.string (vs.getD i k0).1,(vs.getD i k0).2]
def lfI(b:Nat):Value:= .iface 260 (.pointer (some ⟨b,0,none⟩))
def inI(b:Nat):Value:= .iface 223 (.pointer (some ⟨b,0,none⟩))
def IRep(w:World):Tr->List Nat->List (ByteArray×Value)->Prop
 | .leaf id es,F,vs=> ∃b a c,F=b::rb a/\vs=[(strOfNums [],lfI b)]/\Blk w 263 b [.int .i64 id,.slice a es.length c]/\ORow 62 2 0 w a es.length c (enF es)
 | .node id ks,F,vs=> ∃b a c us G,F=b::(rb a++G)/\vs=[(strOfNums [],inI b)]/\Blk w 228 b [.int .i64 id,.slice a us.length c]/\ORow 239 2 0 w a us.length c (kdF us)/\IRep w ks G us
 | .nil,F,vs=>F=[]/\vs=[]
 | .cons s t ks,F,vs=> ∃v us G1 G2,F=G1++G2/\vs=(s,v)::us/\IRep w t G1 [(strOfNums [],v)]/\IRep w ks G2 us
theorem iA{e s B w w' a n c f}(h:ORow e s B w a n c f)(b:∀k∈rb a,w'.heap[k]?=w.heap[k]?):ORow e s B w' a n c f:=
 h.keep (fun g e=>b g (by subst e;simp[rb]))
theorem IRep.keep{w w'}:∀{t:Tr}{l:List Nat}{f:List (ByteArray×Value)},IRep w t l f->(∀k∈l,w'.heap[k]?=w.heap[k]?)->IRep w' t l f
 | .leaf id es,l,f,h,d=>by
  rw[IRep]at h ⊢;obtain⟨b,a,c,rfl,g,i,j⟩:=h;exact⟨b,a,c,rfl,g,(d b vo).trans i,iA j (fun k e=>d k (by simp[e]))⟩
 | .node id ks,l,f,h,d=>by
  rw[IRep]at h ⊢;obtain⟨b,a,c,us,G,rfl,g,i,j,o⟩:=h;exact⟨b,a,c,us,G,rfl,g,(d b vo).trans i,iA j (fun k e=>d k (by simp[e])),o.keep (fun k e=>d k (by simp[e]))⟩
 | .nil,l,f,h,d=>by rw[IRep]at h ⊢;exact h
 | .cons s t ks,l,f,h,d=>by
  rw[IRep]at h ⊢;obtain⟨v,us,m,n,rfl,g,i,j⟩:=h;exact⟨v,us,m,n,rfl,g,i.keep (fun k e=>d k (by simp[e])),j.keep (fun k e=>d k (by simp[e]))⟩
theorem cE{e s B w a n c f}(h:ORow e s B w a n c f):∀k∈rb a,B<=k/\k<w.1.size:=by
 intro k d;rcases h.2 with⟨b,_⟩|⟨m,j,l,b,g,i,_⟩
 ·cases b;simp[rb]at d
 ·cases b;simp[rb]at d;subst d;exact⟨g,(wy.1 i).1⟩
theorem IRep.lt{w}:∀{t:Tr}{i:List Nat}{g:List (ByteArray×Value)},IRep w t i g->∀k∈i,k<w.1.size
 | .leaf id es,i,g,h,k,d=>by
  rw[IRep]at h;obtain⟨b,a,c,rfl,j,e,f⟩:=h;rcases w3.1 d with rfl|d
  ·exact e.lt
  ·exact(cE f k d).2
 | .node id ks,i,g,h,k,d=>by
  rw[IRep]at h;obtain⟨b,a,c,us,G,rfl,j,e,f,l⟩:=h;rcases w3.1 d with rfl|d
  ·exact e.lt
  ·rcases w6.1 d with d|d
   ·exact(cE f k d).2
   ·exact l.lt k d
 | .nil,i,g,h,k,d=>by rw[IRep]at h;rw[h.1]at d;simp at d
 | .cons s t ks,i,g,h,k,d=>by
  rw[IRep]at h;obtain⟨v,us,m,n,rfl,j,e,f⟩:=h;rcases w6.1 d with d|d
  ·exact e.lt k d
  ·exact f.lt k d
theorem IRep.below{w w' t d a}(h:IRep w t d a)(b:Below w.1.size w w'):IRep w' t d a:=h.keep (fun k c=>b.block k (h.lt k c))
theorem IRep.onlyS{Z w w' t c b}(h:IRep w t c b)(d:OnlyS Z w w')(e:∀k∈c,¬Z k):IRep w' t c b:=h.keep (fun k a=>d.block k (h.lt k a) (e k a))
theorem IRep.snoc{w t v s G}(b:IRep w t G [(strOfNums [],v)]):∀{c:List (ByteArray×Tr)}{d:List Nat}{a:List (ByteArray×Value)},IRep w (dw c .nil) d a->IRep w (dw (c++[(s,t)]) .nil) (d++G) (a++[(s,v)])
 |[],d,a,h=>by
  rw[dw,IRep]at h;obtain⟨rfl,rfl⟩:=h;show IRep w (.cons s t .nil) _ _;rw[IRep];exact⟨v,[],G,[],vo,rfl,b,by rw[IRep];exact⟨rfl,rfl⟩⟩
 |x::xs,d,a,h=>by
  rw[dw,IRep]at h;obtain⟨u,us,e,f,rfl,rfl,g,i⟩:=h;show IRep w (.cons x.1 x.2 (dw (xs++[(s,t)]) .nil)) _ _;rw[IRep];exact⟨u,us++[(s,v)],e,f++G,vo,rfl,g,IRep.snoc b i⟩
theorem mc:ElT 226 239 2 (.agg #[.string (strOfNums []),.nilIface]) 32:=⟨underlying226,vk,rfl,uA⟩
theorem CB(es x i)(a:i<es.length+1):cH (kdF es) es.length [.string x.1,x.2] i=kdF (es++[x]) i:=by
 by_cases e:i=es.length
 ·subst e;rw[iJ];simp[kdF]
 ·rw[jQ _ _ uA];simp[kdF,List.getD,List.getElem?_append_left (show i<es.length by omega)]
def SetI(w:World)(m:Nat)(seen:List Int):Prop:= ∃D:DataW Nat,w.ownsMap prog 3 unitElem m seen.length D/\∀i:Int,Maps.has D (.int .i64 i)=seen.contains i
abbrev Ch:=ByteArray×ByteArray×Bool
def ch0:Ch:=(strOfNums [],strOfNums [],false)
def chV(x:Ch):List Value:=[.string x.1,.string x.2.1,.bool x.2.2]
def chF(xs:List Ch):Nat->List Value:=fun i=>chV (xs.getD i ch0)
theorem CD(x):∀u∈chV x,u.oneCell'=true:=by simp[chV,Value.oneCell']
theorem jC(xs n):IsRow 3 (chF xs) n:=⟨fun _ _=>rfl,fun i _=>CD _⟩
theorem me:ElT 92 161 3 (.agg (chV ch0).toArray) 40:=⟨underlying92,vk,by rw[Value.cells];rfl,uA⟩
def OCh(B:Nat)(w:World)(a:Option Addr)(c:Nat)(xs:List Ch):Prop:=ORow 161 3 B w a xs.length c (chF xs)
theorem OCh.below{B w w' a c xs}(h:OCh B w a c xs)(b:Below w.1.size w w'):OCh B w' a c xs:=ORow.below h b
theorem OCh.keep{B w w' a c xs}(h:OCh B w a c xs)(b:KeepT 161 w w'):OCh B w' a c xs:=cw h b
theorem nM(xs):∀n,n<=xs.length->aK (chF xs) n=((xs.take n).map chV).flatten
 |0,_=>by simp[aK]
 |n+1,h=>by
  have e:chF xs n=chV xs[n]:=by simp[chF,List.getD,show n<xs.length by omega]
  rw[aK,nM xs n uA,e,x4 uA];simp only[AF,List.flatten_append,ws,wz,List.flatten_cons,List.flatten_nil,wP]
theorem CE(xs a):aK (chF (xs++a)) (xs.length+a.length)=aK (chF xs) xs.length++aK (chF a) a.length:=by
 rw[nM _ _ vo,nM _ _ t6,nM _ _ t6,ya,ya,<-wb,ya];simp
theorem CF{w}{o:Oper}{k t W}(so xo)(E:o.op= .call {callee:= .builtin .append,args:=#[so,xo],argTypes:=#[92,92]})(B a c xs)(F:k.eval so= .slice a xs.length c)(l:OCh B w a c xs)(b d f)(hx:k.eval xo= .slice b f.length d)(r:RRow w 3 b f.length d (chF f))(Y:xs.length+f.length<=1048576)(N:B<=w.1.size)(A:∀m n w',OCh B w' m n (xs++f)->w.grownBy w' (Value.slice a xs.length c).ownBlock->t (k.put o.dst (.slice m (xs++f).length n)) w'):
 o.wp prog k w t W:=by
 obtain⟨i,C,H,I,J⟩:=DB me.inf;cases b with
 |none=>
  have Q:=r.nil rfl;have R:f.length=0:=by have:=r.le;omega
  obtain rfl:f=[]:=y3 R;subst Q;have s:=run_append_owned_none (P:=prog) (w:=w) B 92 o.type 161 i 3 me.und C _ _ _ l;have v:=A a c w (by rw[wP];exact l) ⟨rfl,rfl,rfl,t6,fun _ _ _=>rfl⟩;rw[wP]at v;have G:k.eval xo= .slice none 0 0:=hx;unfold Oper.wp;simp only[execOp,E,resolve,invoke,builtin,CT,C2,DI,wB,ws,wz,F,G,s];exact v
 |some K=>
  refine wp_append_own _ so xo _ E B 161 i _ 3 40 me.und C H I J me.cells me.pos _ xs.length (aK (chF xs) xs.length) F l K f.length d (aK (chF f) f.length) hx (by rw[gU _ (jC f _)]) ?_ (pE _ (jC f _)) (by unfold maxLen;omega) uA N ?_
  ·intro j u D;have V:j<f.length*3:=by have:=(wC.1 D).1;rw[gU _ (jC f _)]at this;exact this
   obtain⟨X,q,e,_,O⟩:=r.at_ uA;cases e;have M:=O (j/3) (j%3) uA uA;have y:=mL f.length (jC f _) (j/3) (j%3) uA uA;rw[show j/3*3+j%3=j by omega]at y;rw[C8,show q+j=q+j/3*3+j%3 by omega,M,<-y];exact D
  ·intro v' w' p z _;rw[<-CE]at p;have S:∃m n,v'= .slice m (xs.length+f.length) n:=by
    rcases p.2 with⟨rfl,L⟩|⟨g,T,U,rfl,_⟩
    ·exact⟨none,0,by rw[L]⟩
    ·exact⟨_,_,rfl⟩
   obtain⟨m,n,rfl⟩:=S;have x:=A m n w' (by unfold OCh ORow;rw[wb];exact p) z;rw[wb]at x;exact x
theorem uY{w j rest o f x}(l:o.guard=none)(so xo)(t:o.op= .call {callee:= .builtin .append,args:=#[so,xo],argTypes:=#[92,92]})(B a c xs)(v:f.eval so= .slice a xs.length c)(k:OCh B w a c xs)(b d e)(hx:f.eval xo= .slice b e.length d)(u:RRow w 3 b e.length d (chF e))(s:xs.length+e.length<=1048576)(p:B<=w.1.size)(r:∀g i w',OCh B w' g i (xs++e)->w.grownBy w' (Value.slice a xs.length c).ownBlock->wpList prog j x rest (f.put o.dst (.slice g (xs++e).length i)) w'):
 wpList prog j x (o::rest) f w:=
 DR l fun _ q=>CF so xo t B a c xs v k b d e hx u s p fun g i w' m n=>q _ _ (r g i w' m n)
theorem OCh.reads{B w a c xs}(h:OCh B w a c xs):RRow w 3 a xs.length c (chF xs):=ORow.reads h (jC xs _)
theorem uZ(w:World)(x):OCh w.1.size (w.alloc (.cells #[.string x.1,.string x.2.1,.bool x.2.2] 161)) (some ⟨w.1.size,0,none⟩) 1 [x]:=
 lL (f:=chF [x]) (n:=1) (aq w 161 (chV x).toArray) (jC _ _) t6 uA
theorem OCh.grown{B w w' a c xs}(h:OCh B w a c xs)(d:w.grownBy w' (Value.slice a xs.length c).ownBlock)(b:B<=w.1.size):Below B w w':=t7.grown d b (fun k e=>(Ct h k e).1)
def mf(s:ByteArray):Bool:=decide (1<=s.size/\s.size<=40)
def gq(x:Ch):Bool:=mf x.1&&decide (x.2.1.size<=70)&& !(x.2.2&& !x.2.1.toList.isEmpty)
def gu(xs:List Ch):Bool:=decide (xs.length<=400)&&xs.all gq
theorem mg:(prog.info? 161).map (·.size)=some 3:=vk
theorem CG(w a c xs)(h:RRow w 3 a xs.length c (chF xs))(an:xs.length<=1048576)(T:∀x∈xs,x.1.size<=1048575/\x.2.1.size<=1048575):
 Calls prog 97 #[.slice a xs.length c] w fun e w'=>e= .returned (.bool (gu xs))/\Below w.1.size w w':=by
 have B:xs.length<=400->gu xs=xs.all gq:=fun h=>by unfold gu;rw[CR h,zd]
 have C:¬xs.length<=400->gu xs=false:=fun h=>by unfold gu;rw[CP h,z6]
 have I:Hid (∀u,Below w.1.size w u->RRow u 3 a xs.length c (chF xs)):=fun u ad=>h.below ad;generalize K:gu xs=g at*;clear K;go_enter func97,ntmps97;by_cases M:xs.length<=400
 ·have N:¬(400:Int)< (xs.length:Int):=uA;have D:Hid (g=xs.all gq):=B M;clear B C h;go_wp2_with fail;go_loopw [3] (fun x wr=> ∃j:Nat,x= .int .i64 (j:Nat)/\j<=xs.length/\Below w.1.size w wr/\xs.all gq=(xs.drop j).all gq) (fun x _=>xs.length-(intOf x).toNat)
  case atStart=>exact⟨0,rfl,wa _,t7,rfl⟩
  case round=>
   obtain⟨j,rfl,am,t,p⟩:=hrel;obtain⟨o,W⟩:=aa wr;subst W;by_cases z:j<xs.length
   ·have J:(j:Int)< (xs.length:Int):=uA;obtain⟨b,G,ab,P,ac⟩:=(I.out o t).at_ uA;subst ab;have r:=(I.out o t).cells j z;have Q:(xs.drop j).all gq=(gq (xs.getD j ch0)&&(xs.drop (j+1)).all gq):=by rw[yv z,List.all_cons];simp[List.getD,List.getElem?_eq_getElem z]
    have O:chF xs j=chV (xs.getD j ch0):=rfl;rw[O]at r;have H:Hid (xs.getD j ch0∈xs):=by show _∈_;simp[List.getD,List.getElem?_eq_getElem z]
    generalize xs.getD j ch0=x at*;obtain⟨k,v,d⟩:=x;have Y:=bAl o (.cells #[.string k,.string v,.bool d] 161);have X:=aq o 161 #[.string k,.string v,.bool d];have i:=uv (t.trans (Y.mono t.size)) (vJ p Q);have s:∀q u,([.string k,.string v,.bool d]:List Value)[q]?=some u->o.cell? ⟨b,G+j*3+q,none⟩=some u:=r;clear ac P t p Q Y O r I;go_upto_region 7 with(refine dG rfl 161 _ rfl b (G+j*3) rfl [.string k,.string v,.bool d] _ s underlying161 rfl mg ?_)
    generalize o.alloc (.cells #[.string k,.string v,.bool d] 161)=L at*;have A:Blk L 161 o.1.size [.string k,.string v,.bool d]:=X;have af:L.cell? ⟨o.1.size,0,none⟩=some (.string k):=A.cell 0;have ag:L.cell? ⟨o.1.size,1,none⟩=some (.string v):=A.cell 1;have ak:L.cell? ⟨o.1.size,2,none⟩=some (.bool d):=A.cell 2;have S:k.size<=1048575/\v.size<=1048575:=T (k,v,d) H.out;have l:=p8 k (by have:=S.1;omega) L;clear X A s;have F:gq (k,v,d)=(mf k&&decide (v.size<=70)&& !(d&& !v.toList.isEmpty)):=rfl;rw[show decide (1<=k.size/\k.size<=40)=mf k from rfl]at l;rw[F]at i;clear F;cases y:mf k with
    |false=>
     rw[y]at l;have m:Hid (g=false):=by show g=false;rw[D.out,i.out.2.1,i.out.2.2,y];rfl
     clear y;go_wp2_with fail;refine l.mono ?_;rintro e E ⟨rfl,f⟩;obtain rfl:=f.symm;clear f l;go_wp2_with fail;go_ret;exact⟨by rw[m.out];rfl,i.out.1⟩
    |true=>
     rw[y]at l;by_cases U:v.size<=70
     ·have V:¬(70:Int)< (v.size:Int):=uA;cases n:(d&& !v.toList.isEmpty)with
      |true=>
       have m:Hid (g=false):=by show g=false;rw[D.out,i.out.2.1,i.out.2.2,n];simp
       have R:d=true:=by cases d with|true=>rfl|false=>cases n
       subst R;rw[zd]at n;go_wp2_with fail;refine l.mono ?_;rintro e E ⟨rfl,f⟩;obtain rfl:=f.symm;clear f l;go_wp2_with fail;go_ret;exact⟨by rw[m.out];rfl,i.out.1⟩
      |false=>
       have m:Hid (xs.all gq=(xs.drop (j+1)).all gq):=by show _= _;rw[i.out.2.1,i.out.2.2,n,y,CR U];rfl
       have ae:Hid _:=n;clear y;cases d with
       |false=>
        clear n;go_wp2_with fail;refine l.mono ?_;rintro e E ⟨rfl,f⟩;obtain rfl:=f.symm;clear f l;go_wp2_with fail;go_roundw
        case rel=>exact⟨j+1,by go_num,uA,i.out.1,m.out⟩
        case measure=>simp[intOf];omega
       |true=>
        rw[zd]at n;go_wp2_with fail;refine l.mono ?_;rintro e E ⟨rfl,f⟩;obtain rfl:=f.symm;clear f l;go_wp2_with fail;go_roundw
        case rel=>exact⟨j+1,by go_num,uA,i.out.1,m.out⟩
        case measure=>simp[intOf];omega
     ·have V:(70:Int)< (v.size:Int):=uA;have m:Hid (g=false):=by show g=false;rw[D.out,i.out.2.1,i.out.2.2,CP U];simp
      clear y;go_wp2_with fail;refine l.mono ?_;rintro e E ⟨rfl,f⟩;obtain rfl:=f.symm;clear f l;go_wp2_with fail;go_ret;exact⟨by rw[m.out];rfl,i.out.1⟩
   ·have J:¬(j:Int)< (xs.length:Int):=uA;have m:Hid (g=true):=by show g=true;rw[D.out,p,A0 uA];rfl
    have Z:Hid _:=t;clear t p;go_wp2_with fail;go_ret;exact⟨by rw[m.out];rfl,Z.out⟩
 ·have N:(400:Int)< (xs.length:Int):=uA;have m:Hid (g=false):=C M;clear B C h;go_wp2_with fail;go_ret;exact⟨by rw[m.out];rfl,t7⟩
