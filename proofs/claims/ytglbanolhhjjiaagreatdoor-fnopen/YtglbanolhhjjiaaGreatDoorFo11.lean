import Derived.Test.YtglbanolhhjjiaaGreatDoorFo10
namespace Go.Proofs.YtglbanolhhjjiaaGreatDoor
open Go.Proofs.Tryz
open Go.RowKit
set_option linter.unusedVariables false
set_option maxRecDepth 100000
set_option maxHeartbeats 32000000
theorem Cw:ElT 194 197 2 (.agg #[.string (strOfNums []),.int .i64 0]) 24:=⟨underlying194,uA,rfl,t7⟩
def l0:ByteArray×Int:=(strOfNums [],0)
def lnF(es:List (ByteArray×Int)):Nat->List Value:=fun i=>[.string (es.getD i l0).1,.int .i64 (es.getD i l0).2]
theorem Cx(es x i)(a:i<es.length+1):cH (lnF es) es.length [.string x.1,.int .i64 x.2] i=lnF (es++[x]) i:=by
 by_cases e:i=es.length
 ·subst e;rw[iJ];simp[lnF]
 ·rw[jQ _ _ t7];simp[lnF,List.getD,List.getElem?_append_left (show i<es.length by omega)]
def LnP(l:List Int)(g:Nat)(w:World)(e:Ending)(w':World):Prop:=OnlyB g w w'/\((∃ls a c,inP l=some ls/\e= .returned (.slice a ls.length c)/\ORow 197 2 w.1.size w' a ls.length c (lnF ls))\/(inP l=none/\e= .panicked bI))
theorem Cy(a i):prog.built 197 [(0,.string a),(1,.int .i64 i)]=some #[.string a,.int .i64 i]:=uA
theorem Cz(i):prog.built 197 [(1,.int .i64 i)]=some #[.string (strOfNums []),.int .i64 i]:=uA
theorem uX(e s B)(w:World)(a:B<=w.1.size)(x)(hx:x.length=s)(f)(b:f 0=x):ORow e s B (w.alloc (.cells x.toArray e)) (some ⟨w.1.size,0,none⟩) 1 1 f:=by
 have:=World.ownsRow_lit (base:=B) (e:=e) (size:=s) w x.toArray 1 a (by unfold maxLen;omega) (by simp[hx]);simpa [ORow,aK,b]using this
theorem CA(g B l w)(Z:Cur w g B l)(a9:B<=w.1.size)(ba:l.length<=1048576):
 Calls prog 126 #[.pointer (some ⟨g,0,none⟩)] w fun e w'=>LnP l g w e w':=by
 have a0:=Z.lt;by_cases aX:l.length<4
 ·have X:=nt g B l w Z aX;have j:inP l=none:=by unfold inP;rw[BX t7]
  clear Z;go_enter func126,ntmps126;go_wp2_with fail;refine X.mono ?_;rintro e w1 ⟨rfl,d⟩;go_wp2;exact⟨rfl,d,u4 ⟨j,rfl⟩⟩
 have X:=uf g B l w Z t7;have L:inP l=(lnP (l.drop 4)).map ((strOfNums [],eg l):: ·):=by unfold inP;rw[BC t7]
 have W:Hid _:=L;rw[show low (l.take 4)=eg l from rfl]at X;clear Z L;go_enter func126,ntmps126;go_upto_region 2 with fail
 refine X.mono ?_;rintro e w1 ⟨rfl,d,f⟩;clear X;have H:=Cz (eg l);have q:=t6 d f;have z:=d.size;clear d f;go_upto_region 2 with fail
 have G:ORow 197 2 w.1.size (w1.alloc (.cells [.string (strOfNums []),.int .i64 (eg l)].toArray 197)) (some ⟨w1.1.size,0,none⟩) 1 1 (lnF [(strOfNums [],eg l)]):=uX _ _ _ _ z _ rfl _ rfl;have t:=bAl w1 (.cells [.string (strOfNums []),.int .i64 (eg l)].toArray 197);have d:=q.out.1.thenN t z;have f:=q.out.2.belowB t t7 t7;change Code.wp _ _ _ _ (w1.alloc (.cells [.string (strOfNums []),.int .i64 (eg l)].toArray 197));generalize (w1.alloc (.cells [.string (strOfNums []),.int .i64 (eg l)].toArray 197))=bc at*;generalize w1.1.size=a3 at*;have P:=t6 d (u2 f G);clear d f G t q z H;go_loopw [3] (fun s wr=> ∃(a:Option Addr)(c:Nat)(es:List (ByteArray×Int))(b:List Int),s= .slice a es.length c/\OnlyB g w wr/\Cur wr g B b/\ORow 197 2 w.1.size wr a es.length c (lnF es)/\inP l=(lnP b).map (es++ ·)/\es.length+b.length<=l.length) (fun _ wr=>fk wr g)
 case atStart=>exact⟨some ⟨a3,0,none⟩,1,[(strOfNums [],eg l)],l.drop 4,rfl,P.out.1,P.out.2.1,P.out.2.2,by rw[W.out];rfl,by simp;omega⟩
 case round=>
  obtain⟨a,c,es,b,rfl,v,k,af,J,a7⟩:=hrel;obtain⟨E,ak⟩:=aa wr;subst ak;have I:=iU k;have U:Hid _:=I;have h:=t6 J (u2 v af);have am:=v.size;clear I J v af;have o:=nu g B b E k;by_cases m:b.length=0
  ·rw[B2 m]at o;have R:Hid (inP l=some es):=by show inP l=some es;rw[h.out.1,gZ m];simp
   clear k;go_wp2_with fail;refine o.mono ?_;rintro e u ⟨rfl,y⟩;obtain rfl:=y.symm;clear y o;go_wp2_with fail;go_ret;exact⟨h.out.2.1,u5 ⟨es,a,c,R.out,rfl,h.out.2.2⟩⟩
  rw[B1 m]at o;have p:Hid (∀w',OnlyB g E w'->eJ b=false->LnP l g w (.panicked bI) w'):=fun w' v a2=>by
   refine⟨h.out.2.1.trans v,u4 ⟨?_,rfl⟩⟩;rw[h.out.1,ji m a2];rfl
  go_upto_region 3 with fail
  refine o.mono ?_;rintro e u ⟨rfl,y⟩;obtain rfl:=y.symm;clear y o;go_upto_region 3 with fail
  by_cases ae:¬(1<=lfK b/\lfK b<=40/\1+lfK b<=b.length)
  ·have aA:=uh g B b E k ae;have j:eJ b=false:=by
    rw[<-w6,gJ];omega
   clear k;go_wp2_with fail;refine aA.mono ?_;rintro e w1 ⟨rfl,d⟩;go_wp2;exact⟨rfl,p.out _ d j⟩
  obtain⟨M,N,O⟩:=Decidable.of_not_not ae;have Y:=ug g B b E k M N O;clear k;go_upto_region 4 with fail
  refine Y.mono ?_;rintro e w1 ⟨rfl,d,f⟩;clear Y;go_upto_region 4 with fail
  have ad:(b.drop (1+lfK b)).length=b.length-(1+lfK b):=vk;by_cases ag:(b.drop (1+lfK b)).length<4
  ·have aB:=nt g B _ w1 f ag;have j:eJ b=false:=by
    rw[<-w6,gJ];omega
   clear f;go_wp2_with fail;refine aB.mono ?_;rintro e a5 ⟨rfl,D⟩;go_wp2;exact⟨rfl,p.out _ (d.trans D) j⟩
  have Q:=uf g B _ w1 f t7;clear f;have x:eJ b=true:=by rw[gJ];omega
  rw[show low ((b.drop (1+lfK b)).take 4)=eg (b.drop (1+lfK b))from rfl,wP,show 1+lfK b+4=5+lfK b by omega]at Q;have a8:5+lfK b<=b.length:=t7;have ap:Hid _:=x;clear ad ag M N O x;go_wp2_with fail;refine Q.mono ?_;rintro e a5 ⟨rfl,D,S⟩;clear Q;have n:=d.trans D;have ab:=h.out.2.2.onlyN n t7;have an:=u9 am n.size;have F:=t6 S n;clear S n d D;have H:=Cy (cU b) (eg (b.drop (1+lfK b)));generalize K:eg (b.drop (1+lfK b))=A at*;have V:Hid _:=K;clear K;go_upto_region 9 with(first|(refine tf rfl _ _ Cw rfl w.1.size a _ c (lnF es) rfl ab [.string (cU b),.int .i64 A] rfl (by simp[Value.oneCell']) rfl t7 t7 an ?_;rintro aS aT bb C ac a6))
  have a4:=(h.out.2.1.trans F.out.2).thenN ac t1;have T:=F.out.1.belowB ac t7 a0;refine⟨⟨aS,aT,es++[(cU b,A)],b.drop (5+lfK b),uB,a4,T,?_,?_,?_⟩,?_⟩
  ·rw[u7];exact C.congr (fun i a1=>Cx es (cU b,A) i a1)
  ·rw[h.out.1,j4 ap.out,V.out];cases lnP (b.drop (5+lfK b))with
   |none=>rfl
   |some r=>simp
  ·simp;omega
  ·rw[iU T,U.out];simp;omega
structure OnlyS(Z:Nat->Prop)(w w':World):Prop where
 os:w'.os=w.os
 tape:w'.tape=w.tape
 output:w'.output=w.output
 size:w.1.size<=w'.1.size
 block:∀k,k<w.1.size->¬Z k->w'.heap[k]?=w.heap[k]?
theorem OnlyS.refl(Z w):OnlyS Z w w:=⟨rfl,rfl,rfl,t1,fun _ _ _=>rfl⟩
theorem OnlyS.transN{Z Z2 a b c}(e:OnlyS Z a b)(k:OnlyS Z2 b c)(g:∀k,k<a.1.size->Z2 k->Z k):OnlyS Z a c:=
 ⟨k.os.trans e.os,k.tape.trans e.tape,k.output.trans e.output,u9 e.size k.size,fun i d f=>(k.block i (ws d e.size) (fun h=>f (g i d h))).trans (e.block i d f)⟩
theorem OnlyS.trans{Z a b c}(d:OnlyS Z a b)(k:OnlyS Z b c):OnlyS Z a c:=d.transN k (fun _ _ e=>e)
theorem OnlyS.mono{Z Z2 a b}(c:OnlyS Z a b)(f:∀k,k<a.1.size->Z k->Z2 k):OnlyS Z2 a b:=⟨c.os,c.tape,c.output,c.size,fun i d e=>c.block i d (fun g=>e (f i d g))⟩
theorem OnlyS.ofB{g a b}(c:OnlyB g a b):OnlyS (· =g) a b:=⟨c.os,c.tape,c.output,c.size,fun i d e=>c.block i d e⟩
theorem OnlyS.ofBelow{Z a b}(c:Below a.1.size a b):OnlyS Z a b:=⟨c.os,c.tape,c.output,c.size,fun i d _=>c.block i d⟩
theorem OnlyS.below{Z a b B}(c:OnlyS Z a b)(e:B<=a.1.size)(d:∀k,Z k->B<=k):Below B a b:=⟨c.os,c.tape,c.output,c.size,fun i f=>c.block i t7 (fun g=>by have:=d i g;omega)⟩
theorem OnlyS.ofGrown{r a b}(c:a.grownBy b r):OnlyS (fun k=>r=some k) a b:=⟨c.os,c.tape,c.output,c.size,fun i d f=>c.block i d (fun e=>f e.symm)⟩
theorem Blk.onlyS{Z w w' t g xs}(c:Blk w t g xs)(b:OnlyS Z w w')(a:¬Z g):Blk w' t g xs:=(b.block g c.lt a).trans c
def rb:Option Addr->List Nat
 |some a=>[a.block]
 |none=>[]
def k0:ByteArray×Value:=(strOfNums [],.nilIface)
def kdF(vs:List (ByteArray×Value)):Nat->List Value:=fun i=>[.string (vs.getD i k0).1,(vs.getD i k0).2]
def lfI(b:Nat):Value:= .iface 260 (.pointer (some ⟨b,0,none⟩))
def inI(b:Nat):Value:= .iface 223 (.pointer (some ⟨b,0,none⟩))
def IRep(w:World):Tr->List Nat->List (ByteArray×Value)->Prop
 | .leaf id es,F,vs=> ∃b a c,F=b::rb a/\vs=[(strOfNums [],lfI b)]/\Blk w 263 b [.int .i64 id,.slice a es.length c]/\ORow 62 2 0 w a es.length c (enF es)
 | .node id ks,F,vs=> ∃b a c us G,F=b::(rb a++G)/\vs=[(strOfNums [],inI b)]/\Blk w 228 b [.int .i64 id,.slice a us.length c]/\ORow 239 2 0 w a us.length c (kdF us)/\IRep w ks G us
 | .nil,F,vs=>F=[]/\vs=[]
 | .cons s t ks,F,vs=> ∃v us G1 G2,F=G1++G2/\vs=(s,v)::us/\IRep w t G1 [(strOfNums [],v)]/\IRep w ks G2 us
theorem iA{e s B w w' a n c f}(d:ORow e s B w a n c f)(b:∀k∈rb a,w'.heap[k]?=w.heap[k]?):ORow e s B w' a n c f:=
 d.keep (fun g e=>b g (by subst e;simp[rb]))
theorem IRep.keep{w w'}:∀{t:Tr}{l:List Nat}{f:List (ByteArray×Value)},IRep w t l f->(∀k∈l,w'.heap[k]?=w.heap[k]?)->IRep w' t l f
 | .leaf id es,l,f,g,d=>by
  rw[IRep]at g ⊢;obtain⟨b,a,c,rfl,h,i,j⟩:=g;exact⟨b,a,c,rfl,h,(d b uB).trans i,iA j (fun k e=>d k (by simp[e]))⟩
 | .node id ks,l,f,g,d=>by
  rw[IRep]at g ⊢;obtain⟨b,a,c,us,G,rfl,h,i,j,o⟩:=g;exact⟨b,a,c,us,G,rfl,h,(d b uB).trans i,iA j (fun k e=>d k (by simp[e])),o.keep (fun k e=>d k (by simp[e]))⟩
 | .nil,l,f,g,d=>by rw[IRep]at g ⊢;exact g
 | .cons s t ks,l,f,g,d=>by
  rw[IRep]at g ⊢;obtain⟨v,us,m,n,rfl,h,i,j⟩:=g;exact⟨v,us,m,n,rfl,h,i.keep (fun k e=>d k (by simp[e])),j.keep (fun k e=>d k (by simp[e]))⟩
theorem cE{e s B w a n c f}(m:ORow e s B w a n c f):∀k∈rb a,B<=k/\k<w.1.size:=by
 intro k d;rcases m.2 with⟨b,_⟩|⟨l,i,j,b,g,h,_⟩
 ·cases b;simp[rb]at d
 ·cases b;simp[rb]at d;subst d;exact⟨g,(vR.1 h).1⟩
theorem IRep.lt{w}:∀{t:Tr}{i:List Nat}{h:List (ByteArray×Value)},IRep w t i h->∀k∈i,k<w.1.size
 | .leaf id es,i,h,e,k,d=>by
  rw[IRep]at e;obtain⟨b,a,c,rfl,j,f,g⟩:=e;rcases wA.1 d with rfl|d
  ·exact f.lt
  ·exact(cE g k d).2
 | .node id ks,i,h,e,k,d=>by
  rw[IRep]at e;obtain⟨b,a,c,us,G,rfl,j,f,g,l⟩:=e;rcases wA.1 d with rfl|d
  ·exact f.lt
  ·rcases wE.1 d with d|d
   ·exact(cE g k d).2
   ·exact l.lt k d
 | .nil,i,h,e,k,d=>by rw[IRep]at e;rw[e.1]at d;simp at d
 | .cons s t ks,i,h,e,k,d=>by
  rw[IRep]at e;obtain⟨v,us,m,n,rfl,j,f,g⟩:=e;rcases wE.1 d with d|d
  ·exact f.lt k d
  ·exact g.lt k d
theorem IRep.below{w w' t d a}(e:IRep w t d a)(b:Below w.1.size w w'):IRep w' t d a:=e.keep (fun k c=>b.block k (e.lt k c))
theorem IRep.onlyS{Z w w' t c b}(f:IRep w t c b)(d:OnlyS Z w w')(e:∀k∈c,¬Z k):IRep w' t c b:=f.keep (fun k a=>d.block k (f.lt k a) (e k a))
theorem IRep.snoc{w t v s G}(c:IRep w t G [(strOfNums [],v)]):∀{d:List (ByteArray×Tr)}{e:List Nat}{a:List (ByteArray×Value)},IRep w (dw d .nil) e a->IRep w (dw (d++[(s,t)]) .nil) (e++G) (a++[(s,v)])
 |[],e,a,b=>by
  rw[dw,IRep]at b;obtain⟨rfl,rfl⟩:=b;show IRep w (.cons s t .nil) _ _;rw[IRep];exact⟨v,[],G,[],uB,rfl,c,by rw[IRep];exact⟨rfl,rfl⟩⟩
 |x::xs,e,a,b=>by
  rw[dw,IRep]at b;obtain⟨u,us,f,g,rfl,rfl,h,i⟩:=b;show IRep w (.cons x.1 x.2 (dw (xs++[(s,t)]) .nil)) _ _;rw[IRep];exact⟨u,us++[(s,v)],f,g++G,uB,rfl,h,IRep.snoc c i⟩
theorem mc:ElT 226 239 2 (.agg #[.string (strOfNums []),.nilIface]) 32:=⟨underlying226,uA,rfl,t7⟩
theorem CB(es x i)(a:i<es.length+1):cH (kdF es) es.length [.string x.1,x.2] i=kdF (es++[x]) i:=by
 by_cases e:i=es.length
 ·subst e;rw[iJ];simp[kdF]
 ·rw[jQ _ _ t7];simp[kdF,List.getD,List.getElem?_append_left (show i<es.length by omega)]
def SetI(w:World)(m:Nat)(seen:List Int):Prop:= ∃D:DataW Nat,w.ownsMap prog 3 unitElem m seen.length D/\∀i:Int,Maps.has D (.int .i64 i)=seen.contains i
abbrev Ch:=ByteArray×ByteArray×Bool
def ch0:Ch:=(strOfNums [],strOfNums [],false)
def chV(x:Ch):List Value:=[.string x.1,.string x.2.1,.bool x.2.2]
def chF(xs:List Ch):Nat->List Value:=fun i=>chV (xs.getD i ch0)
theorem CD(x):∀u∈chV x,u.oneCell'=true:=by simp[chV,Value.oneCell']
theorem jC(xs n):IsRow 3 (chF xs) n:=⟨fun _ _=>rfl,fun i _=>CD _⟩
theorem me:ElT 92 161 3 (.agg (chV ch0).toArray) 40:=⟨underlying92,uA,by rw[Value.cells];rfl,t7⟩
def OCh(B:Nat)(w:World)(a:Option Addr)(c:Nat)(xs:List Ch):Prop:=ORow 161 3 B w a xs.length c (chF xs)
theorem OCh.below{B w w' a c xs}(d:OCh B w a c xs)(b:Below w.1.size w w'):OCh B w' a c xs:=ORow.below d b
theorem OCh.keep{B w w' a c xs}(d:OCh B w a c xs)(b:KeepT 161 w w'):OCh B w' a c xs:=cw d b
theorem nM(xs):∀n,n<=xs.length->aK (chF xs) n=((xs.take n).map chV).flatten
 |0,_=>by simp[aK]
 |n+1,a=>by
  have e:chF xs n=chV xs[n]:=by simp[chF,List.getD,show n<xs.length by omega]
  rw[aK,nM xs n t7,e,xd t7];simp only[zz,List.flatten_append,vo,v6,List.flatten_cons,List.flatten_nil,wi]
theorem CE(xs a):aK (chF (xs++a)) (xs.length+a.length)=aK (chF xs) xs.length++aK (chF a) a.length:=by
 rw[nM _ _ uB,nM _ _ t1,nM _ _ t1,x0,x0,<-u7,x0];simp
theorem CF{w}{o:Oper}{h s V}(so xo)(D:o.op= .call {callee:= .builtin .append,args:=#[so,xo],argTypes:=#[92,92]})(B a c xs)(E:h.eval so= .slice a xs.length c)(k:OCh B w a c xs)(b d f)(hx:h.eval xo= .slice b f.length d)(q:RRow w 3 b f.length d (chF f))(X:xs.length+f.length<=1048576)(M:B<=w.1.size)(z:∀l m w',OCh B w' l m (xs++f)->w.grownBy w' (Value.slice a xs.length c).ownBlock->s (h.put o.dst (.slice l (xs++f).length m)) w'):
 o.wp prog h w s V:=by
 obtain⟨i,A,G,H,I⟩:=CT me.inf;cases b with
 |none=>
  have O:=q.nil rfl;have Q:f.length=0:=by have:=q.le;omega
  obtain rfl:f=[]:=x8 Q;subst O;have r:=run_append_owned_none (P:=prog) (w:=w) B 92 o.type 161 i 3 me.und A _ _ _ k;have t:=z a c w (by rw[wi];exact k) ⟨rfl,rfl,rfl,t1,fun _ _ _=>rfl⟩;rw[wi]at t;have F:h.eval xo= .slice none 0 0:=hx;unfold Oper.wp;simp only[execOp,D,resolve,invoke,builtin,B3,Ct,C0,wa,vo,v6,E,F,r];exact t
 |some J=>
  refine wp_append_own _ so xo _ D B 161 i _ 3 40 me.und A G H I me.cells me.pos _ xs.length (aK (chF xs) xs.length) E k J f.length d (aK (chF f) f.length) hx (by rw[gU _ (jC f _)]) ?_ (pE _ (jC f _)) (by unfold maxLen;omega) t7 M ?_
  ·intro j u C;have U:j<f.length*3:=by have:=(wb.1 C).1;rw[gU _ (jC f _)]at this;exact this
   obtain⟨W,p,e,_,N⟩:=q.at_ t7;cases e;have L:=N (j/3) (j%3) t7 t7;have x:=mL f.length (jC f _) (j/3) (j%3) t7 t7;rw[show j/3*3+j%3=j by omega]at x;rw[CR,show p+j=p+j/3*3+j%3 by omega,L,<-x];exact C
  ·intro v' w' n y _;rw[<-CE]at n;have R:∃l m,v'= .slice l (xs.length+f.length) m:=by
    rcases n.2 with⟨rfl,K⟩|⟨g,S,T,rfl,_⟩
    ·exact⟨none,0,by rw[K]⟩
    ·exact⟨_,_,rfl⟩
   obtain⟨l,m,rfl⟩:=R;have v:=z l m w' (by unfold OCh ORow;rw[u7];exact n) y;rw[u7]at v;exact v
theorem uY{w i rest o f v}(k:o.guard=none)(so xo)(s:o.op= .call {callee:= .builtin .append,args:=#[so,xo],argTypes:=#[92,92]})(B a c xs)(u:f.eval so= .slice a xs.length c)(j:OCh B w a c xs)(b d e)(hx:f.eval xo= .slice b e.length d)(t:RRow w 3 b e.length d (chF e))(r:xs.length+e.length<=1048576)(n:B<=w.1.size)(q:∀g h w',OCh B w' g h (xs++e)->w.grownBy w' (Value.slice a xs.length c).ownBlock->wpList prog i v rest (f.put o.dst (.slice g (xs++e).length h)) w'):
 wpList prog i v (o::rest) f w:=
 C2 k fun _ p=>CF so xo s B a c xs u j b d e hx t r n fun g h w' l m=>p _ _ (q g h w' l m)
theorem OCh.reads{B w a c xs}(b:OCh B w a c xs):RRow w 3 a xs.length c (chF xs):=ORow.reads b (jC xs _)
theorem uZ(w:World)(x):OCh w.1.size (w.alloc (.cells #[.string x.1,.string x.2.1,.bool x.2.2] 161)) (some ⟨w.1.size,0,none⟩) 1 [x]:=
 lL (f:=chF [x]) (n:=1) (aq w 161 (chV x).toArray) (jC _ _) t1 t7
theorem OCh.grown{B w w' a c xs}(f:OCh B w a c xs)(d:w.grownBy w' (Value.slice a xs.length c).ownBlock)(b:B<=w.1.size):Below B w w':=t2.grown d b (fun k e=>(BS f k e).1)
def mf(s:ByteArray):Bool:=decide (1<=s.size/\s.size<=40)
def gq(x:Ch):Bool:=mf x.1&&decide (x.2.1.size<=70)&& !(x.2.2&& !x.2.1.toList.isEmpty)
def gu(xs:List Ch):Bool:=decide (xs.length<=400)&&xs.all gq
theorem mg:(prog.info? 161).map (·.size)=some 3:=uA
theorem CG(w a c xs)(I:RRow w 3 a xs.length c (chF xs))(an:xs.length<=1048576)(T:∀x∈xs,x.1.size<=1048575/\x.2.1.size<=1048575):
 Calls prog 97 #[.slice a xs.length c] w fun e w'=>e= .returned (.bool (gu xs))/\Below w.1.size w w':=by
 have A:xs.length<=400->gu xs=xs.all gq:=fun I=>by unfold gu;rw[B2 I,yv]
 have B:¬xs.length<=400->gu xs=false:=fun I=>by unfold gu;rw[B1 I,za]
 have H:Hid (∀u,Below w.1.size w u->RRow u 3 a xs.length c (chF xs)):=fun u ad=>I.below ad;generalize K:gu xs=g at*;clear K;go_enter func97,ntmps97;by_cases M:xs.length<=400
 ·have N:¬(400:Int)< (xs.length:Int):=t7;have C:Hid (g=xs.all gq):=A M;clear A B I;go_wp2_with fail;go_loopw [3] (fun x wr=> ∃j:Nat,x= .int .i64 (j:Nat)/\j<=xs.length/\Below w.1.size w wr/\xs.all gq=(xs.drop j).all gq) (fun x _=>xs.length-(intOf x).toNat)
  case atStart=>exact⟨0,rfl,u6 _,t2,rfl⟩
  case round=>
   obtain⟨j,rfl,am,s,o⟩:=hrel;obtain⟨n,W⟩:=aa wr;subst W;by_cases y:j<xs.length
   ·have J:(j:Int)< (xs.length:Int):=t7;obtain⟨b,F,ab,P,ac⟩:=(H.out n s).at_ t7;subst ab;have p:=(H.out n s).cells j y;have Q:(xs.drop j).all gq=(gq (xs.getD j ch0)&&(xs.drop (j+1)).all gq):=by rw[x4 y,List.all_cons];simp[List.getD,List.getElem?_eq_getElem y]
    have O:chF xs j=chV (xs.getD j ch0):=rfl;rw[O]at p;have G:Hid (xs.getD j ch0∈xs):=by show _∈_;simp[List.getD,List.getElem?_eq_getElem y]
    generalize xs.getD j ch0=x at*;obtain⟨k,v,d⟩:=x;have Y:=bAl n (.cells #[.string k,.string v,.bool d] 161);have X:=aq n 161 #[.string k,.string v,.bool d];have h:=t6 (s.trans (Y.mono s.size)) (u2 o Q);have r:∀q u,([.string k,.string v,.bool d]:List Value)[q]?=some u->n.cell? ⟨b,F+j*3+q,none⟩=some u:=p;clear ac P s o Q Y O p H;go_upto_region 7 with(refine dG rfl 161 _ rfl b (F+j*3) rfl [.string k,.string v,.bool d] _ r underlying161 rfl mg ?_)
    generalize n.alloc (.cells #[.string k,.string v,.bool d] 161)=L at*;have z:Blk L 161 n.1.size [.string k,.string v,.bool d]:=X;have af:L.cell? ⟨n.1.size,0,none⟩=some (.string k):=z.cell 0;have ag:L.cell? ⟨n.1.size,1,none⟩=some (.string v):=z.cell 1;have ak:L.cell? ⟨n.1.size,2,none⟩=some (.bool d):=z.cell 2;have S:k.size<=1048575/\v.size<=1048575:=T (k,v,d) G.out;have i:=p8 k (by have:=S.1;omega) L;clear X z r;have E:gq (k,v,d)=(mf k&&decide (v.size<=70)&& !(d&& !v.toList.isEmpty)):=rfl;rw[show decide (1<=k.size/\k.size<=40)=mf k from rfl]at i;rw[E]at h;clear E;cases t:mf k with
    |false=>
     rw[t]at i;have l:Hid (g=false):=by show g=false;rw[C.out,h.out.2.1,h.out.2.2,t];rfl
     clear t;go_wp2_with fail;refine i.mono ?_;rintro e D ⟨rfl,f⟩;obtain rfl:=f.symm;clear f i;go_wp2_with fail;go_ret;exact⟨by rw[l.out];rfl,h.out.1⟩
    |true=>
     rw[t]at i;by_cases U:v.size<=70
     ·have V:¬(70:Int)< (v.size:Int):=t7;cases m:(d&& !v.toList.isEmpty)with
      |true=>
       have l:Hid (g=false):=by show g=false;rw[C.out,h.out.2.1,h.out.2.2,m];simp
       have R:d=true:=by cases d with|true=>rfl|false=>cases m
       subst R;rw[yv]at m;go_wp2_with fail;refine i.mono ?_;rintro e D ⟨rfl,f⟩;obtain rfl:=f.symm;clear f i;go_wp2_with fail;go_ret;exact⟨by rw[l.out];rfl,h.out.1⟩
      |false=>
       have l:Hid (xs.all gq=(xs.drop (j+1)).all gq):=by show _= _;rw[h.out.2.1,h.out.2.2,m,t,B2 U];rfl
       have ae:Hid _:=m;clear t;cases d with
       |false=>
        clear m;go_wp2_with fail;refine i.mono ?_;rintro e D ⟨rfl,f⟩;obtain rfl:=f.symm;clear f i;go_wp2_with fail;go_roundw
        case rel=>exact⟨j+1,by go_num,t7,h.out.1,l.out⟩
        case measure=>simp[intOf];omega
       |true=>
        rw[yv]at m;go_wp2_with fail;refine i.mono ?_;rintro e D ⟨rfl,f⟩;obtain rfl:=f.symm;clear f i;go_wp2_with fail;go_roundw
        case rel=>exact⟨j+1,by go_num,t7,h.out.1,l.out⟩
        case measure=>simp[intOf];omega
     ·have V:(70:Int)< (v.size:Int):=t7;have l:Hid (g=false):=by show g=false;rw[C.out,h.out.2.1,h.out.2.2,B1 U];simp
      clear t;go_wp2_with fail;refine i.mono ?_;rintro e D ⟨rfl,f⟩;obtain rfl:=f.symm;clear f i;go_wp2_with fail;go_ret;exact⟨by rw[l.out];rfl,h.out.1⟩
   ·have J:¬(j:Int)< (xs.length:Int):=t7;have l:Hid (g=true):=by show g=true;rw[C.out,o,zW t7];rfl
    have Z:Hid _:=s;clear s o;go_wp2_with fail;go_ret;exact⟨by rw[l.out];rfl,Z.out⟩
 ·have N:(400:Int)< (xs.length:Int):=t7;have l:Hid (g=false):=B M;clear A B I;go_wp2_with fail;go_ret;exact⟨by rw[l.out];rfl,t2⟩
