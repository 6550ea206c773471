import Derived.Test.YtnohmedccbogkaaGreatDoorCo13
namespace Go.Proofs.YtnohmedccbogkaaGreatDoor
open Go.RowKit
set_option linter.unusedVariables false
set_option maxRecDepth 100000
set_option maxHeartbeats 32000000
structure OnlyS(Z:Nat->Prop)(w w':World):Prop where
 os:w'.os=w.os
 tape:w'.tape=w.tape
 output:w'.output=w.output
 size:w.1.size<=w'.1.size
 block:∀k,k<w.1.size->¬Z k->w'.heap[k]?=w.heap[k]?
theorem OnlyS.refl(Z w):OnlyS Z w w:=⟨rfl,rfl,rfl,kE,fun _ _ _=>rfl⟩
theorem OnlyS.transN{Z Z2 a b c}(h:OnlyS Z a b)(k:OnlyS Z2 b c)(f:∀k,k<a.1.size->Z2 k->Z k):OnlyS Z a c:=
 ⟨k.os.trans h.os,k.tape.trans h.tape,k.output.trans h.output,k2 h.size k.size,fun i d e=>(k.block i (lk d h.size) (fun z=>e (f i d z))).trans (h.block i d e)⟩
theorem OnlyS.trans{Z a b c}(h:OnlyS Z a b)(k:OnlyS Z b c):OnlyS Z a c:=h.transN k (fun _ _ z=>z)
theorem OnlyS.mono{Z Z2 a b}(h:OnlyS Z a b)(e:∀k,k<a.1.size->Z k->Z2 k):OnlyS Z2 a b:=⟨h.os,h.tape,h.output,h.size,fun i c d=>h.block i c (fun z=>d (e i c z))⟩
theorem OnlyS.ofB{g a b}(h:OnlyB g a b):OnlyS (· =g) a b:=⟨h.os,h.tape,h.output,h.size,fun i c d=>h.block i c d⟩
theorem OnlyS.ofBelow{Z a b}(h:Below a.1.size a b):OnlyS Z a b:=⟨h.os,h.tape,h.output,h.size,fun i c _=>h.block i c⟩
theorem OnlyS.below{Z a b B}(h:OnlyS Z a b)(d:B<=a.1.size)(c:∀k,Z k->B<=k):Below B a b:=⟨h.os,h.tape,h.output,h.size,fun i e=>h.block i kH (fun z=>by have:=c i z;omega)⟩
theorem OnlyS.ofGrown{r a b}(h:a.grownBy b r):OnlyS (fun k=>r=some k) a b:=⟨h.os,h.tape,h.output,h.size,fun i c d=>h.block i c (fun e=>d e.symm)⟩
theorem Blk.onlyS{Z w w' c g xs}(h:Blk w c g xs)(b:OnlyS Z w w')(a:¬Z g):Blk w' c g xs:=(b.block g h.lt a).trans h
def rb:Option Addr->List Nat
 |some a=>[a.block]
 |none=>[]
def k0:ByteArray×Value:=(strOfNums [],.nilIface)
def kdF(vs:List (ByteArray×Value)):Nat->List Value:=fun i=>[.string (vs.getD i k0).1,(vs.getD i k0).2]
def lfI(b:Nat):Value:= .iface 299 (.pointer (some ⟨b,0,none⟩))
def inI(b:Nat):Value:= .iface 260 (.pointer (some ⟨b,0,none⟩))
def IRep(w:World):Tr->List Nat->List (ByteArray×Value)->Prop
 | .leaf id es,F,vs=> ∃b a c,F=b::rb a/\vs=[(strOfNums [],lfI b)]/\Blk w 302 b [.int .i64 id,.slice a es.length c]/\ORow 93 2 0 w a es.length c (enF es)
 | .node id ks,F,vs=> ∃b a c us G,F=b::(rb a++G)/\vs=[(strOfNums [],inI b)]/\Blk w 265 b [.int .i64 id,.slice a us.length c]/\ORow 276 2 0 w a us.length c (kdF us)/\IRep w ks G us
 | .nil,F,vs=>F=[]/\vs=[]
 | .cons s t ks,F,vs=> ∃v us G1 G2,F=G1++G2/\vs=(s,v)::us/\IRep w t G1 [(strOfNums [],v)]/\IRep w ks G2 us
theorem iB{e s B w w' a n c f}(h:ORow e s B w a n c f)(b:∀k∈rb a,w'.heap[k]?=w.heap[k]?):ORow e s B w' a n c f:=
 h.keep (fun g e=>b g (by subst e;simp[rb]))
theorem IRep.keep{w w'}:∀{q:Tr}{l:List Nat}{f:List (ByteArray×Value)},IRep w q l f->(∀k∈l,w'.heap[k]?=w.heap[k]?)->IRep w' q l f
 | .leaf id es,l,f,h,d=>by
  rw[IRep]at h ⊢;obtain⟨b,a,c,rfl,g,i,j⟩:=h;exact⟨b,a,c,rfl,g,(d b kP).trans i,iB j (fun k e=>d k (by simp[e]))⟩
 | .node id ks,l,f,h,d=>by
  rw[IRep]at h ⊢;obtain⟨b,a,c,m,r,rfl,g,i,j,p⟩:=h;exact⟨b,a,c,m,r,rfl,g,(d b kP).trans i,iB j (fun k e=>d k (by simp[e])),p.keep (fun k e=>d k (by simp[e]))⟩
 | .nil,l,f,h,d=>by rw[IRep]at h ⊢;exact h
 | .cons s q ks,l,f,h,d=>by
  rw[IRep]at h ⊢;obtain⟨v,m,n,o,rfl,g,i,j⟩:=h;exact⟨v,m,n,o,rfl,g,i.keep (fun k e=>d k (by simp[e])),j.keep (fun k e=>d k (by simp[e]))⟩
theorem dw{e s B w a n c f}(h:ORow e s B w a n c f):∀k∈rb a,B<=k/\k<w.1.size:=by
 intro k d;rcases h.2 with⟨b,_⟩|⟨m,j,l,b,g,i,_⟩
 ·cases b;simp[rb]at d
 ·cases b;simp[rb]at d;subst d;exact⟨g,(k6.1 i).1⟩
theorem IRep.lt{w}:∀{n:Tr}{i:List Nat}{g:List (ByteArray×Value)},IRep w n i g->∀k∈i,k<w.1.size
 | .leaf id es,i,g,h,k,d=>by
  rw[IRep]at h;obtain⟨b,a,c,rfl,j,e,f⟩:=h;rcases l3.1 d with rfl|d
  ·exact e.lt
  ·exact(dw f k d).2
 | .node id ks,i,g,h,k,d=>by
  rw[IRep]at h;obtain⟨b,a,c,m,q,rfl,j,e,f,l⟩:=h;rcases l3.1 d with rfl|d
  ·exact e.lt
  ·rcases mx.1 d with d|d
   ·exact(dw f k d).2
   ·exact l.lt k d
 | .nil,i,g,h,k,d=>by rw[IRep]at h;rw[h.1]at d;simp at d
 | .cons s n ks,i,g,h,k,d=>by
  rw[IRep]at h;obtain⟨v,m,o,p,rfl,j,e,f⟩:=h;rcases mx.1 d with d|d
  ·exact e.lt k d
  ·exact f.lt k d
theorem IRep.below{w w' e d a}(h:IRep w e d a)(b:Below w.1.size w w'):IRep w' e d a:=h.keep (fun k c=>b.block k (h.lt k c))
theorem IRep.onlyS{Z w w' f c b}(h:IRep w f c b)(d:OnlyS Z w w')(e:∀k∈c,¬Z k):IRep w' f c b:=h.keep (fun k a=>d.block k (h.lt k a) (e k a))
theorem IRep.snoc{w f v s e}(b:IRep w f e [(strOfNums [],v)]):∀{c:List (ByteArray×Tr)}{d:List Nat}{a:List (ByteArray×Value)},IRep w (ft c .nil) d a->IRep w (ft (c++[(s,f)]) .nil) (d++e) (a++[(s,v)])
 |[],d,a,h=>by
  rw[ft,IRep]at h;obtain⟨rfl,rfl⟩:=h;show IRep w (.cons s f .nil) _ _;rw[IRep];exact⟨v,[],e,[],kP,rfl,b,by rw[IRep];exact⟨rfl,rfl⟩⟩
 |x::xs,d,a,h=>by
  rw[ft,IRep]at h;obtain⟨m,l,g,i,rfl,rfl,j,k⟩:=h;show IRep w (.cons x.1 x.2 (ft (xs++[(s,f)]) .nil)) _ _;rw[IRep];exact⟨m,l++[(s,v)],g,i++e,kP,rfl,j,IRep.snoc b k⟩
theorem nf:ElT 263 276 2 (.agg #[.string (strOfNums []),.nilIface]) 32:=⟨Tryz.underlying263,kO,rfl,kH⟩
theorem Ju(es x i)(a:i<es.length+1):dg (kdF es) es.length [.string x.1,x.2] i=kdF (es++[x]) i:=by
 by_cases e:i=es.length
 ·subst e;rw[fJ];simp[kdF]
 ·rw[iE _ _ kH];simp[kdF,List.getD,List.getElem?_append_left (show i<es.length by omega)]
def SetI(w:World)(m:Nat)(seen:List Int):Prop:= ∃D:DataW Nat,w.ownsMap Tryz.prog 3 unitElem m seen.length D/\∀i:Int,Maps.has D (.int .i64 i)=seen.contains i
