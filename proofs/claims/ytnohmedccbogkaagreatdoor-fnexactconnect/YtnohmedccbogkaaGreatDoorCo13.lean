import Derived.Test.YtnohmedccbogkaaGreatDoorCo8
import Derived.Test.YtnohmedccbogkaaGreatDoorCo4
import Derived.Test.YtnohmedccbogkaaGreatDoorCo9
import Derived.Test.YtnohmedccbogkaaGreatDoorCo10
import Derived.Stop.LaidErr
import Derived.Stop.Joined
namespace Go.Proofs.YtnohmedccbogkaaGreatDoor
open Go.Proofs.Tryz
open Go.RowKit Go.Maps Go.ChangeShapes Go.WideShapes
set_option linter.unusedVariables false
set_option maxRecDepth 100000
set_option maxHeartbeats 32000000
def nd0:NdK:=⟨0,false,[],[],[],[]⟩
def Rep(ns:List NdK):Tr->Bool->List Int->List ByteArray->Prop
 | .leaf id es,_,ds,_=> ∃p:Nat,ds=[(p:Int)]/\ns[p]?=some ⟨id,true,es.map (·.1),es.map (·.2),[],[]⟩
 | .node id ks,_,ds,_=> ∃(p:Nat)(kd:List Int)(sg:List ByteArray),ds=[(p:Int)]/\ns[p]?=some ⟨id,false,[],[],kd,sg⟩/\Rep ns ks true kd sg
 | .nil,_,ds,ss=>ds=[]/\ss=[]
 | .cons s t ks,b,ds,ss=> ∃(d:Int)(ds':List Int)(ss':List ByteArray),ds=d::ds'/\ss=(if b=true then ss' else s::ss')/\Rep ns t true [d] []/\Rep ns ks false ds' ss'
theorem Rep.app{ns}(g):∀{n:Tr}{b:Bool}{c:List Int}{e:List ByteArray},Rep ns n b c e->Rep (ns++g) n b c e
 | .leaf id es,b,c,e,h=>by
  rw[Rep]at h ⊢;obtain⟨p,f,a⟩:=h;exact⟨p,f,by rw[l7 (lb.1 a).1];exact a⟩
 | .node id ks,b,c,e,h=>by
  rw[Rep]at h ⊢;obtain⟨p,kd,m,f,a,i⟩:=h;exact⟨p,kd,m,f,by rw[l7 (lb.1 a).1];exact a,i.app g⟩
 | .nil,b,c,e,h=>by rw[Rep]at h ⊢;exact h
 | .cons s n ks,b,c,e,h=>by
  rw[Rep]at h ⊢;obtain⟨d,j,k,f,a,i,l⟩:=h;exact⟨d,j,k,f,a,i.app g,l.app g⟩
def gN:List (ByteArray×Tr)->Tr->Tr
 |[],k=>k
 |(s,t)::r,k=> .cons s t (gN r k)
theorem IW(a b k):gN (a++b) k=gN a (gN b k):=by
 induction a with
 |nil=>rfl
 |cons x r ih=>cases x;simp[gN,ih]
theorem yH{ns}:∀(c:List (ByteArray×Tr))(b:Bool)(a:List Int),a.length=c.length->(∀i,i<c.length->Rep ns (c.getD i (strOfNums [],.nil)).2 true [a.getD i 0] [])->
 Rep ns (gN c .nil) b a (if b=true then c.tail.map (·.1)else c.map (·.1))
 |[],b,a,e,_=>by
  have:=oT e;subst this;cases b<;>simp[gN,Rep]
 |(s,g)::r,b,[],e,_=>by simp at e
 |(s,g)::r,b,d::a,e,h=>by
  rw[gN,Rep];refine⟨d,a,r.map (·.1),rfl,?_,?_,?_⟩
  ·cases b<;>simp
  ·have:=h 0 kP;simpa using this
  ·have:=yH (ns:=ns) r false a (by simpa using e) (fun i f=>by
    have:=h (i+1) (by simp;omega);simpa using this)
   simpa using this
def mkB(seen:List Int)(N:Nat):List Value:=(List.range N).map fun(i:Nat)=> .bool (seen.contains (i:Int))
theorem yI(seen N):(mkB seen N).length=N:=by simp[mkB]
theorem kU(seen N i)(h:i<N):(mkB seen N).getD i undef= .bool (seen.contains (i:Int)):=by simp[mkB,List.getD,h]
theorem pH(seen N i)(h:i<N):(mkB seen N).set i (.bool true)=mkB ((i:Int)::seen) N:=by
 apply o3;intro j;rw[List.getElem?_set];by_cases e:i=j
 ·subst e;rw[qb rfl,yI,qb h];simp[mkB,h]
 ·rw[q4 e];by_cases a:j<N
  ·simp[mkB,a];intro b;exact absurd kH e
  ·simp[mkB,a]
theorem yJ:∀(l m:List Nat),l.Nodup->(∀x∈l,x∈m)->l.length<=m.length
 |[],m,_,_=>kX _
 |x::l,m,h,a=>by
  rw[o9]at h;have hx:=a x kP;have:=yJ l (m.erase x) h.2 (fun y b=>(List.mem_erase_of_ne (fun e=>by subst e;exact h.1 b)).2 (a y (by simp[b])));rw[List.length_erase_of_mem hx]at this;have:=List.length_pos_of_mem hx;simp;omega
structure SeenOk(seen:List Int)(N:Nat):Prop where
 nodup:seen.Nodup
 lt:∀x∈seen,0<=x/\x< (N:Int)
theorem SeenOk.le{seen N}(h:SeenOk seen N):seen.length<=N:=by
 have c:(seen.map Int.toNat).Nodup:=by
  rw[List.Nodup,List.pairwise_map];refine List.Pairwise.imp_of_mem ?_ h.nodup;intro a b e f i j;have:=h.lt a e;have:=h.lt b f;omega
 have d:∀x∈seen.map Int.toNat,x∈List.range N:=by
  intro x hx;obtain⟨y,g,rfl⟩:=oj.1 hx;have:=h.lt y g;rw[m3];omega
 have:=yJ _ _ c d;simpa using this
theorem SeenOk.cons{seen N}(h:SeenOk seen N){x}(b:0<=x)(c:x< (N:Int))(d:x∉seen):SeenOk (x::seen) N:=
 ⟨o9.2 ⟨d,h.nodup⟩,fun y a=>by rcases l3.1 a with rfl|a;exact⟨b,c⟩;exact h.lt y a⟩
def i0(nv:Nat->NdV)(ns:List NdK):Nat->List Value:=fun i=>ndc (nv i) (ns.getD i nd0)
def trc(na:Option Addr)(n nc:Nat)(rt:Int)(sb N:Nat)(tall:Int)(bad:Bool):List Value:=[.slice na n nc,.int .i64 rt,.slice (some ⟨sb,0,none⟩) N N,.int .i64 tall,.bool bad]
structure TSt(B0 g sb N:Nat)(rt:Int)(w:World)(ns:List NdK)(nv:Nat->NdV)(na:Option Addr)(nc:Nat)(seen:List Int)(tall:Int)(bad:Bool):Prop where
 blk:Blk w 207 g (trc na ns.length nc rt sb N tall bad)
 mks:Own1 4 B0 w (some ⟨sb,0,none⟩) N N (mkB seen N)
 nodes:ORow 257 6 B0 w na ns.length nc (i0 nv ns)
 each:∀i,i<ns.length->ONd 0 w (nv i) (ns.getD i nd0)
 gB:B0<=w.1.size
 ok:SeenOk seen N
theorem Own1.blk{e B w g n c xs}(h:Own1 e B w (some ⟨g,0,none⟩) n c xs):B<=g/\∃a,w.heap[g]?=some (.cells a e (0,0)):=by
 rcases h.2 with⟨b,_⟩|⟨j,i,a,b,d,f,_⟩
 ·cases b
 ·cases b;exact⟨d,a,f⟩
theorem ORow.blk{e s B w g n c f}(h:ORow e s B w (some ⟨g,0,none⟩) n c f):B<=g/\∃a,w.heap[g]?=some (.cells a e (0,0)):=by
 rcases h.2 with⟨b,_⟩|⟨k,j,a,b,d,i,_⟩
 ·cases b
 ·cases b;exact⟨d,a,i⟩
theorem ORow.keep{e s B w w' a n c f}(h:ORow e s B w a n c f)(b:∀g,a=some ⟨g,0,none⟩->w'.heap[g]?=w.heap[g]?):ORow e s B w' a n c f:=by
 refine⟨h.1,?_⟩;rcases h.2 with h2|⟨k,cap,cur,hv,hg,hh,r⟩
 ·exact kV h2
 ·refine kT ⟨k,cap,cur,hv,hg,?_,r⟩;cases hv;rw[b k rfl];exact hh
structure Fr3(g sb:Nat)(na:Option Addr)(w w':World):Prop where
 os:w'.os=w.os
 tape:w'.tape=w.tape
 output:w'.output=w.output
 size:w.1.size<=w'.1.size
 block:∀k,k<w.1.size->k≠g->k≠sb->na≠some ⟨k,0,none⟩->w'.heap[k]?=w.heap[k]?
theorem Fr3.ofBelow{g sb na w w'}(h:Below w.1.size w w'):Fr3 g sb na w w':=⟨h.os,h.tape,h.output,h.size,fun k a _ _ _=>h.block k a⟩
theorem Fr3.trans{g sb na b w w1 j}(h:Fr3 g sb na w w1)(a:Fr3 g sb b w1 j)(l:b=na\/∃k,b=some ⟨k,0,none⟩/\w.1.size<=k):Fr3 g sb na w j:=
 ⟨a.os.trans h.os,a.tape.trans h.tape,a.output.trans h.output,k2 h.size a.size,fun k i c d f=>by
  rw[a.block k (lk i h.size) c d (by
   rcases l with rfl|⟨k1,rfl,hk1⟩
   ·exact f
   ·intro e;cases e;omega)]
  exact h.block k i c d f⟩
theorem Fr3.only{g sb b na w w'}(h:OnlyB b w w')(a:b=g\/b=sb\/na=some ⟨b,0,none⟩\/w.1.size<=b):Fr3 g sb na w w':=
 ⟨h.os,h.tape,h.output,h.size,fun k i c d f=>h.block k i (fun e=>by
  subst e;rcases a with a|a|a|a
  ·exact c a
  ·exact d a
  ·exact f a
  ·omega)⟩
theorem Fr3.fresh{g sb b na w w1 d}(h:Fr3 g sb na w w1)(a:OnlyB b w1 d)(j:w.1.size<=b):Fr3 g sb na w d:=
 ⟨a.os.trans h.os,a.tape.trans h.tape,a.output.trans h.output,k2 h.size a.size,fun k c e f i=>by
  rw[a.block k (lk c h.size) kH];exact h.block k c e f i⟩
theorem TSt.types{B0 g sb N rt w ns nv na nc seen tall bad}(h:TSt B0 g sb N rt w ns nv na nc seen tall bad){k cs}{d:Nat}{fr}(b:w.heap[k]?=some (.cells cs d fr))(f:d≠207)(i:d≠4)(j:d≠257):
 k≠g/\k≠sb/\na≠some ⟨k,0,none⟩:=by
 refine⟨fun e=> ?_,fun e=> ?_,fun e=> ?_⟩
 ·subst e;have:=h.blk;unfold Blk at this;rw[b]at this;cases this;exact f rfl
 ·subst e;obtain⟨_,c,a⟩:=h.mks.blk;rw[b]at a;cases a;exact i rfl
 ·subst e;obtain⟨_,c,a⟩:=h.nodes.blk;rw[b]at a;cases a;exact j rfl
theorem Fr3.keepT{B0 g sb N rt w w' ns nv na nc seen tall bad}(f:Fr3 g sb na w w')(h:TSt B0 g sb N rt w ns nv na nc seen tall bad){b}(i:b≠207)(j:b≠4)(l:b≠257):KeepT b w w':=
 ⟨f.size,fun k cs fr a=>by
  obtain⟨c,d,e⟩:=h.types a i j l;rw[f.block k (k6.1 a).1 c d e];exact a⟩
theorem Fr3.onlyG{B0 g sb N rt b w w' ns nv na nc seen tall bad}(f:Fr3 g sb na w w')(h:TSt B0 g sb N rt w ns nv na nc seen tall bad)(i:b.1.size<=B0)(a:OnlyB g b w):OnlyB g b w':=
 ⟨f.os.trans a.os,f.tape.trans a.tape,f.output.trans a.output,k2 a.size f.size,fun k d c=>by
  have j:=a.size;rw[f.block k kH c ?_ ?_]
  ·exact a.block k d c
  ·have:=h.mks.blk.1;omega
  ·intro e;subst e;have:=h.nodes.blk.1;omega⟩
theorem TSt.belowT{B0 g sb N rt w w' ns nv na nc seen tall bad}(h:TSt B0 g sb N rt w ns nv na nc seen tall bad)(a:Below w.1.size w w'):TSt B0 g sb N rt w' ns nv na nc seen tall bad:=
 ⟨h.blk.below a,h.mks.below a,h.nodes.below a,fun i b=>(h.each i b).below a,k2 h.gB a.size,h.ok⟩
theorem TSt.other{B0 g sb N b e:Nat}{rt w w' ns nv na nc seen tall bad}{xs:List Value}(h:TSt B0 g sb N rt w ns nv na nc seen tall bad)(m:OnlyB b w w')(v:∃n,w.heap[b]?=some (.cells n e (0,0)))(t:e≠207)(u:e≠4)(f:e≠257\/na≠some ⟨b,0,none⟩)(o:e≠9)(j:e≠3\/∀i,i<ns.length->(nv i).da≠some ⟨b,0,none⟩):TSt B0 g sb N rt w' ns nv na nc seen tall bad:=by
 obtain⟨n,p⟩:=v;have a:∀y,e≠y->KeepT y w w':=fun y x=>⟨m.size,fun k cs fr a=>by
  by_cases c:k=b
  ·subst c;rw[p]at a;cases a;exact absurd rfl x
  ·rw[m.block k (k6.1 a).1 c];exact a⟩
 refine⟨h.blk.keepT (a _ t),h.mks.keep (a _ u),h.nodes.keep (fun k c=> ?_),fun i q=> ?_,k2 h.gB m.size,h.ok⟩
 ·subst c;obtain⟨_,s,l⟩:=h.nodes.blk;refine m.block k (k6.1 l).1 (fun c=> ?_);subst c;rcases f with f|f
  ·rw[p]at l;cases l;exact f rfl
  ·exact f rfl
 ·have d:=h.each i q;refine⟨d.keys.keep (a _ o),d.vals.keep (a _ o),?_,d.signs.keep (a _ o)⟩;rcases j with j|j
  ·exact d.kids.keep (a _ j)
  ·refine⟨d.kids.1,?_⟩;rcases d.kids.2 with h6|⟨k,cap,cur3,hv,hg,hh,r⟩
   ·exact kV h6
   ·refine kT ⟨k,cap,cur3,hv,hg,?_,r⟩;have:(nv i).da=some ⟨k,0,none⟩:=by simp only[s0]at hv;exact hv.1
    rw[m.block k (k6.1 hh).1 (fun c=>by subst c;exact j i q this)];exact hh
theorem TSt.set{B0 g sb N rt w ns nv na nc seen tall a bad b}(h:TSt B0 g sb N rt w ns nv na nc seen tall bad)(i x)(e:(trc na ns.length nc rt sb N tall bad).set i x=trc na ns.length nc rt sb N a b):TSt B0 g sb N rt (w.setCell ⟨g,i,none⟩ x) ns nv na nc seen a b:=by
 have d:=aB w g i x;have c:∀l,207≠l->KeepT l w (w.setCell ⟨g,i,none⟩ x):=fun l k=>aV d h.blk k;have f:=h.blk.set i x;rw[e]at f;exact⟨f,h.mks.keep (c _ kN),dL h.nodes (c _ kN),fun i j=>(h.each i j).keep (c _ kN) (c _ kN),k2 h.gB d.size,h.ok⟩
theorem TSt.mark{B0 g sb N rt w ns nv na nc seen tall bad}(h:TSt B0 g sb N rt w ns nv na nc seen tall bad){i}(b:i<N)(j:(i:Int)∉seen):TSt B0 g sb N rt (w.setCell ⟨sb,i,none⟩ (.bool true)) ns nv na nc ((i:Int)::seen) tall bad:=by
 have c:=aB w sb i (.bool true);obtain⟨_,n,f⟩:=h.mks.blk;have a:∀m,4≠m->KeepT m w (w.setCell ⟨sb,i,none⟩ (.bool true)):=fun m l=>⟨c.size,fun k cs fr a=>by
  by_cases d:k=sb
  ·subst d;rw[f]at a;cases a;exact absurd rfl l
  ·rw[c.block k (k6.1 a).1 d];exact a⟩
 have e:=h.mks.set i (.bool true);rw[pH _ _ _ b]at e;exact⟨h.blk.keepT (a _ kN),e,dL h.nodes (a _ kN),fun i b=>(h.each i b).keep (a _ kN) (a _ kN),k2 h.gB c.size,h.ok.cons kH kH j⟩
theorem lW:ElT 205 257 6 (.agg (ndc bX nd0).toArray) 112:=⟨underlying205,kO,rfl,kH⟩
theorem pI(v K):∀a∈ndc v K,a.oneCell'=true:=by
 intro x hx;simp[ndc]at hx;rcases hx with rfl|rfl|rfl|rfl|rfl|rfl<;>rfl
def jN{α:Type}(f:Nat->α)(n:Nat)(x:α):Nat->α:=fun i=>if i=n then x else f i
theorem pJ{a:Type}(f n)(x:a):jN f n x n=x:=by simp[jN]
theorem mY{a:Type}(f){n i}(x:a)(h:i<n):jN f n x i=f i:=by simp[jN,Nat.ne_of_lt h]
theorem TSt.push{B0 g sb N rt w b ns nv na nc seen tall bad}(h:TSt B0 g sb N rt w ns nv na nc seen tall bad){v K}(o:ONd 0 w v K){d c}(x:ORow 257 6 B0 b (some ⟨d,0,none⟩) (ns.length+1) c (dg (i0 nv ns) ns.length (ndc v K)))(t:Below B0 w b)(u:(w.alloc (.cells (ndc v K).toArray 257)).grownBy b (Value.slice na ns.length nc).ownBlock):
 TSt B0 g sb N rt (b.setCell ⟨g,0,none⟩ (.slice (some ⟨d,0,none⟩) (ns.length+1) c)) (ns++[K]) (jN nv ns.length v) (some ⟨d,0,none⟩) c seen tall bad:=by
 have s:=bAl w (.cells (ndc v K).toArray 257);have j:∀m,257≠m->KeepT m w b:=fun m l=>(aW s).trans (bJ (cj h.nodes s) u l);have r:Blk b 207 g _:=h.blk.keepT (j _ kN);have p:=aB b g 0 (.slice (some ⟨d,0,none⟩) (ns.length+1) c);have a:∀m,207≠m->KeepT m b (b.setCell ⟨g,0,none⟩ (.slice (some ⟨d,0,none⟩) (ns.length+1) c)):=fun m l=>aV p r l;have q:=r.set 0 (.slice (some ⟨d,0,none⟩) (ns.length+1) c);refine⟨?_,(h.mks.keep (j _ kN)).keep (a _ kN),?_,fun i k=> ?_,k2 h.gB (k2 t.size p.size),h.ok⟩
 ·have e:(trc na ns.length nc rt sb N tall bad).set 0 (.slice (some ⟨d,0,none⟩) (ns.length+1) c)=trc (some ⟨d,0,none⟩) (ns++[K]).length c rt sb N tall bad:=by simp[trc]
  rw[e]at q;exact q
 ·have y:=dL x (a _ kN);rw[kY];refine ORow.congr (f:=dg (i0 nv ns) ns.length (ndc v K)) y (fun i k=> ?_);have n:i<ns.length+1:=k;by_cases e:i=ns.length
  ·subst e;rw[fJ];unfold i0;rw[pJ];simp
  ·rw[iE _ _ kH];unfold i0;rw[mY _ _ kH];simp[List.getD,List.getElem?_append_left (show i<ns.length by omega)]
 ·rw[kY]at k;have n:i<ns.length+1:=k;by_cases e:i=ns.length
  ·subst e;rw[pJ];have:(ns++[K]).getD ns.length nd0=K:=by simp
   rw[this];exact(o.keep (j _ kN) (j _ kN)).keep (a _ kN) (a _ kN)
  ·rw[mY _ _ kH];have:(ns++[K]).getD i nd0=ns.getD i nd0:=by simp[List.getD,List.getElem?_append_left (show i<ns.length by omega)]
   rw[this];exact((h.each i kH).keep (j _ kN) (j _ kN)).keep (a _ kN) (a _ kN)
theorem Fr3.push{g sb na w i n nc x cs}{r B:Nat}{f}(o:ORow 257 6 B w na n nc f)(b:(w.alloc (.cells cs r)).grownBy i (Value.slice na n nc).ownBlock)(u:g<w.1.size):Fr3 g sb na w (i.setCell ⟨g,0,none⟩ x):=by
 have c:=aB i g 0 x;have a:=bAl w (.cells cs r);refine⟨c.os.trans (b.os.trans a.os),c.tape.trans (b.tape.trans a.tape),c.output.trans (b.output.trans a.output),k2 a.size (k2 b.size c.size),fun k h l t m=> ?_⟩;have j:=lk h (k2 a.size b.size);rw[c.block k j l,b.block k (lk h a.size) ?_]
 ·exact a.block k h
 ·intro e;rcases o.2 with⟨d,_⟩|⟨s,p,q,d,_⟩
  ·rw[d]at e;simp[Value.ownBlock]at e
  ·rw[d]at e;simp[Value.ownBlock]at e;cases d;subst e;exact m rfl
theorem IX{r s id ls a}(h:r a id=none):rdK r ((s,id)::ls) a=none:=by rw[rdK,h];rfl
theorem IZ{r s id ls b a T c}(h:r b id=some (T,a)):
 (rdK r ((s,id)::ls) b).map (fun y=>(gN c y.1,y.2))=(rdK r ls a).map (fun y=>(gN (c++[(s,T)]) y.1,y.2)):=by
 rw[rdK,h];simp only[nn];cases rdK r ls a with
 |none=>rfl
 |some y=>simp[IW,gN]
structure PgW(P:Pg)(N:Nat):Prop where
 ok:∀t,P.ok t=true->0<=t/\t< (N:Int)
 byte:∀t,IsB (P.bd t)
 len:∀t,(P.bd t).length<=1048576
 le:N<=1024
def mZ(P:Pg)(vs:Value)(g:Nat)(w0:World):Prop:= ∀u,OnlyB g w0 u->∀t,Calls prog 179 #[.agg #[vs],.int .i64 t] u fun e w'=> ∃a c,e= .returned (.tuple #[.int .i64 (P.kd t),.slice a (P.bd t).length c,.bool (P.ok t)])/\Below u.1.size u w'/\Own u.1.size w' a (P.bd t).length c (P.bd t)
structure RdQ(P:Pg)(B0 g sb N:Nat)(rt:Int)(f steps:Nat)(id:Int)(w:World)(ns:List NdK)(nv:Nat->NdV)(na:Option Addr)(seen:List Int)(tall:Int)(w':World)(p:Int)(ms:List NdK)(nv':Nat->NdV)(na':Option Addr)(nc':Nat)(seen':List Int)(tall':Int)(bad':Bool):Prop where
 fr:Fr3 g sb na w w'
 st:TSt B0 g sb N rt w' (ns++ms) nv' na' nc' seen' tall' bad'
 na:na'=na\/∃k,na'=some ⟨k,0,none⟩/\w.1.size<=k
 old:∀i,i<ns.length->nv' i=nv i
 new:∀i k,ns.length<=i->i< (ns++ms).length->(nv' i).da=some ⟨k,0,none⟩->w.1.size<=k
 le:(ns++ms).length+steps<=seen'.length
 le2:seen.length<=seen'.length
 res:(bad'=false/\∃T,rdT P f steps ⟨seen,tall⟩ id=some (T,⟨seen',tall'⟩)/\isT T=true/\Rep (ns++ms) T true [p] [])\/(bad'=true/\rdT P f steps ⟨seen,tall⟩ id=none)
def RdP(P:Pg)(B0 g sb N:Nat)(rt:Int)(f steps:Nat)(id:Int)(w:World)(ns:List NdK)(nv:Nat->NdV)(na:Option Addr)(seen:List Int)(tall:Int)(e:Ending)(w':World):Prop:= ∃p ms nv' na' nc' seen' tall' bad',e= .returned (.int .i64 p)/\RdQ P B0 g sb N rt f steps id w ns nv na seen tall w' p ms nv' na' nc' seen' tall' bad'
theorem im{P B0 g sb N rt f steps id w ns nv na seen tall w' p j i d e a b c}(h:RdQ P B0 g sb N rt f steps id w ns nv na seen tall w' p j i d e a b c):RdP P B0 g sb N rt f steps id w ns nv na seen tall (.returned (.int .i64 p)) w':=⟨_,_,_,_,_,_,_,_,rfl,h⟩
theorem pK{P B0 g sb N rt f steps id}{w w1 c:World}{ns nv na nc seen a tall b}(p)(fr:Fr3 g sb na w c)(j:TSt B0 g sb N rt c ns nv na nc a b true)(m:ns.length+steps<=seen.length)(h:seen.length<=a.length)(d:rdT P f steps ⟨seen,tall⟩ id=none):
 RdQ P B0 g sb N rt f steps id w ns nv na seen tall c p [] nv na nc a b true:=
 ⟨fr,by rw[lj];exact j,kV rfl,fun _ _=>rfl,fun i k l e=>by rw[lj]at e;omega,by rw[lj];omega,h,kT ⟨rfl,d⟩⟩
theorem I5{P f steps a id}(h:eB P a id=false):rdT P (f+1) steps a id=none:=by rw[rdT,q4 (by rw[h];decide)]
def RdC(P:Pg)(N B0 g sb:Nat)(rt:Int)(vs:Value)(w0:World)(f:Nat):Prop:= ∀(steps:Nat)(id:Int)(ns:List NdK)(nv:Nat->NdV)(na:Option Addr)(nc:Nat)(seen:List Int)(tall:Int)(w:World),OnlyB g w0 w->TSt B0 g sb N rt w ns nv na nc seen tall false->N<f+seen.length->ns.length+steps<=seen.length->
 Calls prog 180 #[.pointer (some ⟨g,0,none⟩),.agg #[vs],.int .i64 id,.int .i64 (steps:Nat)] w fun e w'=>RdP P B0 g sb N rt f steps id w ns nv na seen tall e w'
theorem I6(P N B0 g sb rt d H)(A:PgW P N)(I:mZ P d g H)(L:H.1.size<=B0)(f steps id ns nv na nc seen tall w)(af:OnlyB g H w)(U:TSt B0 g sb N rt w ns nv na nc seen tall false)(ad:ns.length+steps<=seen.length)(l:eB P ⟨seen,tall⟩ id=false):
 Calls prog 180 #[.pointer (some ⟨g,0,none⟩),.agg #[d],.int .i64 id,.int .i64 (steps:Nat)] w fun e w'=>RdP P B0 g sb N rt (f+1) steps id w ns nv na seen tall e w':=by
 have Y:=A.le;have G:=bAl w (.cells #[d] 249);have S:=ao w 249 #[d];have y:=U.belowT G;have B:Fr3 g sb na w (w.alloc (.cells #[d] 249)):=Fr3.ofBelow G;have ah:(w.alloc (.cells #[d] 249)).1.size=w.1.size+1:=by simp
 have ag:(prog.info? 249).map (·.size)=some (#[d]:Array Value).size:=kO;go_enter func180,ntmps180;go_upto_region 1 with fail
 change Code.wp _ _ _ _ (w.alloc (.cells #[d] 249));generalize w.alloc (.cells #[d] 249)=ai at*;clear ah;have Z:=B.onlyG U L af;have r:=I ai Z id;have M:=A.byte id;have E:=A.ok id;have n:Blk ai 249 w.1.size [d]:=S;clear S I;have V:Hid (¬(P.ok id=true/\2<=id/\id∉seen/\(P.kd id=2\/P.kd id=3))):=fun h=>by rw[gV.2 h]at l;cases l
 have J:=I5 (P:=P) (f:=f) (steps:=(steps:Nat)) l;generalize D:P.ok id=T at*;generalize Q:P.kd id=kd at*;generalize O:P.bd id=W at*;clear D Q O;generalize ap:W.length=aw at*;go_wp2_with (refine qi rfl 249 _ rfl w.1.size rfl 249 #[d] (0,0) _ n underlying249 rfl ag ?_);refine r.mono ?_;rintro e w1 ⟨ar,aH,rfl,q,F⟩;have k:=y.belowT q;have f1:=B.trans (Fr3.ofBelow q) (kV rfl);have x:=n.below q;have bs1:=F.bs M;have am:w1.cell? ⟨g,4,none⟩=some (.bool false):=k.blk.cell 4;have an:=k.blk.free 4;have ak:w1.cell? ⟨g,2,none⟩=some (.slice (some ⟨sb,0,none⟩) N N):=k.blk.cell 2;have z:=kG k (kR f1 (kR x (kR bs1 F)));clear r k f1 x bs1 F q y B n G;have o:(trc na ns.length nc rt sb N tall false).set 4 (.bool true)=trc na ns.length nc rt sb N tall true:=rfl;have a:Hid (∀p:Int,RdQ P B0 g sb N rt (f+1) steps id w ns nv na seen tall (w1.setCell ⟨g,4,none⟩ (.bool true)) p [] nv na nc seen tall true):=fun p=>
  pK (w1:=w1) p (z.out.2.1.trans (Fr3.only (aB w1 g 4 (.bool true)) (kV rfl)) (kV rfl)) (z.out.1.set 4 (.bool true) o) ad kE J
 clear o;cases T with
 |false=>
  have b:=a.out (-1);have c:Hid _:=b;clear b a;go_wp2_with fail;go_ret;exact im c.out
 |true=>
 obtain⟨C,ac⟩:=E rfl;obtain⟨i,rfl⟩:=n3 C;have t:i<N:=kH;by_cases aX:(i:Int)<2
 ·have b:=a.out (-1);have c:Hid _:=b;clear b a;go_wp2_with fail;go_ret;exact im c.out
 have s:w1.cell? ⟨sb,i,none⟩=some (.bool (seen.contains (i:Int))):=by
  obtain⟨aO,X,_,_,_,ab⟩:=z.out.1.mks.at_ kH;cases X;rw[ab i t,kU _ _ _ t]
 have K:2<=(i:Int):=kH;cases j:seen.contains (i:Int)with
 |true=>
  rw[j]at s;have b:=a.out (-1);have c:Hid _:=b;clear b a j;go_wp2_with fail;go_ret;exact im c.out
 |false=>
 rw[j]at s;have R:(i:Int)∉seen:=fun ae=>by rw[m9.2 ae]at j;cases j
 clear j;by_cases m:kd=2\/kd=3
 case neg=>
  have u:¬kd=2:=fun e=>m (kV e);have v:¬kd=3:=fun e=>m (kT e);have a0:(kd !=2)=true:=by simp[u]
  have a1:(kd !=3)=true:=by simp[v]
  have b:=a.out (-1);have c:Hid _:=b;clear b a u v;go_wp2_with fail;go_ret;exact im c.out
 case pos=>exact absurd ⟨rfl,K,R,m⟩ V.out
theorem I7(P N B0 g sb rt s bc)(a7:PgW P N)(b9:mZ P s g bc)(cF:bc.1.size<=B0)(f steps id ns nv na nc seen tall w)(dn:OnlyB g bc w)(b5:TSt B0 g sb N rt w ns nv na nc seen tall false)(cS:ns.length+steps<=seen.length)(q:P.ok id=true)(u:2<=id)(am:id∉seen)(y:P.kd id=2):
 Calls prog 180 #[.pointer (some ⟨g,0,none⟩),.agg #[s],.int .i64 id,.int .i64 (steps:Nat)] w fun e w'=>RdP P B0 g sb N rt (f+1) steps id w ns nv na seen tall e w':=by
 have da:=a7.le;have dF:=b5.ok.le;have b4:=bAl w (.cells #[s] 249);have c1:=ao w 249 #[s];have bv:=b5.belowT b4;have bS:Fr3 g sb na w (w.alloc (.cells #[s] 249)):=Fr3.ofBelow b4;have ds:(w.alloc (.cells #[s] 249)).1.size=w.1.size+1:=by simp
 have dr:(prog.info? 249).map (·.size)=some (#[s]:Array Value).size:=kO;go_enter func180,ntmps180;go_upto_region 1 with fail
 change Code.wp _ _ _ _ (w.alloc (.cells #[s] 249));generalize w.alloc (.cells #[s] 249)=b6 at*;have dG:w.1.size<b6.1.size:=kH;clear ds;have dc:OnlyB g bc b6:=bS.onlyG b5 cF dn;have af:=b9 b6 dc id;have bg:=a7.byte id;have dB:=a7.len id;have an:=a7.ok id;have aH:Blk b6 249 w.1.size [s]:=c1;clear c1 b9;obtain⟨b0,dd⟩:=an q;have R:Hid (rdT P (f+1) steps ⟨seen,tall⟩ id=(if tall<0\/tall=(steps:Nat)then(lfP (P.bd id)).bind fun es=>if es.isEmpty then none else some (.leaf id es,⟨id::seen,(steps:Nat)⟩)else none)):=by
  show rdT P (f+1) steps ⟨seen,tall⟩ id= _;rw[rdT,qb (gV.2 ⟨q,u,am,kV y⟩),qb y]
 rw[q,y]at af;clear an q y;obtain⟨i,rfl⟩:=n3 b0;have ak:i<N:=kH;generalize cM:P.bd (i:Int)=bP at*;clear cM;generalize dC:bP.length=ci at*;go_wp2_with (refine qi rfl 249 _ rfl w.1.size rfl 249 #[s] (0,0) _ aH underlying249 rfl dr ?_);refine af.mono ?_;rintro e w1 ⟨cg,cl,rfl,ag,b3⟩;have a1:=bv.belowT ag;have f1:Fr3 g sb na w w1:=bS.trans (Fr3.ofBelow ag) (kV rfl);have bt:=aH.below ag;have bs1:=b3.bs bg;have cn:w1.cell? ⟨g,2,none⟩=some (.slice (some ⟨sb,0,none⟩) N N):=a1.blk.cell 2;have dW:b6.1.size<=w1.1.size:=ag.size;have E:=kG a1 (kR f1 (kR bt (kR bs1 b3)));clear af a1 f1 bt bs1 b3 ag bv bS aH b4;have cO:w1.cell? ⟨sb,i,none⟩=some (.bool false):=by
  obtain⟨c9,O,_,_,_,bY⟩:=E.out.1.mks.at_ kH;cases O;rw[bY i ak,kU _ _ _ ak];cases cV:seen.contains (i:Int)with
  |false=>rfl
  |true=>exact absurd (m9.1 cV) am
 have cP:w1.frozen? ⟨sb,i,none⟩=false:=E.out.1.mks.free i;have V:=aB w1 sb i (.bool true);have bw:=E.out.1.mark ak am;have ct:Fr3 g sb na w (w1.setCell ⟨sb,i,none⟩ (.bool true)):=E.out.2.1.trans (Fr3.only V (kT (kV rfl))) (kV rfl);obtain⟨_,c8,T⟩:=E.out.1.mks.blk;have aO:∀bE,4≠bE->KeepT bE w1 (w1.setCell ⟨sb,i,none⟩ (.bool true)):=fun bE df=>iN V T df;have bu:=E.out.2.2.1.keepT (aO _ kN);have c2:Own b6.1.size (w1.setCell ⟨sb,i,none⟩ (.bool true)) cg ci cl bP:=dL E.out.2.2.2.2 (aO _ kN);have ah:=c2.bs bg;have d1:w1.1.size<=(w1.setCell ⟨sb,i,none⟩ (.bool true)).1.size:=V.size;have ca:=xG cg ci cl bP _ ah kH;have bF:=kG bw (kR ct (kR bu ah));clear E bw ct bu c2 ah aO T V;go_upto_region 6 with fail
 clear cn cO cP;generalize w1.setCell ⟨sb,i,none⟩ (.bool true)=ce at*;go_wp2_with fail;refine ca.mono ?_;rintro e t ⟨a,C,c4,rfl,a9,cb,ap⟩;have ae:Hid _:=ap;clear ap ca;have a2:=bF.out.1.belowT a9;have cu:Fr3 g sb na w t:=bF.out.2.1.trans (Fr3.ofBelow a9) (kV rfl);have q3:=bAl t (.cells (ndc a C).toArray 257);have c0:=ao t 257 (ndc a C).toArray;have z:=a2.belowT q3;have cv:Fr3 g sb na w (t.alloc (.cells (ndc a C).toArray 257)):=cu.trans (Fr3.ofBelow q3) (kV rfl);have cc:=cb.below q3;have bj:na≠some ⟨t.1.size,0,none⟩:=fun e=>by
  have cR:=a2.nodes;rw[e]at cR;obtain⟨_,dv,bY⟩:=cR.blk;have:=(k6.1 bY).1;omega
 have d2:ce.1.size<=t.1.size:=a9.size;clear bF a2 cu q3 a9 cb;go_upto_region 7 with(refine aL rfl 257 _ _ rfl t (ndc bX nd0).toArray (ndc a C).toArray 257 rfl rfl bM rfl (fT _ _) ?_)
 change Code.wp _ _ _ _ (t.alloc (.cells (ndc a C).toArray 257));generalize t.alloc (.cells (ndc a C).toArray 257)=d at*;have L:Blk d 257 t.1.size (ndc a C):=c0;clear c0;generalize t.1.size=nb at*;have co:d.cell? ⟨g,3,none⟩=some (.int .i64 tall):=z.blk.cell 3;have cz:=z.blk.free 3;have cp:d.cell? ⟨g,4,none⟩=some (.bool false):=z.blk.cell 4;have cA:=z.blk.free 4;have bf:d.cell? ⟨nb,4,none⟩=some (.slice a.da C.kids.length a.dc):=L.cell 4;have cm:d.cell? ⟨nb,0,none⟩=some (.int .i64 C.page):=L.cell 0;have cy:=L.free 0;have m:=kG z (kR cv (kR cc (kR L bj)));clear z cv cc L bj;have bi:ns.length+steps<=((i:Int)::seen).length:=by rw[m1];omega
 have ar:seen.length<=((i:Int)::seen).length:=by rw[m1];omega
 have a5:=kG bi ar;clear bi ar;have A:Hid (∀p,rdT P (f+1) steps ⟨seen,tall⟩ (i:Int)=none->RdQ P B0 g sb N rt (f+1) steps (i:Int) w ns nv na seen tall (d.setCell ⟨g,4,none⟩ (.bool true)) p [] nv na nc ((i:Int)::seen) tall true):=fun p ab=>
  pK (w1:=d) p (m.out.2.1.trans (Fr3.only (aB d g 4 (.bool true)) (kV rfl)) (kV rfl)) (m.out.1.set 4 (.bool true) rfl) cS a5.out.2 ab
 have B:Hid (∀p,rdT P (f+1) steps ⟨seen,tall⟩ (i:Int)=none->RdQ P B0 g sb N rt (f+1) steps (i:Int) w ns nv na seen tall ((d.setCell ⟨g,4,none⟩ (.bool true)).setCell ⟨g,4,none⟩ (.bool true)) p [] nv na nc ((i:Int)::seen) tall true):=fun p ab=>
  pK (w1:=d) p ((m.out.2.1.trans (Fr3.only (aB d g 4 (.bool true)) (kV rfl)) (kV rfl)).trans (Fr3.only (aB (d.setCell ⟨g,4,none⟩ (.bool true)) g 4 (.bool true)) (kV rfl)) (kV rfl)) ((m.out.1.set 4 (.bool true) rfl).set 4 (.bool true) rfl) cS a5.out.2 ab
 by_cases W:0<=tall/\¬tall=(steps:Nat)
 ·have bl:0<=tall:=W.1;have bp:(tall !=(steps:Nat))=true:=by simp[W.2]
  have J:rdT P (f+1) steps ⟨seen,tall⟩ (i:Int)=none:=by rw[R.out,q4 kH]
  have F:Hid _:=B.out (-1) J;clear A B J;cases c4 with
  |false=>
   go_wp2_with fail;go_ret;exact im F.out
  |true=>
   go_wp2_with fail;go_ret;exact im F.out
 have b:tall<0\/tall=(steps:Nat):=kH;have bk:Hid (tall<0\/tall=(steps:Nat)):=b;rcases ae.out with⟨q,es,r,cT,n⟩|⟨q,r⟩
 ·subst q;have aw:rdT P (f+1) steps ⟨seen,tall⟩ (i:Int)=some (.leaf (i:Int) es,⟨(i:Int)::seen,(steps:Nat)⟩):=by
   rw[R.out,qb bk.out,r];show(if es.isEmpty=true then none else some _)= _;rw[q4 (by simpa using cT)]
  have c5:Hid _:=aw;clear aw A B R ae W;subst n;have bh:(bD es).kids.length=0:=rfl;rw[bh]at bf;have bn:(trc na ns.length nc rt sb N tall false).set 3 (.int .i64 (steps:Nat))=trc na ns.length nc rt sb N (steps:Nat) false:=rfl;have bb:=aB (d.setCell ⟨g,3,none⟩ (.int .i64 (steps:Nat))) nb 0 (.int .i64 (i:Int));have U:g≠nb:=fun e=>by
   subst e;have ai:=m.out.1.blk;have u:=m.out.2.2.2.1;unfold Blk at ai u;rw[ai]at u;cases u
  have ac:=aB d g 3 (.int .i64 (steps:Nat));have X:=(m.out.2.2.2.1.only ac (s8 U)).set 0 (.int .i64 (i:Int));obtain⟨c,I⟩:∃K:NdK,K=⟨(i:Int),true,es.map (fun x=>x.1),es.map (fun x=>x.2),[],[]⟩:=⟨_,rfl⟩;have cr:(ndc a (bD es)).set 0 (.int .i64 (i:Int))=ndc a c:=by rw[I];rfl
  rw[cr]at X;have bx:=(m.out.1.set 3 (.int .i64 (steps:Nat)) bn).other (xs:=[]) bb ⟨_,m.out.2.2.2.1.only ac (s8 U)⟩ kN kN (kT m.out.2.2.2.2) kN (kV kN);have aX:∀bE,207≠bE->257≠bE->KeepT bE d ((d.setCell ⟨g,3,none⟩ (.int .i64 (steps:Nat))).setCell ⟨nb,0,none⟩ (.int .i64 (i:Int))):=fun bE ai u=>(aV ac m.out.1.blk ai).trans (aV bb (m.out.2.2.2.1.only ac (s8 U)) u);have bN:ONd ce.1.size ((d.setCell ⟨g,3,none⟩ (.int .i64 (steps:Nat))).setCell ⟨nb,0,none⟩ (.int .i64 (i:Int))) a c:=by
   have a6:=m.out.2.2.1.keep (aX _ kN kN) (aX _ kN kN);rw[I];exact⟨a6.keys,a6.vals,a6.kids,a6.signs⟩
  have cw:=(m.out.2.1.trans (Fr3.only ac (kV rfl)) (kV rfl)).fresh bb kH;have a4:=kG bx (kR cw (kR bN X));have bR:((d.setCell ⟨g,3,none⟩ (.int .i64 (steps:Nat))).setCell ⟨nb,0,none⟩ (.int .i64 (i:Int))).cell? ⟨nb,4,none⟩=some (.slice a.da 0 a.dc):=(X.cell 4).trans (by rw[I];rfl);have b7:Hid _:=I;clear I;have dy:=a5.out.1;have dE:=m.out.1.ok.le;have dx:B0<=d.1.size:=m.out.1.gB;have dD:g<d.1.size:=m.out.1.blk.lt;have y:Hid (∀k,a.da=some ⟨k,0,none⟩->w.1.size<=k):=fun k e=>by
   have cE:=bN.kids;rw[e]at cE;have:=cE.blk.1;omega
  have b8:Hid _:=m.out.2.2.2.2;clear bx cw bN X aX bb ac cr bn U m bh;rcases b with b|b
  rotate_left
  have bp:(tall !=(steps:Nat))=false:=by simp[b]
  have bl:0<=tall:=kH;clear b
  all_goals
   go_upto_region 17 with fail
   generalize (d.setCell ⟨g,3,none⟩ (.int .i64 (steps:Nat))).setCell ⟨nb,0,none⟩ (.int .i64 (i:Int))=a8 at*;clear co cz cp cA bf cm cy;go_wp2_with fail;go_loopw [14] (fun x wr=>x= .int .i64 0/\wr=a8) (fun _ _=>0)
   case atStart=>exact⟨rfl,rfl⟩
   case round=>
    obtain⟨rfl,bq⟩:=hrel;obtain rfl:=bq.symm;clear bq;go_upto_region 21 with fail
    clear bR;have G:=bDr a8;have M:=a4.out.1.belowT G;have Y:=a4.out.2.2.2.below G;have cd:=a4.out.2.2.1.below G;have S:Hid (∀Z:World,Blk Z 257 nb (ndc a c)->(Instr.loadAt 257 (.pointer (some ⟨nb,0,none⟩))).run prog Z= .ok (.agg (ndc a c).toArray) Z):=fun Z dl=>by
     simp only[Instr.loadAt,Instr.sureAddr,q9,r2,Result.andThen];exact sL Z nb 257 257 (ndc a c).toArray (0,0) _ dl q8 rfl bM
    have cB:Fr3 g sb na w a8.drew:=a4.out.2.1.trans (Fr3.ofBelow (na:=na) G) (kV rfl);refine ay (fun Z=>Z.cell? ⟨g,0,none⟩=some (.slice na ns.length nc)/\(Instr.loadAt 257 (.pointer (some ⟨nb,0,none⟩))).run prog Z= .ok (.agg (ndc a c).toArray) Z) (fun k=>decide (8<=k)) kO ?_;generalize a8.drew=l at*;have cs:l.cell? ⟨g,0,none⟩=some (.slice na ns.length nc)/\(Instr.loadAt 257 (.pointer (some ⟨nb,0,none⟩))).run prog l= .ok (.agg (ndc a c).toArray) l:=⟨M.blk.cell 0,S.out _ Y⟩;have a0:=bAl l (.cells (ndc a c).toArray 257);have cq:(l.alloc (.cells (ndc a c).toArray 257)).cell? ⟨g,0,none⟩=some (.slice na ns.length nc)/\(Instr.loadAt 257 (.pointer (some ⟨nb,0,none⟩))).run prog (l.alloc (.cells (ndc a c).toArray 257))= .ok (.agg (ndc a c).toArray) (l.alloc (.cells (ndc a c).toArray 257)):=⟨(M.belowT a0).blk.cell 0,S.out _ (Y.below a0)⟩;have cG:B0<=l.1.size:=M.gB;have o:=kG M (kR cB cd);have bd:Hid (∀Z:World,Blk Z 257 nb (ndc a c)->(Instr.loadAt 257 (.pointer (some ⟨nb,0,none⟩))).run prog Z= .ok (.agg (ndc a c).toArray) Z):=S;have ad:=kG (Y.below a0) a0;clear M cB cd Y a0 S G;refine aY 0 cs ?_;refine aY 1 cs ?_;refine aY 2 cs ?_;refine aY 3 cs ?_;refine aY 4 cs ?_;refine aC 5 (.agg (ndc a c).toArray) cs ?hyp5 ?_
    case hyp5=>exact fun Z cH=>bO (p:= .pointer (some ⟨nb,0,none⟩)) rfl rfl cH.2
    refine aj 6 fun D n=> ?_;refine fj _ _ _ rfl (v:= .slice (some ⟨l.1.size,0,none⟩) 1 1) (w':=(l.alloc (.cells (ndc a c).toArray 257))) ?bsp ?_
    case bsp=>
     simp only[k9,k4,k7];exact gF lW kH (.agg (ndc a c).toArray) (ndc a c) rfl rfl l
    refine al n ?_;clear n D;refine aj 7 fun D n=> ?_;refine jW _ _ lW rfl B0 na ns.length nc (i0 nv ns) rfl o.out.1.nodes (ndc a c) rfl (pI _ _) rfl kH kH cG ?_;intro Q ba a3 c3 ch H be;have bs:Blk a3 257 nb (ndc a c):=by
     refine(H.block nb ad.out.1.lt ?_).trans ad.out.1;intro e;rcases o.out.1.nodes.2 with⟨O,_⟩|⟨c9,c6,c7,O,_⟩
     ·rw[O]at e;simp[Value.ownBlock]at e
     ·rw[O]at e;simp[Value.ownBlock]at e;simp only[s0]at O;subst e;exact b8.out O.1
    have b2:Blk a3 207 g _:=o.out.1.blk.keepT ((aW (bAl _ _)).trans (bJ (cj o.out.1.nodes (bAl _ _)) H kN));have ck:a3.cell? ⟨g,0,none⟩=some (.slice na ns.length nc):=b2.cell 0;refine n.out _ _ (fun _=>⟨ck,bd.out _ bs⟩) ?_;clear n D;have bz:=o.out.1.push (o.out.2.2.mono (kX _)) c3 ch H;have cx:Fr3 g sb na w (a3.setCell ⟨g,0,none⟩ (.slice (some ⟨Q,0,none⟩) (ns.length+1) ba)):=o.out.2.1.trans (Fr3.push o.out.1.nodes H o.out.1.blk.lt) (kV rfl);have cC:=b2.free 0;have cL:Hid (na=some ⟨Q,0,none⟩\/l.1.size<Q):=be;have bH:=kG bz cx;have dA:w.1.size<=l.1.size:=o.out.2.1.size;clear bz cx b2 c3 ch H be cq bs ad bd;refine aj 8 fun D n=> ?_;go_wp2_with fail;refine al n ?_;clear n D;refine aj 9 fun D n=> ?_;go_wp2_with fail;refine al n ?_;clear n D;refine aj 10 fun D n=> ?_;go_wp2_with fail;refine al n ?_;clear n D;refine ax ?_;clear ck cC cs;generalize a3.setCell ⟨g,0,none⟩ (.slice (some ⟨Q,0,none⟩) (ns.length+1) ba)=cf at*;have d3:cf.cell? ⟨g,0,none⟩=some (.slice (some ⟨Q,0,none⟩) (ns.length+1) ba):=(bH.out.1.blk.cell 0).trans (by simp[trc]);go_wp2_with fail;go_ret;have ab:RdQ P B0 g sb N rt (f+1) steps (i:Int) w ns nv na seen tall cf (ns.length:Nat) [c] (jN nv ns.length a) (some ⟨Q,0,none⟩) ba ((i:Int)::seen) (steps:Nat) false:=by
     refine⟨bH.out.2,bH.out.1,?_,fun j b1=>mY _ _ b1,fun j k ai u cD=> ?_,?_,a5.out.2,kV ⟨rfl,_,c5.out,rfl,?_⟩⟩
     ·rcases cL.out with h|h
      ·exact kV h.symm
      ·exact kT ⟨Q,rfl,kH⟩
     ·have b1:j=ns.length:=by rw[kY]at u;simp at u;omega
      subst b1;rw[pJ]at cD;exact y.out k cD
     ·rw[kY,m1];simp;omega
     ·rw[Rep];exact⟨ns.length,rfl,by rw[b7.out];simp⟩
    first|exact im ab|(refine(rx (fun x=>RdP P B0 g sb N rt (f+1) steps (i:Int) w ns nv na seen tall (.returned (.int .i64 x)) _) ?_).mp (im ab);simp)
 ·subst q;have J:rdT P (f+1) steps ⟨seen,tall⟩ (i:Int)=none:=by
   rw[R.out,qb bk.out];rcases r with r|r
   ·rw[r];rfl
   ·rw[r];rfl
  have F:Hid _:=A.out (-1) J;clear A B J;rcases b with b|b
  ·go_wp2_with fail;go_ret;exact im F.out
  ·have bp:(tall !=(steps:Nat))=false:=by simp[b]
   have bl:0<=tall:=kH;clear b W;go_wp2_with fail;go_ret;exact im F.out
theorem pL:ElT 77 93 2 (.agg #[.string (strOfNums []),.string (strOfNums [])]) 32:=⟨underlying77,kO,rfl,kH⟩
def e0:ByteArray×ByteArray:=(strOfNums [],strOfNums [])
def enF(es:List (ByteArray×ByteArray)):Nat->List Value:=fun i=>[.string (es.getD i e0).1,.string (es.getD i e0).2]
theorem ORow.onlyN{e s B g w w' a n c f}(h:ORow e s B w a n c f)(i:OnlyB g w w')(m:g<B):ORow e s B w' a n c f:=
 h.keep (fun k b=>by
  subst b;obtain⟨l,j,d⟩:=h.blk;exact i.block k (k6.1 d).1 kH)
theorem tu(es x i)(a:i<es.length+1):dg (enF es) es.length [.string x.1,.string x.2] i=enF (es++[x]) i:=by
 by_cases e:i=es.length
 ·subst e;rw[fJ];simp[enF]
 ·rw[iE _ _ kH];simp[enF,List.getD,List.getElem?_append_left (show i<es.length by omega)]
def gD(w:World)(g:Nat):Nat:=match w.cell? ⟨g,0,none⟩with|some (.slice _ n _)=>n|_=>0
theorem jO{w g B l}(h:Cur w g B l):gD w g=l.length:=by
 obtain⟨a,n,c,h⟩:=h;have b:w.cell? ⟨g,0,none⟩=some (.slice a n c):=h.blk.cell 0;unfold gD;rw[b,h.bs.len_eq]
def EnP(l:List Int)(g:Nat)(w:World)(e:Ending)(w':World):Prop:=OnlyB g w w'/\((∃es a c,lfP l=some es/\es≠[]/\e= .returned (.slice a es.length c)/\ORow 93 2 w.1.size w' a es.length c (enF es))\/((lfP l=none\/lfP l=some [])/\e= .panicked aU))
theorem yK(a b):prog.built 93 [(0,.string a),(1,.string b)]=some #[.string a,.string b]:=kO
theorem I9(l):lfV l=lfK (l.drop (1+lfK l)):=by
 unfold lfV;generalize 1+lfK l=p;unfold lfK;simp[List.getD]
theorem yL(g B l w)(h:Cur w g B l)(a6:B<=w.1.size)(a7:l.length<=1048576):
 Calls prog 158 #[.pointer (some ⟨g,0,none⟩)] w fun e w'=>EnP l g w e w':=by
 have aw:=h.lt;have ai:Hid _:=h;clear h;go_enter func158,ntmps158;go_wp2_with fail;go_loopw [3] (fun s wr=> ∃(a:Option Addr)(c:Nat)(es:List (ByteArray×ByteArray))(b:List Int),s= .slice a es.length c/\OnlyB g w wr/\Cur wr g B b/\ORow 93 2 w.1.size wr a es.length c (enF es)/\lfP l=(lfP b).map (es++ ·)/\es.length+b.length<=l.length) (fun _ wr=>gD wr g)
 case atStart=>exact⟨none,0,[],l,rfl,OnlyB.refl _ _,ai.out,eU _ _ _ _ _,kP,kP⟩
 case round=>
  obtain⟨a,c,es,b,rfl,v,j,hr,K,a2⟩:=hrel;obtain⟨o,rfl⟩:∃x,x=wr:=⟨_,rfl⟩;have J:=jO j;have U:Hid _:=J;have f:=kG K (kR v hr);have ae:w.1.size<=o.1.size:=v.size;clear J K v hr;by_cases G:0<es.length/\b.length=0
  ·obtain⟨d,q⟩:=G;have k:=nT g B b o j;rw[q6 q]at k;have m:((es.length:Int)==0)=false:=by simp only[sV,ne_eq];omega
   have R:Hid (lfP l=some es):=by show lfP l=some es;rw[f.out.1,mu q];simp
   clear j;go_wp2_with fail;refine k.mono ?_;rintro e a8 ⟨rfl,z⟩;obtain rfl:=z.symm;clear z k;go_wp2_with fail;go_ret;exact⟨f.out.2.1,kV ⟨es,a,c,R.out,fun e=>by rw[e]at d;simp at d,rfl,f.out.2.2⟩⟩
  have Y:es.length=0\/(0<es.length/\0<b.length):=kH;have p:Hid (∀w',OnlyB g o w'->fk b=false->EnP l g w (.panicked aU) w'):=fun w' v ac=>by
   refine⟨f.out.2.1.trans v,kT ⟨?_,rfl⟩⟩;rw[f.out.1];rcases Y with e|⟨_,e⟩
   ·rw[List.length_eq_zero_iff.1 e];by_cases af:b.length=0
    ·right;rw[mu af];rfl
    ·left;rw[jZ af ac];rfl
   ·left;rw[jZ kH ac];rfl
  rcases Y with d|⟨d,q⟩
  all_goals
   first
    |(have m:((es.length:Int)==0)=true:=(by rw[d];rfl);have a5:Hid _:=d;clear d;go_upto_region 3 with fail;clear m)
    |(have k:=nT g B b o j;rw[q5 kH]at k;have m:((es.length:Int)==0)=false:=(by simp only[sV,ne_eq];omega);go_upto_region 3 with fail;refine k.mono ?_;rintro e a8 ⟨rfl,z⟩;obtain rfl:=z.symm;clear z k;go_upto_region 3 with fail;clear m)
   by_cases ab:¬(1<=lfK b/\lfK b<=40/\1+lfK b<=b.length)
   ·have am:=uV g B b o j ab;have u:fk b=false:=by
     rw[<-nl,iO];omega
    clear j;go_wp2_with fail;refine am.mono ?_;rintro e w1 ⟨rfl,C⟩;go_wp2;exact⟨rfl,p.out _ C u⟩
   obtain⟨L,M,N⟩:=Decidable.of_not_not ab;have V:=uU g B b o j L M N;clear j;go_upto_region 4 with fail
   refine V.mono ?_;rintro e w1 ⟨rfl,C,D⟩;clear V;go_upto_region 4 with fail
   have Z:(b.drop (1+lfK b)).length=b.length-(1+lfK b):=k3;have Q:lfV b=lfK (b.drop (1+lfK b)):=I9 b;by_cases ad:¬(lfK (b.drop (1+lfK b))<=70/\1+lfK (b.drop (1+lfK b))<=(b.drop (1+lfK b)).length)
   ·have an:=Cr g B _ w1 D ad;have u:fk b=false:=by
     rw[<-nl,iO];omega
    clear D;go_wp2_with fail;refine an.mono ?_;rintro e ah ⟨rfl,H⟩;go_wp2;exact⟨rfl,p.out _ (C.trans H) u⟩
   obtain⟨O,P⟩:=Decidable.of_not_not ad;have E:=Cq g B _ w1 D O P;clear D;have y:fk b=true:=by rw[iO];omega
   have A:nU (b.drop (1+lfK b))=gU b:=by
    unfold nU gU;rw[Q,m0];congr 3;omega
   rw[A,m0]at E;have t:1+lfK b+(1+lfK (b.drop (1+lfK b)))=gT b:=by unfold gT;omega
   rw[t]at E;have a3:gT b<=b.length:=kH;have a4:0<gT b:=kH;have ak:Hid _:=y;clear A Q Z O P L M N t y;go_wp2_with fail;refine E.mono ?_;rintro e ah ⟨rfl,H,S⟩;clear E;have n:=C.trans H;have W:=f.out.2.2.onlyN n kH;have ag:w.1.size<=ah.1.size:=k2 ae n.size;have I:=kG S n;clear S n C H;have a0:=yK (ez b) (gU b);go_upto_region 9 with(first|(refine qD rfl _ _ pL rfl w.1.size a _ c (enF es) rfl W [.string (ez b),.string (gU b)] rfl (by simp[Value.oneCell']) rfl kH kH ag ?_;rintro ap ar aX F X a1))
   have aO:OnlyB g w aX:=(f.out.2.1.trans I.out.2).thenN X kE;have T:=I.out.1.belowB X kH aw;refine⟨⟨ap,ar,es++[(ez b,gU b)],b.drop (gT b),kP,aO,T,?_,?_,?_⟩,?_⟩
   ·rw[kY];exact F.congr (fun i aH=>tu es (ez b,gU b) i aH)
   ·rw[f.out.1,qK ak.out];cases lfP (b.drop (gT b))with
    |none=>rfl
    |some r=>simp
   ·simp;omega
   ·rw[jO T,U.out];simp;omega
theorem Ja:ElT 227 230 2 (.agg #[.string (strOfNums []),.int .i64 0]) 24:=⟨underlying227,kO,rfl,kH⟩
def l0:ByteArray×Int:=(strOfNums [],0)
def lnF(es:List (ByteArray×Int)):Nat->List Value:=fun i=>[.string (es.getD i l0).1,.int .i64 (es.getD i l0).2]
theorem Jb(es x i)(a:i<es.length+1):dg (lnF es) es.length [.string x.1,.int .i64 x.2] i=lnF (es++[x]) i:=by
 by_cases e:i=es.length
 ·subst e;rw[fJ];simp[lnF]
 ·rw[iE _ _ kH];simp[lnF,List.getD,List.getElem?_append_left (show i<es.length by omega)]
def LnP(l:List Int)(g:Nat)(w:World)(e:Ending)(w':World):Prop:=OnlyB g w w'/\((∃ls a c,inP l=some ls/\e= .returned (.slice a ls.length c)/\ORow 230 2 w.1.size w' a ls.length c (lnF ls))\/(inP l=none/\e= .panicked aU))
theorem Jc(a i):prog.built 230 [(0,.string a),(1,.int .i64 i)]=some #[.string a,.int .i64 i]:=kO
theorem Jd(i):prog.built 230 [(1,.int .i64 i)]=some #[.string (strOfNums []),.int .i64 i]:=kO
theorem yM(e s B)(w:World)(a:B<=w.1.size)(x)(hx:x.length=s)(f)(b:f 0=x):ORow e s B (w.alloc (.cells x.toArray e)) (some ⟨w.1.size,0,none⟩) 1 1 f:=by
 have:=World.ownsRow_lit (base:=B) (e:=e) (size:=s) w x.toArray 1 a (by unfold maxLen;omega) (by simp[hx]);simpa [ORow,aQ,b]using this
theorem yN(g B l w)(h:Cur w g B l)(a5:B<=w.1.size)(a6:l.length<=1048576):
 Calls prog 159 #[.pointer (some ⟨g,0,none⟩)] w fun e w'=>LnP l g w e w':=by
 have aw:=h.lt;by_cases ar:l.length<4
 ·have I:=nS g B l w h ar;have k:inP l=none:=by unfold inP;rw[q4 kH]
  clear h;go_enter func159,ntmps159;go_wp2_with fail;refine I.mono ?_;rintro e w1 ⟨rfl,d⟩;go_wp2;exact⟨rfl,d,kT ⟨k,rfl⟩⟩
 have I:=uT g B l w h kH;have N:inP l=(lnP (l.drop 4)).map ((strOfNums [],fg l):: ·):=by unfold inP;rw[qb kH]
 have Y:Hid _:=N;rw[show low (l.take 4)=fg l from rfl]at I;clear h N;go_enter func159,ntmps159;go_upto_region 2 with fail
 refine I.mono ?_;rintro e w1 ⟨rfl,d,f⟩;clear I;have J:=Jd (fg l);have t:=kG d f;have A:=d.size;clear d f;go_upto_region 2 with fail
 have H:ORow 230 2 w.1.size (w1.alloc (.cells [.string (strOfNums []),.int .i64 (fg l)].toArray 230)) (some ⟨w1.1.size,0,none⟩) 1 1 (lnF [(strOfNums [],fg l)]):=yM _ _ _ _ A _ rfl _ rfl;have u:=bAl w1 (.cells [.string (strOfNums []),.int .i64 (fg l)].toArray 230);have d:=t.out.1.thenN u A;have f:=t.out.2.belowB u kH kH;change Code.wp _ _ _ _ (w1.alloc (.cells [.string (strOfNums []),.int .i64 (fg l)].toArray 230));generalize (w1.alloc (.cells [.string (strOfNums []),.int .i64 (fg l)].toArray 230))=a9 at*;generalize w1.1.size=aX at*;have R:=kG d (kR f H);clear d f H u t A J;go_loopw [3] (fun s wr=> ∃(a:Option Addr)(c:Nat)(es:List (ByteArray×Int))(b:List Int),s= .slice a es.length c/\OnlyB g w wr/\Cur wr g B b/\ORow 230 2 w.1.size wr a es.length c (lnF es)/\inP l=(lnP b).map (es++ ·)/\es.length+b.length<=l.length) (fun _ wr=>gD wr g)
 case atStart=>exact⟨some ⟨aX,0,none⟩,1,[(strOfNums [],fg l)],l.drop 4,rfl,R.out.1,R.out.2.1,R.out.2.2,by rw[Y.out];rfl,by simp;omega⟩
 case round=>
  obtain⟨a,c,es,b,rfl,v,m,hr,L,a3⟩:=hrel;obtain⟨F,rfl⟩:∃x,x=wr:=⟨_,rfl⟩;have K:=jO m;have W:Hid _:=K;have j:=kG L (kR v hr);have ag:=v.size;clear K L v hr;have p:=nT g B b F m;by_cases n:b.length=0
  ·rw[q6 n]at p;have T:Hid (inP l=some es):=by show inP l=some es;rw[j.out.1,jy n];simp
   clear m;go_wp2_with fail;refine p.mono ?_;rintro e a7 ⟨rfl,z⟩;obtain rfl:=z.symm;clear z p;go_wp2_with fail;go_ret;exact⟨j.out.2.1,kV ⟨es,a,c,T.out,rfl,j.out.2.2⟩⟩
  rw[q5 n]at p;have q:Hid (∀w',OnlyB g F w'->fN b=false->LnP l g w (.panicked aU) w'):=fun w' v aO=>by
   refine⟨j.out.2.1.trans v,kT ⟨?_,rfl⟩⟩;rw[j.out.1,lr n aO];rfl
  go_upto_region 3 with fail
  refine p.mono ?_;rintro e a7 ⟨rfl,z⟩;obtain rfl:=z.symm;clear z p;go_upto_region 3 with fail
  by_cases ae:¬(1<=lfK b/\lfK b<=40/\1+lfK b<=b.length)
  ·have ak:=uV g B b F m ae;have k:fN b=false:=by
    rw[<-nl,iP];omega
   clear m;go_wp2_with fail;refine ak.mono ?_;rintro e w1 ⟨rfl,d⟩;go_wp2;exact⟨rfl,q.out _ d k⟩
  obtain⟨O,P,Q⟩:=Decidable.of_not_not ae;have Z:=uU g B b F m O P Q;clear m;go_upto_region 4 with fail
  refine Z.mono ?_;rintro e w1 ⟨rfl,d,f⟩;clear Z;go_upto_region 4 with fail
  have ad:(b.drop (1+lfK b)).length=b.length-(1+lfK b):=k3;by_cases af:(b.drop (1+lfK b)).length<4
  ·have am:=nS g B _ w1 f af;have k:fN b=false:=by
    rw[<-nl,iP];omega
   clear f;go_wp2_with fail;refine am.mono ?_;rintro e a1 ⟨rfl,E⟩;go_wp2;exact⟨rfl,q.out _ (d.trans E) k⟩
  have S:=uT g B _ w1 f kH;clear f;have y:fN b=true:=by rw[iP];omega
  rw[show low ((b.drop (1+lfK b)).take 4)=fg (b.drop (1+lfK b))from rfl,m0,show 1+lfK b+4=5+lfK b by omega]at S;have a4:5+lfK b<=b.length:=kH;have ai:Hid _:=y;clear ad af O P Q y;go_wp2_with fail;refine S.mono ?_;rintro e a1 ⟨rfl,E,U⟩;clear S;have o:=d.trans E;have ab:=j.out.2.2.onlyN o kH;have ah:=k2 ag o.size;have G:=kG U o;clear U o d E;have J:=Jc (ez b) (fg (b.drop (1+lfK b)));generalize M:fg (b.drop (1+lfK b))=C at*;have X:Hid _:=M;clear M;go_upto_region 9 with(first|(refine qD rfl _ _ Ja rfl w.1.size a _ c (lnF es) rfl ab [.string (ez b),.int .i64 C] rfl (by simp[Value.oneCell']) rfl kH kH ah ?_;rintro an ap a8 D ac a2))
  have a0:=(j.out.2.1.trans G.out.2).thenN ac kE;have V:=G.out.1.belowB ac kH aw;refine⟨⟨an,ap,es++[(ez b,C)],b.drop (5+lfK b),kP,a0,V,?_,?_,?_⟩,?_⟩
  ·rw[kY];exact D.congr (fun i aH=>Jb es (ez b,C) i aH)
  ·rw[j.out.1,mv ai.out,X.out];cases lnP (b.drop (5+lfK b))with
   |none=>rfl
   |some r=>simp
  ·simp;omega
  ·rw[jO V,W.out];simp;omega
theorem Je(d id a n c l w)(h:Bs w a n c l)(g:w.cell? ⟨2,0,none⟩=some (errV d)):
 Calls prog 213 #[.int .i64 id,.slice a n c] w fun e w'=>Below w.1.size w w'/\((dh id l/\∃a c,e= .returned (.tuple #[.int .i64 (kd l),.slice a (bm l).length c,.nilIface])/\Own w.1.size w' a (bm l).length c (bm l))\/(¬dh id l/\e= .returned (.tuple #[.int .i64 0,.slice none 0 0,errV d]))):=by
 by_cases f:n=256
 ·subst f;obtain⟨b,off,rfl,_,_⟩:=h.at_ kH;exact Gx d id b off c l w h g
 ·refine(Gw d id a n c l w h f g).mono ?_;rintro e w' ⟨i,rfl⟩;exact⟨i,kT ⟨fun j=>f (by rw[<-h.len_eq];exact j.1),rfl⟩⟩
structure Errs(w:World)(eN eW:Addr):Prop where
 n:w.cell? ⟨0,0,none⟩=some (errV eN)
 b:w.cell? ⟨2,0,none⟩=some (errV eW)
 ne:eW≠eN
 rn:∃c t,w.heap[eN.block]?=some (.cells c t (0,0))
 rb:∃c t,w.heap[eW.block]?=some (.cells c t (0,0))
theorem Errs.below{w w' b d}(h:Errs w b d)(a:Below w.1.size w w'):Errs w' b d:=
 ⟨by rw[a.cell (p:=⟨0,0,none⟩) (sd w _ h.n)];exact h.n,by rw[a.cell (p:=⟨2,0,none⟩) (sd w _ h.b)];exact h.b,h.ne,
  by obtain⟨c,f,e⟩:=h.rn;exact⟨c,f,by rw[a.block _ (k6.1 e).1];exact e⟩,by obtain⟨c,f,e⟩:=h.rb;exact⟨c,f,by rw[a.block _ (k6.1 e).1];exact e⟩⟩
theorem tw(c b:Option Addr)(d pc:Nat)(K:DK)(w:World)(f:K.n<=4096):
 Calls prog 85 #[.agg #[.slice c K.n d,.slice b K.m pc]] w fun e w'=>e= .returned (.int .i64 ((K.n:Int)/4))/\Below w.1.size w w':=by
 have g:(K.n:Int).tdiv 4=(K.n:Int)/4:=p3 kH;have a:Hid _:=(p4 w.1.size w).alloc kE (.cells #[.slice c K.n d,.slice b K.m pc] 37);go_enter func85,ntmps85;go_wp2;go_ret;exact⟨rfl,a.out⟩
theorem yO{w w':World}{g n:Nat}{d:DataW Unit}(h:w.ownsMap prog 3 (plainElem prog 3) g n d)(b:Below w.1.size w w'):w'.ownsMap prog 3 (plainElem prog 3) g n d:=by
 obtain⟨es,c,a,r⟩:=h;exact⟨es,c,(b.block g (k6.1 a).1).trans a,r⟩
theorem Jf(a1 y:Addr)(d:DV)(K:DK)(T g:Nat)(w:World)(h:RDisk w d K)(t:dOk K)(U:Errs w a1 y)(l:w.ownsMap prog 3 (plainElem prog 3) g K.m (eZ K.At K.m))(V:fC K (T:Int)):
 Calls prog 190 #[.agg #[.slice d.sa K.n d.sc,.slice d.pa K.m d.pc,.map (some g)],.int .i64 T] w fun e w'=>Below w.1.size w w'/\((dh T (pgL K T)/\∃a c,e= .returned (.tuple #[.int .i64 (kd (pgL K T)),.slice a (bm (pgL K T)).length c,.nilIface])/\Own w.1.size w' a (bm (pgL K T)).length c (bm (pgL K T)))\/(¬dh T (pgL K T)/\e= .returned (.tuple #[.int .i64 0,.slice none 0 0,errV y]))):=by
 have Z:=t.1.2.1;have X:=ph V;obtain⟨a7,a8⟩:=V;have z:=(p4 w.1.size w).alloc kE (.cells #[.slice d.sa K.n d.sc,.slice d.pa K.m d.pc,.map (some g)] 140);have a6:=s2 w (.cells #[.slice d.sa K.n d.sc,.slice d.pa K.m d.pc,.map (some g)] 140);have L:(w.alloc (.cells #[.slice d.sa K.n d.sc,.slice d.pa K.m d.pc,.map (some g)] 140)).1.size=w.1.size+1:=by simp
 have u:Hid _:=h.below z;have am:Hid (World.ownsMap (w.alloc (.cells #[.slice d.sa K.n d.sc,.slice d.pa K.m d.pc,.map (some g)] 140)) prog 3 (plainElem prog 3) g K.m (eZ K.At K.m)):=yO l z;have ak:Hid _:=U.below z;have n:Hid (dOk K):=t;have ai:Hid (IsB (pgL K T)):=rX h X;have ar:Hid _:=z;clear t h l U;go_enter func190,ntmps190;go_wp2_with fail;generalize W:w.alloc (.cells #[.slice d.sa K.n d.sc,.slice d.pa K.m d.pc,.map (some g)] 140)=k at*;clear W;refine(tw d.sa d.pa d.sc d.pc K k Z).mono ?_;rintro e w1 ⟨rfl,aX⟩;have af:Hid _:=aX;have J:=gR (w.1.size+1) w1;go_wp2_with fail;go_loopw [7,8,19] (fun o _ i wr=> ∃(j:Nat)(p:Option Addr)(r:Nat),j<=4/\i= .int .i64 (j:Nat)/\o= .slice p (64*j) r/\Below (w.1.size+1) k wr/\Own (w.1.size+1) wr p (64*j) r (hU K T j)) (fun _ _ i _=>4-(intOf i).toNat)
 case atStart=>exact⟨0,_,0,kH,rfl,rfl,by rw[<-L];exact af.out,J⟩
 case round=>
  obtain⟨j,p,r,bb,rfl,rfl,f,l⟩:=hrel;have D:Hid _:=f;have P:Hid _:=l;by_cases a9:j<4
  ·have b:Below k.1.size k wr:=by rw[L];exact f
   have C:=(f.block w.1.size (n4 _)).trans a6;have k0:wr.cell? ⟨w.1.size,0,none⟩=some (.slice d.sa K.n d.sc):=by rw[so wr _ 0 _ _ _ C];rfl
   have a2:wr.cell? ⟨w.1.size,1,none⟩=some (.slice d.pa K.m d.pc):=by rw[so wr _ 1 _ _ _ C];rfl
   have a3:wr.cell? ⟨w.1.size,2,none⟩=some (.map (some g)):=by rw[so wr _ 2 _ _ _ C];rfl
   have A:=oZ (u.out.below b) (4*T+j) kH;rw[pd u.out n.out (4*T+j) kH]at A;have I:=u.out.below b;have x:=Gv d.sa d.pa d.sc d.pc d.sA d.pA d.sN d.sC d.pN d.pC K wr I.safe I.pend n.out g (4*T+j) kH (yO am.out b);rw[pd u.out n.out (4*T+j) kH]at x;generalize cJ K.At d.pA d.sA K.m (4*T+j)=bd at*;generalize cJ K.At d.pC d.sC K.m (4*T+j)=a5 at*;have N:Hid (hU K T (j+1)=hU K T j++jH K (4*T+j)):=rfl;obtain⟨m,Y⟩:∃m:Nat,m=4*T+j:=⟨_,rfl⟩;rw[<-Y]at x A N;have ba:(T:Int)*4+(j:Int)=(m:Int):=kH;have bf:=f.size;clear f l b J Y I C;go_wp2_with fail;refine x.mono ?_;rintro e a4 ⟨rfl,q⟩;have aw:Hid _:=A.below q;have an:Hid _:=Own.below (B:=w.1.size+1) P.out q;have ag:Hid (Below (w.1.size+1) k a4):=D.out.trans (q.mono kH);have be:=q.size;clear q A x k0 a2 a3;go_wp2_with (at_builtin;refine db rfl _ _ rfl (w.1.size+1) p (64*j) r (hU K T j) rfl ?own _ 64 a5 (jH K m) rfl ?bs ?len ?B ?_)
   case own=>exact an.out
   case bs=>exact aw.out
   case len=>omega
   case B=>omega
   intro aO a0 bc ac R _;have ah:Hid _:=ag.out.trans R;have ap:Hid _:=ac;clear ac R;go_wp2;go_roundw
   case rel=>exact⟨j+1,aO,a0,kH,by go_num,rfl,ah.out,by rw[N.out];exact ap.out⟩
   case measure=>simp[intOf];omega
  ·have e:j=4:=kH;subst e;have b:Below k.1.size k wr:=by rw[L];exact f
   have E:Hid (Below w.1.size w wr):=ar.out.trans (f.mono kH);have Q:=Je y (T:Int) p 256 r (pgL K T) wr (Own.bs (B:=w.1.size+1) l ai.out) (ak.out.below b).b;clear f l J D P b;go_wp2_with fail;refine Q.mono ?_;rintro e ae ⟨S,ab⟩;have M:Hid (Below w.1.size w ae):=E.out.trans (S.mono E.out.size);have aH:Hid (w.1.size<=wr.1.size):=E.out.size;clear S Q;rcases ab with⟨s,G,H,rfl,ad⟩|⟨s,rfl⟩
   ·have O:Hid (Own w.1.size ae G (bm (pgL K T)).length H (bm (pgL K T))):=ad.mono aH.out;have F:Hid _:=s;clear ad s;go_wp2;refine p6 (v:= .tuple #[.int .i64 (kd (pgL K T)),.slice G (bm (pgL K T)).length H,.nilIface]) (by simp[results,results190,go_sem]) rfl ?_;exact⟨M.out,kV ⟨F.out,G,H,rfl,O.out⟩⟩
   ·have F:Hid _:=s;clear s;go_wp2;refine p6 (v:= .tuple #[.int .i64 0,.slice none 0 0,errV y]) (by simp[results,results190,go_sem]) rfl ?_;exact⟨M.out,kT ⟨F.out,rfl⟩⟩
theorem Jg(a s d b f pc K o g w)(n:K.n<=4096)(j:Errs w a s)(k:¬fC K o):
 Calls prog 190 #[.agg #[.slice d K.n f,.slice b K.m pc,.map (some g)],.int .i64 o] w fun e w'=>Below w.1.size w w'/\e= .returned (.tuple #[.int .i64 0,.slice none 0 0,errV a]):=by
 have c:=(p4 w.1.size w).alloc kE (.cells #[.slice d K.n f,.slice b K.m pc,.map (some g)] 140);have l:=(j.below c).n;have q:Hid _:=j.below c;have h:Hid _:=c;clear j c;by_cases t:o<0
 ·clear k;go_enter func190,ntmps190;go_wp2_with fail;go_region;go_wp2;refine p6 (v:= .tuple #[.int .i64 0,.slice none 0 0,errV a]) (by simp[results,results190,go_sem]) rfl ?_;exact⟨h.out.drew,rfl⟩
 ·have u:(K.n:Int)/4<=o:=by unfold fC at k;omega
  clear k l;go_enter func190,ntmps190;go_wp2_with fail;generalize m:w.alloc (.cells #[.slice d K.n f,.slice b K.m pc,.map (some g)] 140)=r at*;clear m;refine(tw d b f pc K r n).mono ?_;rintro e w1 ⟨rfl,i⟩;have l:=(q.out.below i).n;have p:Hid (Below w.1.size w w1):=h.out.trans (i.mono h.out.size);clear i;go_wp2_with fail;go_region;go_wp2;refine p6 (v:= .tuple #[.int .i64 0,.slice none 0 0,errV a]) (by simp[results,results190,go_sem]) rfl ?_;exact⟨p.out.drew,rfl⟩
theorem Jh(k l d K j g w)(h:RDisk w d K)(m:dOk K)(r:Errs w k l)(t:w.ownsMap prog 3 (plainElem prog 3) g K.m (eZ K.At K.m)):
 Calls prog 190 #[.agg #[.slice d.sa K.n d.sc,.slice d.pa K.m d.pc,.map (some g)],.int .i64 j] w fun e w'=>Below w.1.size w w'/\
  ((vB K j=true/\∃a c,e= .returned (.tuple #[.int .i64 (vK K j),.slice a (vL K j).length c,.nilIface])/\Own w.1.size w' a (vL K j).length c (vL K j))\/(vB K j=false/\vK K j=0/\vL K j=[]/\(e= .returned (.tuple #[.int .i64 0,.slice none 0 0,errV l])\/e= .returned (.tuple #[.int .i64 0,.slice none 0 0,errV k])))):=by
 by_cases f:fC K j
 ·obtain⟨T,rfl⟩:=n3 f.1;have n:vK K (T:Int)=iJ T (pgL K T):=by unfold vK;rw[jI f];rfl
  have p:vL K (T:Int)=ei T (pgL K T):=by unfold vL;rw[jI f];rfl
  have q:vB K (T:Int)=iI T (pgL K T):=by unfold vB;rw[jI f];rfl
  rw[n,p,q];refine(Jf k l d K T g w h m r t f).mono ?_;rintro e w' ⟨b,s⟩;refine⟨b,?_⟩;rcases s with⟨i,a,c,rfl,o⟩|⟨i,rfl⟩
  ·rw[wY i,pg i,pe i];exact kV ⟨rfl,a,c,rfl,o⟩
  ·rw[mM i,kJ i,kz i];exact kT ⟨rfl,rfl,rfl,kV rfl⟩
 ·have n:vK K j=0:=by unfold vK;rw[jk f]
  have p:vL K j=[]:=by unfold vL;rw[jk f]
  have q:vB K j=false:=by unfold vB;rw[jk f]
  refine(Jg k l d.sa d.pa d.sc d.pc K j g w m.1.2.1 r f).mono ?_;rintro e w' ⟨b,rfl⟩;exact⟨b,kT ⟨q,n,p,kT rfl⟩⟩
theorem Ji(g B l w)(h:Cur w g B l):
 Calls prog 124 #[.pointer (some ⟨g,0,none⟩)] w fun e w'=>e= .returned (.bool (decide (l.length=0)))/\w'=w:=by
 obtain⟨a,n,c,h⟩:=h;have j:=h.bs.len_eq;have k:=h.bs.le;have d:=h.bs.le';unfold maxLen at d;have o:=h.blk.cell 0;clear h;subst j;go_enter func124,ntmps124;go_wp2;go_ret;refine⟨?_,rfl⟩;cases l with
 |nil=>rfl
 |cons x m=>
  have f:decide ((x::m).length=0)=false:=by simp
  have i:(((x::m).length:Int)==0)=false:=by simp;omega
  rw[f];exact rx (fun b=>Ending.returned (.bool b)) i
theorem Jj{l}(h:IsB l):(txP l).ni<=1048576/\(txP l).no<=1048576:=by
 have a:=(iz h 0).2;have b:=(iz h (inE l)).2;exact⟨by show inN l<=_;unfold inN;omega,by show outN l<=_;unfold outN;omega⟩
theorem yP{l}(h:IsB l):(blP l).nt<=1048576/\∀i,i< (blP l).nt->((blP l).tx i).ni<=1048576/\((blP l).tx i).no<=1048576:=by
 have a:=(iz h 68).2;exact⟨by show blN l<=_;unfold blN;omega,fun i _=>Jj (ff h _)⟩
theorem Jk(g B a b l w)(h:Cur w g B l)(m:B<=w.1.size)(o:Blk w 152 b [.pointer (some ⟨g,0,none⟩)])(n:Blk w 113 a (bl4 z32 z32 0 (.slice none 0 0)))(f:a≠g)(t:b≠g)(u:b≠a)(s:B<=a)(z:et l<=l.length)(d:69<=l.length):
 Calls prog 122 #[.pointer (some ⟨b,0,none⟩),.pointer (some ⟨a,0,none⟩)] w fun e w'=>e= .returned (.tuple #[])/\∃w1 v,OnlyB g w w1/\w'=w1.setRow a (blc v (blP l)).toArray/\OBl w.1.size w1 v (blP l)/\Cur w1 g B (l.drop (et l)):=by
 have c:=px h.byte d;have y:=o.cell 0;go_enter func122,ntmps122;go_wp2_with fail;refine q2 (xT g B l w h m) ?_;rintro e w1 ⟨j,⟨_,v,rfl,p,k⟩|⟨x,_⟩⟩
 rotate_left
 ·omega
 have i:=n.only j f;have q:(prog.info? 113).map (·.size)=some (blc v (blP l)).toArray.size:=by rw[ii v c];exact fG
 have r:(bl4 z32 z32 0 (.slice none 0 0)).toArray.size=(blc v (blP l)).toArray.size:=by rw[ii v c,k8,gL _ _ dX dX]
 unfold cK;go_wp2_with (refine qB rfl 113 _ _ rfl a (blc v (blP l)).toArray rfl rfl 113 _ i q r (lS _ _) ?_)
 go_end0
 exact⟨rfl,w1,j,v,rfl,p,k⟩
theorem Jl(g B i a l w)(h:Cur w g B l)(b:B<=w.1.size)(d:Blk w 152 a [.pointer (some ⟨g,0,none⟩)])(m:l.length<et l):
 Calls prog 122 #[.pointer (some ⟨a,0,none⟩),.pointer (some ⟨i,0,none⟩)] w fun e w'=>e= .panicked aU/\OnlyB g w w':=by
 have k:=d.cell 0;go_enter func122,ntmps122;go_wp2_with fail;refine q2 (xT g B l w h b) ?_;rintro e w1 ⟨f,⟨c,_⟩|⟨j,rfl⟩⟩
 ·omega
 go_wp2;exact⟨rfl,rfl,f⟩
theorem yQ(x y w):(callFunc 122 #[x,y]).run prog w= .ok (.enter 122 #[x,y]) w:=rfl
def bI(l:List Int):Bool:=decide (et l=l.length)&&cQ (blP l)
def aG(l:List Int):BlK:=if bI l=true then blP l else jK
theorem jP:prog.built 113 []=some (bl4 z32 z32 0 (.slice none 0 0)).toArray:=by rw[nH xQ];rfl
theorem gP{l}(h:bI l=false):aG l=jK:=by unfold aG;rw[h];rfl
theorem m6{l}(h:bI l=true):aG l=blP l:=by unfold aG;rw[qb h]
theorem kZ(B w):OBl B w iy jK:=⟨Ii,eU _ _ _ _ _,fun i a=>absurd a (np _),fun i j _ b=>absurd b (np _)⟩
theorem Jm(a n c l w)(h:Bs w a n c l):
 Calls prog 72 #[.slice a n c] w fun e w'=>Below w.1.size w w'/\∃v,e= .returned (.tuple #[cK v (aG l),.bool (bI l)])/\OBl w.1.size w' v (aG l):=by
 have ag:=bAl w (.cells (bl4 z32 z32 0 (.slice none 0 0)).toArray 113);have ah:Below (w.alloc (.cells (bl4 z32 z32 0 (.slice none 0 0)).toArray 113)).1.size (w.alloc (.cells (bl4 z32 z32 0 (.slice none 0 0)).toArray 113)) ((w.alloc (.cells (bl4 z32 z32 0 (.slice none 0 0)).toArray 113)).alloc (.cells (bl4 z32 z32 0 (.slice none 0 0)).toArray 113)):=bAl _ _;have q3:Below ((w.alloc (.cells (bl4 z32 z32 0 (.slice none 0 0)).toArray 113)).alloc (.cells (bl4 z32 z32 0 (.slice none 0 0)).toArray 113)).1.size ((w.alloc (.cells (bl4 z32 z32 0 (.slice none 0 0)).toArray 113)).alloc (.cells (bl4 z32 z32 0 (.slice none 0 0)).toArray 113)) (((w.alloc (.cells (bl4 z32 z32 0 (.slice none 0 0)).toArray 113)).alloc (.cells (bl4 z32 z32 0 (.slice none 0 0)).toArray 113)).alloc (.cells #[Value.slice a n c] 162)):=bAl _ _;have K:Below (((w.alloc (.cells (bl4 z32 z32 0 (.slice none 0 0)).toArray 113)).alloc (.cells (bl4 z32 z32 0 (.slice none 0 0)).toArray 113)).alloc (.cells #[Value.slice a n c] 162)).1.size (((w.alloc (.cells (bl4 z32 z32 0 (.slice none 0 0)).toArray 113)).alloc (.cells (bl4 z32 z32 0 (.slice none 0 0)).toArray 113)).alloc (.cells #[Value.slice a n c] 162)) ((((w.alloc (.cells (bl4 z32 z32 0 (.slice none 0 0)).toArray 113)).alloc (.cells (bl4 z32 z32 0 (.slice none 0 0)).toArray 113)).alloc (.cells #[Value.slice a n c] 162)).alloc (.cells #[Value.pointer (some ⟨w.1.size+1+1,0,none⟩)] 152)):=bAl _ _;have a0:(w.alloc (.cells (bl4 z32 z32 0 (.slice none 0 0)).toArray 113)).1.size=w.1.size+1:=by simp
 have ak:((w.alloc (.cells (bl4 z32 z32 0 (.slice none 0 0)).toArray 113)).alloc (.cells (bl4 z32 z32 0 (.slice none 0 0)).toArray 113)).1.size=w.1.size+1+1:=by simp
 have am:(((w.alloc (.cells (bl4 z32 z32 0 (.slice none 0 0)).toArray 113)).alloc (.cells (bl4 z32 z32 0 (.slice none 0 0)).toArray 113)).alloc (.cells #[Value.slice a n c] 162)).1.size=w.1.size+1+1+1:=by simp
 have a8:((((w.alloc (.cells (bl4 z32 z32 0 (.slice none 0 0)).toArray 113)).alloc (.cells (bl4 z32 z32 0 (.slice none 0 0)).toArray 113)).alloc (.cells #[Value.slice a n c] 162)).alloc (.cells #[Value.pointer (some ⟨w.1.size+1+1,0,none⟩)] 152)).1.size=w.1.size+1+1+1+1:=by simp
 have aH:=(((ao w 113 (bl4 z32 z32 0 (.slice none 0 0)).toArray).below ah).below q3).below K;have ac:=((ao (w.alloc (.cells (bl4 z32 z32 0 (.slice none 0 0)).toArray 113)) 113 (bl4 z32 z32 0 (.slice none 0 0)).toArray).below q3).below K;have ad:=(ao ((w.alloc (.cells (bl4 z32 z32 0 (.slice none 0 0)).toArray 113)).alloc (.cells (bl4 z32 z32 0 (.slice none 0 0)).toArray 113)) 162 #[Value.slice a n c]).below K;have ae:=ao (((w.alloc (.cells (bl4 z32 z32 0 (.slice none 0 0)).toArray 113)).alloc (.cells (bl4 z32 z32 0 (.slice none 0 0)).toArray 113)).alloc (.cells #[Value.slice a n c] 162)) 152 #[Value.pointer (some ⟨w.1.size+1+1,0,none⟩)];rw[a0]at ac;rw[ak]at ad;rw[am]at ae;have G:=((ag.trans (ah.mono ag.size)).trans (q3.mono (by rw[ak];omega))).trans (K.mono (by rw[am];omega));go_enter func72,ntmps72;go_upto_region 3 with fail
 change Code.wp _ _ _ _ ((((w.alloc (.cells (bl4 z32 z32 0 (.slice none 0 0)).toArray 113)).alloc (.cells (bl4 z32 z32 0 (.slice none 0 0)).toArray 113)).alloc (.cells #[Value.slice a n c] 162)).alloc (.cells #[Value.pointer (some ⟨w.1.size+1+1,0,none⟩)] 152));generalize ((((w.alloc (.cells (bl4 z32 z32 0 (.slice none 0 0)).toArray 113)).alloc (.cells (bl4 z32 z32 0 (.slice none 0 0)).toArray 113)).alloc (.cells #[Value.slice a n c] 162)).alloc (.cells #[Value.pointer (some ⟨w.1.size+1+1,0,none⟩)] 152))=C at*;have O:Blk C 113 w.1.size (bl4 z32 z32 0 (.slice none 0 0)):=aH;have N:Blk C 113 (w.1.size+1) (bl4 z32 z32 0 (.slice none 0 0)):=ac;have aO:Blk C 162 (w.1.size+1+1) [.slice a n c]:=ad;have J:Blk C 152 (w.1.size+1+1+1) [.pointer (some ⟨w.1.size+1+1,0,none⟩)]:=ae;have a1:Cur C (w.1.size+1+1) w.1.size l:=⟨a,n,c,aO,h.below G,fun b off a4 e=>by
  obtain⟨a9,a5,ar,a3,_⟩:=h.at_ a4;rw[e]at ar;cases ar;exact a3⟩
 have R:=h.byte;have ba:w.1.size+1+1+1+1<=C.1.size:=kH;clear aH ac ad ae ag ah q3 K a0 ak am a8 aO h;have A:(prog.info? 113).map (·.size)=some (bl4 z32 z32 0 (.slice none 0 0)).toArray.size:=by rw[k8,gL _ _ dX dX];exact fG
 rcases nr l.length (et l)with hf|hf
 ·have g:Hid (bI l=false):=by
   show bI l=false;unfold bI;rw[q5 kH]
   rfl
  have E:=vm 122 _ C (OnlyB (w.1.size+1+1) C) (yQ _ _) (Jl (w.1.size+1+1) w.1.size (w.1.size+1) (w.1.size+1+1+1) l C a1 kH J hf);have m:=kG O G;clear O N J G a1;go_wp2_with fail;refine q2 E ?_;rintro e L ⟨rfl,w1,j,Z⟩;have f:=(m.out.1.only j kH).below Z;have d:=(m.out.2.trans (j.below kH kH)).trans (Z.mono (by have:=j.size;omega));have s:=f.setRow (bl4 z32 z32 0 (.slice none 0 0));have q:=d.trans ((aN L w.1.size (bl4 z32 z32 0 (.slice none 0 0)).toArray).below kE d.size);clear E j Z m;go_wp2_with (first|(refine fK rfl _ _ rfl jP ?_)|(refine qB rfl 113 _ _ rfl w.1.size (bl4 z32 z32 0 (.slice none 0 0)).toArray rfl rfl 113 _ f A rfl (jo _ _ _ _ rfl) ?_));refine p6 (v:= .tuple #[.agg (bl4 z32 z32 0 (.slice none 0 0)).toArray,.bool false]) ?_ rfl ⟨q,iy,by rw[gP g.out,g.out];rfl,by rw[gP g.out];exact kZ _ _⟩;exact bA results72 _ _ w.1.size 113 (bl4 z32 z32 0 (.slice none 0 0)).toArray _ rfl s q7 rfl A rfl
 ·have Q:=k2 (sY l (blN l)) hf;have T:=px R Q;have U:=yP R;have E:=vk 122 _ C _ (yQ _ _) (Jk (w.1.size+1+1) w.1.size (w.1.size+1) (w.1.size+1+1+1) l C a1 kH J N kH kH kH kH hf Q);have m:=kG O (kR G (kR N J));clear O N J G a1;go_wp2_with fail;refine q2 E ?_;rintro e L ⟨rfl,w1,v,j,V,af,an⟩;have i:=aN w1 (w.1.size+1) (blc v (blP l)).toArray;have f:=(m.out.1.only j kH).only i kH;have u:=(m.out.2.2.2.only j kH).only i kH;have o:=(m.out.2.2.1.only j kH).setRow (blc v (blP l));have H:=m.out.2.1.trans (j.below kH kH);have d:=H.trans (i.below (B:=w.1.size) kH H.size);have M:=an.only i kH kH;have p:OBl C.1.size (w1.setRow (w.1.size+1) (blc v (blP l)).toArray) v (blP l):=⟨af.ok,af.txs.only i kH⟩;have aw:=i.size;rw[<-V]at f u o d M p aw;clear E j i af an V H m;have ab:=u.cell 0;have P:(prog.info? 113).map (·.size)=some (blc v (blP l)).toArray.size:=by rw[ii v T];exact fG
  have a6:(bl4 z32 z32 0 (.slice none 0 0)).toArray.size=(blc v (blP l)).toArray.size:=by rw[ii v T,k8,gL _ _ dX dX]
  have z:=Ji _ _ _ L M;by_cases S:et l=l.length
  ·have e0:decide ((l.drop (et l)).length=0)=true:=by simp;omega
   rw[e0]at z;have Y:=Iw v (blP l) L p.reads U.1 U.2;unfold cK at Y;have ap:Hid (bI l=cQ (blP l)):=by show bI l= _;unfold bI;rw[q6 S];rfl
   have D:=kG f (kR d p);clear e0 M f d p;go_wp2_with fail;refine q2 z ?_;rintro e a7 ⟨rfl,I⟩;obtain rfl:=I.symm;clear z;go_wp2_with (refine BigFrame.wpList_want (by rfl) fun _ a2=>wp_load_row 113 _ rfl (w.1.size+1) rfl 113 (blc v (blP l)).toArray (0,0) _ o q7 rfl P (a2 _ _ ?_));refine Y.mono ?_;rintro e ai ⟨rfl,F⟩;clear Y;have x:=D.out.1.below F;have k:=D.out.2.1.trans (F.mono D.out.2.1.size);have W:=o.below F;have y:=D.out.2.2.below F;clear D o F;by_cases t:cQ (blP l)=true
   ·have X:Hid (bI l=true):=by show bI l=true;rw[ap.out];exact t
    rw[t];have s:=x.setRow (blc v (blP l));have i:=aN ai w.1.size (blc v (blP l)).toArray;have q:=k.trans (i.below kE k.size);have aX:OBl w.1.size (ai.setRow w.1.size (blc v (blP l)).toArray) v (blP l):=⟨y.ok,(y.txs.only i kH).mono kH⟩;clear y k i ab u;go_wp2_with (first|(refine qi rfl 113 _ rfl (w.1.size+1) rfl 113 (blc v (blP l)).toArray (0,0) _ W q7 rfl P ?_)|(refine qB rfl 113 _ _ rfl w.1.size (blc v (blP l)).toArray rfl rfl 113 _ x P a6 (lS _ _) ?_));refine p6 (v:= .tuple #[.agg (blc v (blP l)).toArray,.bool true]) ?_ rfl ⟨q,v,by rw[m6 X.out,X.out];rfl,by rw[m6 X.out];exact aX⟩;exact bA results72 _ _ w.1.size 113 (blc v (blP l)).toArray _ rfl s q7 rfl P rfl
   ·have r:cQ (blP l)=false:=by simpa using t
    have g:Hid (bI l=false):=by show bI l=false;rw[ap.out];exact r
    rw[r];have s:=x.setRow (bl4 z32 z32 0 (.slice none 0 0));have q:=k.trans ((aN ai w.1.size (bl4 z32 z32 0 (.slice none 0 0)).toArray).below kE k.size);clear t r y W k ab u;go_wp2_with (first|(refine fK rfl _ _ rfl jP ?_)|(refine qB rfl 113 _ _ rfl w.1.size (bl4 z32 z32 0 (.slice none 0 0)).toArray rfl rfl 113 _ x A rfl (jo _ _ _ _ rfl) ?_));refine p6 (v:= .tuple #[.agg (bl4 z32 z32 0 (.slice none 0 0)).toArray,.bool false]) ?_ rfl ⟨q,iy,by rw[gP g.out,g.out];rfl,by rw[gP g.out];exact kZ _ _⟩;exact bA results72 _ _ w.1.size 113 (bl4 z32 z32 0 (.slice none 0 0)).toArray _ rfl s q7 rfl A rfl
  ·have e0:decide ((l.drop (et l)).length=0)=false:=by simp;omega
   rw[e0]at z;have g:Hid (bI l=false):=by
    show bI l=false;unfold bI;rw[q5 S]
    rfl
   have s:=f.setRow (bl4 z32 z32 0 (.slice none 0 0));have q:=d.trans ((aN L w.1.size (bl4 z32 z32 0 (.slice none 0 0)).toArray).below kE d.size);clear e0 M d p o;go_wp2_with fail;refine q2 z ?_;rintro e a7 ⟨rfl,I⟩;obtain rfl:=I.symm;clear z ab;go_wp2_with (first|(refine fK rfl _ _ rfl jP ?_)|(refine qB rfl 113 _ _ rfl w.1.size (bl4 z32 z32 0 (.slice none 0 0)).toArray rfl rfl 113 _ f A rfl (jo _ _ _ _ rfl) ?_));refine p6 (v:= .tuple #[.agg (bl4 z32 z32 0 (.slice none 0 0)).toArray,.bool false]) ?_ rfl ⟨q,iy,by rw[gP g.out,g.out];rfl,by rw[gP g.out];exact kZ _ _⟩;exact bA results72 _ _ w.1.size 113 (bl4 z32 z32 0 (.slice none 0 0)).toArray _ rfl s q7 rfl A rfl
theorem pM:prog.globalNamed "loop.example/s01906/impl.errWrongBytes" =some 2:=kO
theorem pO:prog.globalNamed "loop.example/s01906/impl.errNoPage" =some 0:=kO
theorem tz:(prog.globals[2]?).map (·.type)=some 223:=kO
theorem tA:(prog.globals[0]?).map (·.type)=some 223:=kO
theorem yR:prog.cellsOf 372=1:=kO
theorem yS:prog.cellsOf 9=1:=kO
theorem yT: "*" ++ "errors.errorString" = "*errors.errorString" :=kN
theorem yU(a)(h:prog.typeName? 3 a=some "*errors.errorString"):a=348:=
 typeName_ptr_named (nm:= "errors.errorString") (by rw[yT];kernel_rfl) kO kN a (by rw[yT];exact h)
def lg:List (String×DataW Unit):=[("loop.example/s01906/impl.errWrongBytes",Rows.laid_loop_example_s01906_impl_errWrongBytes),("loop.example/s01906/impl.errNoPage",Rows.laid_loop_example_s01906_impl_errNoPage),("loop.example/s01906/impl.startWords",Rows.laid_loop_example_s01906_impl_startWords),("loop.example/s01906/impl.roundWords",Rows.laid_loop_example_s01906_impl_roundWords)]
theorem yV{a}(b:laidMetH prog lg a):laidMet prog lg a:=by
 rw[<-Go.MakeChecks.laidMetH_plain prog lg a kO];exact b
theorem Jn{j}(C:laidMetH prog lg j):∃m n:Addr,j.var? prog "loop.example/s01906/impl.errNoPage" =some #[errV m]/\j.var? prog "loop.example/s01906/impl.errWrongBytes" =some #[errV n]/\Errs j m n:=by
 obtain⟨ps,⟨L,t0,k,K,M,O,f,t,b,q,⟨g1,y,l,f1,N,P,g,u,c,r,_,B⟩,e0⟩,s,a⟩:=yV C;obtain rfl:=sv (pM.symm.trans f);obtain rfl:=sv (pO.symm.trans g);obtain rfl:=sv (tz.symm.trans t);obtain rfl:=sv (tA.symm.trans u);subst B;subst e0;obtain⟨l0⟩:=k;obtain⟨D⟩:=l;have w:∀d v,l0=[.iface d v]->Value.okWide prog j .any 0 d v:=fun d v e=>by
  subst e;exact(a 2 0 (by simp[MemPlace.row])).2 d v (by simpa using World.var?_cell f b 0)
 have x:∀d v,D=[.iface d v]->Value.okWide prog j .any 0 d v:=fun d v e=>by
  subst e;exact(a 0 0 (by simp[MemPlace.row])).2 d v (by simpa using World.var?_cell g c 0)
 obtain⟨h,Q,rfl,E,G,I,rfl⟩:=errorString_of_trod underlying223 yU underlying348 underlying372 rfl rfl s4 yR yS q w;obtain⟨i,R,rfl,F,H,J,rfl⟩:=errorString_of_trod underlying223 yU underlying348 underlying372 rfl rfl s4 yR yS r x;obtain⟨z,t0,o⟩:=(a h.block h.off (by simp[MemPlace.row])).1;obtain⟨A,y,p⟩:=(a i.block i.off (by simp[MemPlace.row])).1;refine⟨i,h,c,b,by simpa using World.var?_cell pO c 0,by simpa using World.var?_cell pM b 0,?_,⟨A,y,p⟩,⟨z,t0,o⟩⟩;rintro rfl;simp[MemPlace.row]at s
theorem Jo{c}(e:laidMetH prog lg c):Tabs c:=by
 have h:=yV e;have f:=Lib.laidMet.reads h (n:= "loop.example/s01906/impl.startWords") (d:=Rows.laid_loop_example_s01906_impl_startWords) (.tail _ (.tail _ (.head _)));have g:=Lib.laidMet.reads h (n:= "loop.example/s01906/impl.roundWords") (d:=Rows.laid_loop_example_s01906_impl_roundWords) (.tail _ (.tail _ (.tail _ (.head _))));have a:=wj Fw Fy underlying312 iw.list rfl f;have b:=wj Fx Fz underlying337 kW rfl g;exact⟨a,b,sd c _ (a 0 kH),sd c _ (b 0 kH)⟩
theorem yW{a c n cs}(h:a.var? prog n=some cs)(b:Below a.1.size a c):c.var? prog n=some cs:=by
 unfold World.var? at h ⊢;cases d:prog.globalNamed n with
 |none=>simp[d]at h
 |some g=>
  simp only[d,nn]at h ⊢;have e:g<a.1.size:=by
   rcases nr g a.1.size with h'|h'
   ·exact h'
   ·simp[Array.getElem?_eq_none h']at h
  rw[b.block g e];exact h
theorem yX{H i P w s o l j}(t:DataW.TrodVars i P w s o l j):
 ∀(m:List String)(k:List (DataW H))(r:List MemPlace),DataW.TrodVars i P w s m k r->DataW.TrodVars i P w s (m++o) (k++l) (r++j)
 |[],[],_,h=>by obtain rfl:_=[]:=h;exact t
 |[],_::_,_,h=>h.elim
 |_::_,[],_,h=>h.elim
 |n::ns,d::u,ps,⟨g,x,cs,f,p,q,a,b,c,e,hr,v⟩=>⟨g,x,cs,f,p,q++j,a,b,c,e,yX t ns u q hr,by rw[v];simp⟩
theorem yY{H i P w t o}:
 ∀(m:List String)(j:List (DataW H))(ps:List MemPlace),DataW.TrodVars i P w t (m++o) j ps->∃k l r s,j=k++l/\ps=r++s/\DataW.TrodVars i P w t m k r/\DataW.TrodVars i P w t o l s
 |[],j,ps,h=>⟨[],j,[],ps,rfl,rfl,rfl,h⟩
 |_::_,[],_,h=>h.elim
 |n::ns,d::u,ps,⟨g,B,cs,f,p,q,a,b,c,e,hr,y⟩=>by
  obtain⟨g1,g2,z,A,rfl,rfl,v,x⟩:=yY ns u q hr;exact⟨d::g1,g2,_,A,rfl,by rw[y,<-k5],⟨g,B,cs,f,p,z,a,b,c,e,v,rfl⟩,x⟩
abbrev errTextB:ByteArray:={data:=#[116,104,101,115,101,32,97,114,101,32,110,111,116,32,116,104,101,32,98,121,116,101,115,32,111,102,32,116,104,101,32,112,97,103,101]}
abbrev errTextN:ByteArray:={data:=#[116,104,101,32,100,105,115,107,32,104,97,115,32,110,111,32,115,117,99,104,32,112,97,103,101]}
noncomputable def pP:Nat:=(World.holding prog default ⟨#[],#[],[]⟩).1.size
noncomputable def yZ(os:Os):World:=
 let w0:=World.holding prog os ⟨#[.cells #[.string errTextB] 372,.cells #[.string errTextN] 372],#[],[]⟩
 {w0 with heap:=(((w0.heap.modify 2 fun
  | .cells _ t frozen=> .cells #[.iface 348 (.pointer (some ⟨pP,0,none⟩))] t frozen
  |o=>o).modify 0 fun
  | .cells _ t frozen=> .cells #[.iface 348 (.pointer (some ⟨pP+1,0,none⟩))] t frozen
  |o=>o).modify 1 fun
  | .cells _ t frozen=> .cells (ow iw.list).toArray t frozen
  |o=>o).modify 3 fun
  | .cells _ t frozen=> .cells (ow kW).toArray t frozen
  |o=>o}
theorem Jp(os args):laidMetH prog lg ((yZ os).forCall (fun _ _=>0) ⟨#[],args,[]⟩).memory:=by
 rw[Go.MakeChecks.laidMetH_plain prog lg _ kO];exact laidMet_of_run (ps:=[.cell 2 0,.cell pP 0,.cell 0 0,.cell (pP+1) 0]++MemPlace.row ⟨1,0,none⟩ 8++MemPlace.row ⟨3,0,none⟩ 64) 8 kO kO kO
