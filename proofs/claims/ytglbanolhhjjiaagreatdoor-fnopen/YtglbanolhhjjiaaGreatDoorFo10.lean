import Derived.Test.YtglbanolhhjjiaaGreatDoorFo5
namespace Go.Proofs.YtglbanolhhjjiaaGreatDoor
open Go.Proofs.Tryz
open Go.RowKit
set_option linter.unusedVariables false
set_option maxRecDepth 100000
set_option maxHeartbeats 32000000
def nd0:NdK:=⟨0,false,[],[],[],[]⟩
def Rep(ns:List NdK):Tr->Bool->List Int->List ByteArray->Prop
 | .leaf id es,_,ds,_=> ∃p:Nat,ds=[(p:Int)]/\ns[p]?=some ⟨id,true,es.map (·.1),es.map (·.2),[],[]⟩
 | .node id ks,_,ds,_=> ∃(p:Nat)(kd:List Int)(sg:List ByteArray),ds=[(p:Int)]/\ns[p]?=some ⟨id,false,[],[],kd,sg⟩/\Rep ns ks true kd sg
 | .nil,_,ds,ss=>ds=[]/\ss=[]
 | .cons s t ks,b,ds,ss=> ∃(d:Int)(ds':List Int)(ss':List ByteArray),ds=d::ds'/\ss=(if b=true then ss' else s::ss')/\Rep ns t true [d] []/\Rep ns ks false ds' ss'
theorem Rep.app{ns}(ms):∀{t:Tr}{b:Bool}{c:List Int}{e:List ByteArray},Rep ns t b c e->Rep (ns++ms) t b c e
 | .leaf id es,b,c,e,h=>by
  rw[Rep]at h ⊢;obtain⟨p,f,a⟩:=h;exact⟨p,f,by rw[w4 (wC.1 a).1];exact a⟩
 | .node id ks,b,c,e,h=>by
  rw[Rep]at h ⊢;obtain⟨p,kd,sg,f,a,g⟩:=h;exact⟨p,kd,sg,f,by rw[w4 (wC.1 a).1];exact a,g.app ms⟩
 | .nil,b,c,e,h=>by rw[Rep]at h ⊢;exact h
 | .cons s t ks,b,c,e,h=>by
  rw[Rep]at h ⊢;obtain⟨d,i,j,f,a,g,k⟩:=h;exact⟨d,i,j,f,a,g.app ms,k.app ms⟩
def fC:List (ByteArray×Tr)->Tr->Tr
 |[],k=>k
 |(s,t)::r,k=> .cons s t (fC r k)
theorem Ck(a b k):fC (a++b) k=fC a (fC b k):=by
 induction a with
 |nil=>rfl
 |cons x r ih=>cases x;simp[fC,ih]
theorem uU{ns}:∀(c:List (ByteArray×Tr))(b:Bool)(a:List Int),a.length=c.length->(∀i,i<c.length->Rep ns (c.getD i (strOfNums [],.nil)).2 true [a.getD i 0] [])->
 Rep ns (fC c .nil) b a (if b=true then c.tail.map (·.1)else c.map (·.1))
 |[],b,a,e,_=>by
  have:=y3 e;subst this;cases b<;>simp[fC,Rep]
 |(s,t)::r,b,[],e,_=>by simp at e
 |(s,t)::r,b,d::a,e,h=>by
  rw[fC,Rep];refine⟨d,a,r.map (·.1),rfl,?_,?_,?_⟩
  ·cases b<;>simp
  ·have:=h 0 vo;simpa using this
  ·have:=uU (ns:=ns) r false a (by simpa using e) (fun i f=>by
    have:=h (i+1) (by simp;omega);simpa using this)
   simpa using this
def mkB(seen:List Int)(N:Nat):List Value:=(List.range N).map fun(i:Nat)=> .bool (seen.contains (i:Int))
theorem uV(seen N):(mkB seen N).length=N:=by simp[mkB]
theorem go(seen N i)(h:i<N):(mkB seen N).getD i undef= .bool (seen.contains (i:Int)):=by simp[mkB,List.getD,h]
theorem iT(seen N i)(h:i<N):(mkB seen N).set i (.bool true)=mkB ((i:Int)::seen) N:=by
 apply zb;intro j;rw[BO];by_cases e:i=j
 ·subst e;rw[B4 rfl,uV,B4 h];simp[mkB,h]
 ·rw[CH e];by_cases a:j<N
  ·simp[mkB,a];intro b;exact absurd uA e
  ·simp[mkB,a]
theorem uW:∀(l m:List Nat),l.Nodup->(∀x∈l,x∈m)->l.length<=m.length
 |[],m,_,_=>wa _
 |x::l,m,h,a=>by
  rw[zz]at h;have hx:=a x vo;have:=uW l (m.erase x) h.2 (fun y b=>(List.mem_erase_of_ne (fun e=>by subst e;exact h.1 b)).2 (a y (by simp[b])));rw[List.length_erase_of_mem hx]at this;have:=List.length_pos_of_mem hx;simp;omega
structure SeenOk(seen:List Int)(N:Nat):Prop where
 nodup:seen.Nodup
 lt:∀x∈seen,0<=x/\x< (N:Int)
theorem SeenOk.le{seen N}(h:SeenOk seen N):seen.length<=N:=by
 have c:(seen.map Int.toNat).Nodup:=by
  rw[List.Nodup,List.pairwise_map];refine List.Pairwise.imp_of_mem ?_ h.nodup;intro a b e f i j;have:=h.lt a e;have:=h.lt b f;omega
 have d:∀x∈seen.map Int.toNat,x∈List.range N:=by
  intro x hx;obtain⟨y,g,rfl⟩:=x7.1 hx;have:=h.lt y g;rw[xa];omega
 have:=uW _ _ c d;simpa using this
theorem SeenOk.cons{seen N}(h:SeenOk seen N){x}(b:0<=x)(c:x< (N:Int))(d:x∉seen):SeenOk (x::seen) N:=
 ⟨zz.2 ⟨d,h.nodup⟩,fun y a=>by rcases w3.1 a with rfl|a;exact⟨b,c⟩;exact h.lt y a⟩
def cd(nv:Nat->NdV)(ns:List NdK):Nat->List Value:=fun i=>ndc (nv i) (ns.getD i nd0)
def trc(na:Option Addr)(n nc:Nat)(rt:Int)(sb N:Nat)(tall:Int)(bad:Bool):List Value:=[.slice na n nc,.int .i64 rt,.slice (some ⟨sb,0,none⟩) N N,.int .i64 tall,.bool bad]
structure TSt(B0 g sb N:Nat)(rt:Int)(w:World)(ns:List NdK)(nv:Nat->NdV)(na:Option Addr)(nc:Nat)(seen:List Int)(tall:Int)(bad:Bool):Prop where
 blk:Blk w 116 g (trc na ns.length nc rt sb N tall bad)
 mks:Own1 4 B0 w (some ⟨sb,0,none⟩) N N (mkB seen N)
 nodes:ORow 176 6 B0 w na ns.length nc (cd nv ns)
 each:∀i,i<ns.length->ONd 0 w (nv i) (ns.getD i nd0)
 gB:B0<=w.1.size
 ok:SeenOk seen N
theorem Own1.blk{e B w g n c xs}(h:Own1 e B w (some ⟨g,0,none⟩) n c xs):B<=g/\∃a,w.heap[g]?=some (.cells a e (0,0)):=by
 rcases h.2 with⟨b,_⟩|⟨j,i,a,b,d,f,_⟩
 ·cases b
 ·cases b;exact⟨d,a,f⟩
theorem ORow.blk{e s B w g n c f}(h:ORow e s B w (some ⟨g,0,none⟩) n c f):B<=g/\∃a,w.heap[g]?=some (.cells a e (0,0)):=by
 rcases h.2 with⟨b,_⟩|⟨k,j,a,b,d,i,_⟩
 ·cases b
 ·cases b;exact⟨d,a,i⟩
theorem ORow.keep{e s B w w' a n c f}(h:ORow e s B w a n c f)(b:∀g,a=some ⟨g,0,none⟩->w'.heap[g]?=w.heap[g]?):ORow e s B w' a n c f:=by
 refine⟨h.1,?_⟩;rcases h.2 with h2|⟨k,cap,cur,hv,hg,hh,r⟩
 ·exact v7 h2
 ·refine v6 ⟨k,cap,cur,hv,hg,?_,r⟩;cases hv;rw[b k rfl];exact hh
structure Fr3(g sb:Nat)(na:Option Addr)(w w':World):Prop where
 os:w'.os=w.os
 tape:w'.tape=w.tape
 output:w'.output=w.output
 size:w.1.size<=w'.1.size
 block:∀k,k<w.1.size->k≠g->k≠sb->na≠some ⟨k,0,none⟩->w'.heap[k]?=w.heap[k]?
theorem Fr3.ofBelow{g sb na w w'}(h:Below w.1.size w w'):Fr3 g sb na w w':=⟨h.os,h.tape,h.output,h.size,fun k a _ _ _=>h.block k a⟩
theorem Fr3.trans{g sb na b w w1 j}(h:Fr3 g sb na w w1)(a:Fr3 g sb b w1 j)(l:b=na\/∃k,b=some ⟨k,0,none⟩/\w.1.size<=k):Fr3 g sb na w j:=
 ⟨a.os.trans h.os,a.tape.trans h.tape,a.output.trans h.output,wg h.size a.size,fun k i c d f=>by
  rw[a.block k (wQ i h.size) c d (by
   rcases l with rfl|⟨k1,rfl,hk1⟩
   ·exact f
   ·intro e;cases e;omega)]
  exact h.block k i c d f⟩
theorem Fr3.only{g sb b na w w'}(h:OnlyB b w w')(a:b=g\/b=sb\/na=some ⟨b,0,none⟩\/w.1.size<=b):Fr3 g sb na w w':=
 ⟨h.os,h.tape,h.output,h.size,fun k i c d f=>h.block k i (fun e=>by
  subst e;rcases a with a|a|a|a
  ·exact c a
  ·exact d a
  ·exact f a
  ·omega)⟩
theorem Fr3.fresh{g sb b na w w1 d}(h:Fr3 g sb na w w1)(a:OnlyB b w1 d)(j:w.1.size<=b):Fr3 g sb na w d:=
 ⟨a.os.trans h.os,a.tape.trans h.tape,a.output.trans h.output,wg h.size a.size,fun k c e f i=>by
  rw[a.block k (wQ c h.size) uA];exact h.block k c e f i⟩
theorem TSt.types{B0 g sb N rt w ns nv na nc seen tall bad}(h:TSt B0 g sb N rt w ns nv na nc seen tall bad){k cs}{t:Nat}{fr}(b:w.heap[k]?=some (.cells cs t fr))(d:t≠116)(f:t≠4)(i:t≠176):
 k≠g/\k≠sb/\na≠some ⟨k,0,none⟩:=by
 refine⟨fun e=> ?_,fun e=> ?_,fun e=> ?_⟩
 ·subst e;have:=h.blk;unfold Blk at this;rw[b]at this;cases this;exact d rfl
 ·subst e;obtain⟨_,c,a⟩:=h.mks.blk;rw[b]at a;cases a;exact f rfl
 ·subst e;obtain⟨_,c,a⟩:=h.nodes.blk;rw[b]at a;cases a;exact i rfl
theorem Fr3.keepT{B0 g sb N rt w w' ns nv na nc seen tall bad}(f:Fr3 g sb na w w')(h:TSt B0 g sb N rt w ns nv na nc seen tall bad){t}(e:t≠116)(i:t≠4)(j:t≠176):KeepT t w w':=
 ⟨f.size,fun k cs fr a=>by
  obtain⟨b,c,d⟩:=h.types a e i j;rw[f.block k (wy.1 a).1 b c d];exact a⟩
theorem Fr3.onlyG{B0 g sb N rt w0 w w' ns nv na nc seen tall bad}(f:Fr3 g sb na w w')(h:TSt B0 g sb N rt w ns nv na nc seen tall bad)(d:w0.1.size<=B0)(a:OnlyB g w0 w):OnlyB g w0 w':=
 ⟨f.os.trans a.os,f.tape.trans a.tape,f.output.trans a.output,wg a.size f.size,fun k c b=>by
  have i:=a.size;rw[f.block k uA b ?_ ?_]
  ·exact a.block k c b
  ·have:=h.mks.blk.1;omega
  ·intro e;subst e;have:=h.nodes.blk.1;omega⟩
theorem TSt.belowT{B0 g sb N rt w w' ns nv na nc seen tall bad}(h:TSt B0 g sb N rt w ns nv na nc seen tall bad)(a:Below w.1.size w w'):TSt B0 g sb N rt w' ns nv na nc seen tall bad:=
 ⟨h.blk.below a,h.mks.below a,h.nodes.below a,fun i b=>(h.each i b).below a,wg h.gB a.size,h.ok⟩
theorem TSt.other{B0 g sb N b e:Nat}{rt w w' ns nv na nc seen tall bad}{xs:List Value}(h:TSt B0 g sb N rt w ns nv na nc seen tall bad)(m:OnlyB b w w')(x:∃n,w.heap[b]?=some (.cells n e (0,0)))(u:e≠116)(v:e≠4)(f:e≠176\/na≠some ⟨b,0,none⟩)(o:e≠9)(j:e≠3\/∀i,i<ns.length->(nv i).da≠some ⟨b,0,none⟩):TSt B0 g sb N rt w' ns nv na nc seen tall bad:=by
 obtain⟨n,p⟩:=x;have a:∀t,e≠t->KeepT t w w':=fun t y=>⟨m.size,fun k cs fr a=>by
  by_cases c:k=b
  ·subst c;rw[p]at a;cases a;exact absurd rfl y
  ·rw[m.block k (wy.1 a).1 c];exact a⟩
 refine⟨h.blk.keepT (a _ u),h.mks.keep (a _ v),h.nodes.keep (fun k c=> ?_),fun i q=> ?_,wg h.gB m.size,h.ok⟩
 ·subst c;obtain⟨_,s,l⟩:=h.nodes.blk;refine m.block k (wy.1 l).1 (fun c=> ?_);subst c;rcases f with f|f
  ·rw[p]at l;cases l;exact f rfl
  ·exact f rfl
 ·have d:=h.each i q;refine⟨d.keys.keep (a _ o),d.vals.keep (a _ o),?_,d.signs.keep (a _ o)⟩;rcases j with j|j
  ·exact d.kids.keep (a _ j)
  ·refine⟨d.kids.1,?_⟩;rcases d.kids.2 with h6|⟨k,cap,cur3,hv,hg,hh,r⟩
   ·exact v7 h6
   ·refine v6 ⟨k,cap,cur3,hv,hg,?_,r⟩;have:(nv i).da=some ⟨k,0,none⟩:=by simp only[D5]at hv;exact hv.1
    rw[m.block k (wy.1 hh).1 (fun c=>by subst c;exact j i q this)];exact hh
theorem TSt.set{B0 g sb N rt w ns nv na nc seen tall a bad b}(h:TSt B0 g sb N rt w ns nv na nc seen tall bad)(i x)(e:(trc na ns.length nc rt sb N tall bad).set i x=trc na ns.length nc rt sb N a b):TSt B0 g sb N rt (w.setCell ⟨g,i,none⟩ x) ns nv na nc seen a b:=by
 have d:=ax w g i x;have c:∀t,116≠t->KeepT t w (w.setCell ⟨g,i,none⟩ x):=fun t k=>aw d h.blk k;have f:=h.blk.set i x;rw[e]at f;exact⟨f,h.mks.keep (c _ uB),cw h.nodes (c _ uB),fun i j=>(h.each i j).keep (c _ uB) (c _ uB),wg h.gB d.size,h.ok⟩
theorem TSt.mark{B0 g sb N rt w ns nv na nc seen tall bad}(h:TSt B0 g sb N rt w ns nv na nc seen tall bad){i}(b:i<N)(j:(i:Int)∉seen):TSt B0 g sb N rt (w.setCell ⟨sb,i,none⟩ (.bool true)) ns nv na nc ((i:Int)::seen) tall bad:=by
 have c:=ax w sb i (.bool true);obtain⟨_,m,f⟩:=h.mks.blk;have a:∀t,4≠t->KeepT t w (w.setCell ⟨sb,i,none⟩ (.bool true)):=fun t l=>⟨c.size,fun k cs fr a=>by
  by_cases d:k=sb
  ·subst d;rw[f]at a;cases a;exact absurd rfl l
  ·rw[c.block k (wy.1 a).1 d];exact a⟩
 have e:=h.mks.set i (.bool true);rw[iT _ _ _ b]at e;exact⟨h.blk.keepT (a _ uB),e,cw h.nodes (a _ uB),fun i b=>(h.each i b).keep (a _ uB) (a _ uB),wg h.gB c.size,h.ok.cons uA uA j⟩
theorem eY:ElT 114 176 6 (.agg (ndc aF nd0).toArray) 112:=⟨underlying114,vk,rfl,uA⟩
theorem eo(v K):∀u∈ndc v K,u.oneCell'=true:=by
 intro x hx;simp[ndc]at hx;rcases hx with rfl|rfl|rfl|rfl|rfl|rfl<;>rfl
def eA{α:Type}(f:Nat->α)(n:Nat)(x:α):Nat->α:=fun i=>if i=n then x else f i
theorem jA{a:Type}(f n)(x:a):eA f n x n=x:=by simp[eA]
theorem jB{a:Type}(f){n i}(x:a)(h:i<n):eA f n x i=f i:=by simp[eA,Nat.ne_of_lt h]
theorem TSt.push{B0 g sb N rt w b ns nv na nc seen tall bad}(h:TSt B0 g sb N rt w ns nv na nc seen tall bad){v K}(o:ONd 0 w v K){d c}(x:ORow 176 6 B0 b (some ⟨d,0,none⟩) (ns.length+1) c (cH (cd nv ns) ns.length (ndc v K)))(s:Below B0 w b)(u:(w.alloc (.cells (ndc v K).toArray 176)).grownBy b (Value.slice na ns.length nc).ownBlock):
 TSt B0 g sb N rt (b.setCell ⟨g,0,none⟩ (.slice (some ⟨d,0,none⟩) (ns.length+1) c)) (ns++[K]) (eA nv ns.length v) (some ⟨d,0,none⟩) c seen tall bad:=by
 have r:=bAl w (.cells (ndc v K).toArray 176);have j:∀t,176≠t->KeepT t w b:=fun t l=>(aV r).trans (bD (bQ h.nodes r) u l);have q:Blk b 116 g _:=h.blk.keepT (j _ uB);have n:=ax b g 0 (.slice (some ⟨d,0,none⟩) (ns.length+1) c);have a:∀t,116≠t->KeepT t b (b.setCell ⟨g,0,none⟩ (.slice (some ⟨d,0,none⟩) (ns.length+1) c)):=fun t l=>aw n q l;have p:=q.set 0 (.slice (some ⟨d,0,none⟩) (ns.length+1) c);refine⟨?_,(h.mks.keep (j _ uB)).keep (a _ uB),?_,fun i k=> ?_,wg h.gB (wg s.size n.size),h.ok⟩
 ·have e:(trc na ns.length nc rt sb N tall bad).set 0 (.slice (some ⟨d,0,none⟩) (ns.length+1) c)=trc (some ⟨d,0,none⟩) (ns++[K]).length c rt sb N tall bad:=by simp[trc]
  rw[e]at p;exact p
 ·have y:=cw x (a _ uB);rw[wb];refine ORow.congr (f:=cH (cd nv ns) ns.length (ndc v K)) y (fun i k=> ?_);have m:i<ns.length+1:=k;by_cases e:i=ns.length
  ·subst e;rw[iJ];unfold cd;rw[jA];simp
  ·rw[jQ _ _ uA];unfold cd;rw[jB _ _ uA];simp[List.getD,List.getElem?_append_left (show i<ns.length by omega)]
 ·rw[wb]at k;have m:i<ns.length+1:=k;by_cases e:i=ns.length
  ·subst e;rw[jA];have:(ns++[K]).getD ns.length nd0=K:=by simp
   rw[this];exact(o.keep (j _ uB) (j _ uB)).keep (a _ uB) (a _ uB)
  ·rw[jB _ _ uA];have:(ns++[K]).getD i nd0=ns.getD i nd0:=by simp[List.getD,List.getElem?_append_left (show i<ns.length by omega)]
   rw[this];exact((h.each i uA).keep (j _ uB) (j _ uB)).keep (a _ uB) (a _ uB)
theorem Fr3.push{g sb na w j n nc x cs}{t B:Nat}{f}(p:ORow 176 6 B w na n nc f)(b:(w.alloc (.cells cs t)).grownBy j (Value.slice na n nc).ownBlock)(v:g<w.1.size):Fr3 g sb na w (j.setCell ⟨g,0,none⟩ x):=by
 have c:=ax j g 0 x;have a:=bAl w (.cells cs t);refine⟨c.os.trans (b.os.trans a.os),c.tape.trans (b.tape.trans a.tape),c.output.trans (b.output.trans a.output),wg a.size (wg b.size c.size),fun k i m u o=> ?_⟩;have l:=wQ i (wg a.size b.size);rw[c.block k l m,b.block k (wQ i a.size) ?_]
 ·exact a.block k i
 ·intro e;rcases p.2 with⟨d,_⟩|⟨s,q,r,d,_⟩
  ·rw[d]at e;simp[Value.ownBlock]at e
  ·rw[d]at e;simp[Value.ownBlock]at e;cases d;subst e;exact o rfl
theorem Cl{r s id ls a}(h:r a id=none):rdK r ((s,id)::ls) a=none:=by rw[rdK,h];rfl
theorem Cm{r s id ls b a T c}(h:r b id=some (T,a)):
 (rdK r ((s,id)::ls) b).map (fun y=>(fC c y.1,y.2))=(rdK r ls a).map (fun y=>(fC (c++[(s,T)]) y.1,y.2)):=by
 rw[rdK,h];simp only[xC];cases rdK r ls a with
 |none=>rfl
 |some y=>simp[Ck,fC]
structure PgW(P:Pg)(N:Nat):Prop where
 ok:∀t,P.ok t=true->0<=t/\t< (N:Int)
 byte:∀t,IsB (P.bd t)
 len:∀t,(P.bd t).length<=1048576
 le:N<=1024
def ma(P:Pg)(vs:Value)(g:Nat)(w0:World):Prop:= ∀u,OnlyB g w0 u->∀t,Calls prog 107 #[.agg #[vs],.int .i64 t] u fun e w'=> ∃a c,e= .returned (.tuple #[.int .i64 (P.kd t),.slice a (P.bd t).length c,.bool (P.ok t)])/\Below u.1.size u w'/\Own u.1.size w' a (P.bd t).length c (P.bd t)
structure RdQ(P:Pg)(B0 g sb N:Nat)(rt:Int)(f steps:Nat)(id:Int)(w:World)(ns:List NdK)(nv:Nat->NdV)(na:Option Addr)(seen:List Int)(tall:Int)(w':World)(p:Int)(ms:List NdK)(nv':Nat->NdV)(na':Option Addr)(nc':Nat)(seen':List Int)(tall':Int)(bad':Bool):Prop where
 fr:Fr3 g sb na w w'
 st:TSt B0 g sb N rt w' (ns++ms) nv' na' nc' seen' tall' bad'
 na:na'=na\/∃k,na'=some ⟨k,0,none⟩/\w.1.size<=k
 old:∀i,i<ns.length->nv' i=nv i
 new:∀i k,ns.length<=i->i< (ns++ms).length->(nv' i).da=some ⟨k,0,none⟩->w.1.size<=k
 le:(ns++ms).length+steps<=seen'.length
 le2:seen.length<=seen'.length
 res:(bad'=false/\∃T,rdT P f steps ⟨seen,tall⟩ id=some (T,⟨seen',tall'⟩)/\isT T=true/\Rep (ns++ms) T true [p] [])\/(bad'=true/\rdT P f steps ⟨seen,tall⟩ id=none)
def RdP(P:Pg)(B0 g sb N:Nat)(rt:Int)(f steps:Nat)(id:Int)(w:World)(ns:List NdK)(nv:Nat->NdV)(na:Option Addr)(seen:List Int)(tall:Int)(e:Ending)(w':World):Prop:= ∃p ms nv' na' nc' seen' tall' bad',e= .returned (.int .i64 p)/\RdQ P B0 g sb N rt f steps id w ns nv na seen tall w' p ms nv' na' nc' seen' tall' bad'
theorem fR{P B0 g sb N rt f steps id w ns nv na seen tall w' p ms i d e a b c}(h:RdQ P B0 g sb N rt f steps id w ns nv na seen tall w' p ms i d e a b c):RdP P B0 g sb N rt f steps id w ns nv na seen tall (.returned (.int .i64 p)) w':=⟨_,_,_,_,_,_,_,_,rfl,h⟩
theorem nL{P B0 g sb N rt f steps id}{w w1 c:World}{ns nv na nc seen a tall b}(p)(fr:Fr3 g sb na w c)(l:TSt B0 g sb N rt c ns nv na nc a b true)(n:ns.length+steps<=seen.length)(j:seen.length<=a.length)(d:rdT P f steps ⟨seen,tall⟩ id=none):
 RdQ P B0 g sb N rt f steps id w ns nv na seen tall c p [] nv na nc a b true:=
 ⟨fr,by rw[wP];exact l,v7 rfl,fun _ _=>rfl,fun i k m e=>by rw[wP]at e;omega,by rw[wP];omega,j,v6 ⟨rfl,d⟩⟩
theorem Cn{P f steps a id}(h:dQ P a id=false):rdT P (f+1) steps a id=none:=by rw[rdT,CH (by rw[h];decide)]
def RdC(P:Pg)(N B0 g sb:Nat)(rt:Int)(vs:Value)(w0:World)(f:Nat):Prop:= ∀(steps:Nat)(id:Int)(ns:List NdK)(nv:Nat->NdV)(na:Option Addr)(nc:Nat)(seen:List Int)(tall:Int)(w:World),OnlyB g w0 w->TSt B0 g sb N rt w ns nv na nc seen tall false->N<f+seen.length->ns.length+steps<=seen.length->
 Calls prog 109 #[.pointer (some ⟨g,0,none⟩),.agg #[vs],.int .i64 id,.int .i64 (steps:Nat)] w fun e w'=>RdP P B0 g sb N rt f steps id w ns nv na seen tall e w'
theorem Co(P N B0 g sb rt d w0)(A:PgW P N)(H:ma P d g w0)(K:w0.1.size<=B0)(f steps id ns nv na nc seen tall w)(ae:OnlyB g w0 w)(T:TSt B0 g sb N rt w ns nv na nc seen tall false)(ac:ns.length+steps<=seen.length)(l:dQ P ⟨seen,tall⟩ id=false):
 Calls prog 109 #[.pointer (some ⟨g,0,none⟩),.agg #[d],.int .i64 id,.int .i64 (steps:Nat)] w fun e w'=>RdP P B0 g sb N rt (f+1) steps id w ns nv na seen tall e w':=by
 have X:=A.le;have G:=bAl w (.cells #[d] 136);have R:=aq w 136 #[d];have y:=T.belowT G;have B:Fr3 g sb na w (w.alloc (.cells #[d] 136)):=Fr3.ofBelow G;have ag:(w.alloc (.cells #[d] 136)).1.size=w.1.size+1:=by simp
 have af:(prog.info? 136).map (·.size)=some (#[d]:Array Value).size:=vk;go_enter func109,ntmps109;go_upto_region 1 with fail
 change Code.wp _ _ _ _ (w.alloc (.cells #[d] 136));generalize w.alloc (.cells #[d] 136)=ak at*;clear ag;have Y:=B.onlyG T K ae;have r:=H ak Y id;have L:=A.byte id;have E:=A.ok id;have n:Blk ak 136 w.1.size [d]:=R;clear R H;have U:Hid (¬(P.ok id=true/\2<=id/\id∉seen/\(P.kd id=2\/P.kd id=3))):=fun h=>by rw[fO.2 h]at l;cases l
 have I:=Cn (P:=P) (f:=f) (steps:=(steps:Nat)) l;generalize D:P.ok id=S at*;generalize O:P.kd id=kd at*;generalize M:P.bd id=V at*;clear D O M;generalize aA:V.length=aS at*;go_wp2_with (refine B5 rfl 136 _ rfl w.1.size rfl 136 #[d] (0,0) _ n underlying136 rfl af ?_);refine r.mono ?_;rintro e w1 ⟨aB,aT,rfl,q,F⟩;have k:=y.belowT q;have f1:=B.trans (Fr3.ofBelow q) (v7 rfl);have x:=n.below q;have bs1:=F.bs L;have an:w1.cell? ⟨g,4,none⟩=some (.bool false):=k.blk.cell 4;have ap:=k.blk.free 4;have am:w1.cell? ⟨g,2,none⟩=some (.slice (some ⟨sb,0,none⟩) N N):=k.blk.cell 2;have z:=uv k (vJ f1 (vJ x (vJ bs1 F)));clear r k f1 x bs1 F q y B n G;have o:(trc na ns.length nc rt sb N tall false).set 4 (.bool true)=trc na ns.length nc rt sb N tall true:=rfl;have a:Hid (∀p:Int,RdQ P B0 g sb N rt (f+1) steps id w ns nv na seen tall (w1.setCell ⟨g,4,none⟩ (.bool true)) p [] nv na nc seen tall true):=fun p=>
  nL (w1:=w1) p (z.out.2.1.trans (Fr3.only (ax w1 g 4 (.bool true)) (v7 rfl)) (v7 rfl)) (z.out.1.set 4 (.bool true) o) ac t6 I
 clear o;cases S with
 |false=>
  have b:=a.out (-1);have c:Hid _:=b;clear b a;go_wp2_with fail;go_ret;exact fR c.out
 |true=>
 obtain⟨C,ab⟩:=E rfl;obtain⟨i,rfl⟩:=x2 C;have t:i<N:=uA;by_cases a0:(i:Int)<2
 ·have b:=a.out (-1);have c:Hid _:=b;clear b a;go_wp2_with fail;go_ret;exact fR c.out
 have s:w1.cell? ⟨sb,i,none⟩=some (.bool (seen.contains (i:Int))):=by
  obtain⟨aX,W,_,_,_,Z⟩:=z.out.1.mks.at_ uA;cases W;rw[Z i t,go _ _ _ t]
 have J:2<=(i:Int):=uA;cases j:seen.contains (i:Int)with
 |true=>
  rw[j]at s;have b:=a.out (-1);have c:Hid _:=b;clear b a j;go_wp2_with fail;go_ret;exact fR c.out
 |false=>
 rw[j]at s;have Q:(i:Int)∉seen:=fun ad=>by rw[xr.2 ad]at j;cases j
 clear j;by_cases m:kd=2\/kd=3
 case neg=>
  have u:¬kd=2:=fun e=>m (v7 e);have v:¬kd=3:=fun e=>m (v6 e);have a1:(kd !=2)=true:=by simp[u]
  have a2:(kd !=3)=true:=by simp[v]
  have b:=a.out (-1);have c:Hid _:=b;clear b a u v;go_wp2_with fail;go_ret;exact fR c.out
 case pos=>exact absurd ⟨rfl,J,Q,m⟩ U.out
theorem Cp(P N B0 g sb rt r w0)(a9:PgW P N)(cb:ma P r g w0)(c2:w0.1.size<=B0)(f steps id ns nv na nc seen tall w)(dX:OnlyB g w0 w)(b7:TSt B0 g sb N rt w ns nv na nc seen tall false)(da:ns.length+steps<=seen.length)(o:P.ok id=true)(y:2<=id)(ap:id∉seen)(z:P.kd id=2):
 Calls prog 109 #[.pointer (some ⟨g,0,none⟩),.agg #[r],.int .i64 id,.int .i64 (steps:Nat)] w fun e w'=>RdP P B0 g sb N rt (f+1) steps id w ns nv na seen tall e w':=by
 have dI:=a9.le;have eb:=b7.ok.le;have b6:=bAl w (.cells #[r] 136);have dk:=aq w 136 #[r];have bF:=b7.belowT b6;have b0:Fr3 g sb na w (w.alloc (.cells #[r] 136)):=Fr3.ofBelow b6;have d2:(w.alloc (.cells #[r] 136)).1.size=w.1.size+1:=by simp
 have d1:(prog.info? 136).map (·.size)=some (#[r]:Array Value).size:=vk;go_enter func109,ntmps109;go_upto_region 1 with fail
 change Code.wp _ _ _ _ (w.alloc (.cells #[r] 136));generalize w.alloc (.cells #[r] 136)=b8 at*;have ef:w.1.size<b8.1.size:=uA;clear d2;have dP:OnlyB g w0 b8:=b0.onlyG b7 c2 dX;have af:=cb b8 dP id;have bm:=a9.byte id;have d7:=a9.len id;have aA:=a9.ok id;have aX:Blk b8 136 w.1.size [r]:=dk;clear dk cb;obtain⟨b2,dS⟩:=aA o;have S:Hid (rdT P (f+1) steps ⟨seen,tall⟩ id=(if tall<0\/tall=(steps:Nat)then(lfP (P.bd id)).bind fun es=>if es.isEmpty then none else some (.leaf id es,⟨id::seen,(steps:Nat)⟩)else none)):=by
  show rdT P (f+1) steps ⟨seen,tall⟩ id= _;rw[rdT,B4 (fO.2 ⟨o,y,ap,v7 z⟩),B4 z]
 rw[o,z]at af;clear aA o z;obtain⟨i,rfl⟩:=x2 b2;have an:i<N:=uA;generalize c6:P.bd (i:Int)=bY at*;clear c6;generalize d8:bY.length=cm at*;go_wp2_with (refine B5 rfl 136 _ rfl w.1.size rfl 136 #[r] (0,0) _ aX underlying136 rfl d1 ?_);refine af.mono ?_;rintro e w1 ⟨ck,cp,rfl,ag,b5⟩;have a3:=bF.belowT ag;have f1:Fr3 g sb na w w1:=b0.trans (Fr3.ofBelow ag) (v7 rfl);have bC:=aX.below ag;have bs1:=b5.bs bm;have cr:w1.cell? ⟨g,2,none⟩=some (.slice (some ⟨sb,0,none⟩) N N):=a3.blk.cell 2;have ej:b8.1.size<=w1.1.size:=ag.size;have F:=uv a3 (vJ f1 (vJ bC (vJ bs1 b5)));clear af a3 f1 bC bs1 b5 ag bF b0 aX b6;have c7:w1.cell? ⟨sb,i,none⟩=some (.bool false):=by
  obtain⟨dF,Q,_,_,_,b1⟩:=F.out.1.mks.at_ uA;cases Q;rw[b1 i an,go _ _ _ an];cases dc:seen.contains (i:Int)with
  |false=>rfl
  |true=>exact absurd (xr.1 dc) ap
 have c8:w1.frozen? ⟨sb,i,none⟩=false:=F.out.1.mks.free i;have W:=ax w1 sb i (.bool true);have bP:=F.out.1.mark an ap;have cD:Fr3 g sb na w (w1.setCell ⟨sb,i,none⟩ (.bool true)):=F.out.2.1.trans (Fr3.only W (v6 (v7 rfl))) (v7 rfl);obtain⟨_,dE,U⟩:=F.out.1.mks.blk;have a0:∀t,4≠t->KeepT t w1 (w1.setCell ⟨sb,i,none⟩ (.bool true)):=fun t dV=>cx W U dV;have bE:=F.out.2.2.1.keepT (a0 _ uB);have dl:Own b8.1.size (w1.setCell ⟨sb,i,none⟩ (.bool true)) ck cm cp bY:=cw F.out.2.2.2.2 (a0 _ uB);have ak:=dl.bs bm;have ek:w1.1.size<=(w1.setCell ⟨sb,i,none⟩ (.bool true)).1.size:=W.size;have cc:=tX ck cm cp bY _ ak uA;have bT:=uv bP (vJ cD (vJ bE ak));clear F bP cD bE dl ak a0 U W;go_upto_region 6 with fail
 clear cr c7 c8;generalize w1.setCell ⟨sb,i,none⟩ (.bool true)=ch at*;go_wp2_with fail;refine cc.mono ?_;rintro e s ⟨v3,D,dq,rfl,bb,ce,aB⟩;have ae:Hid _:=aB;clear aB cc;have a4:=bT.out.1.belowT bb;have cL:Fr3 g sb na w s:=bT.out.2.1.trans (Fr3.ofBelow bb) (v7 rfl);have bf:=bAl s (.cells (ndc v3 D).toArray 176);have dd:=aq s 176 (ndc v3 D).toArray;have A:=a4.belowT bf;have cM:Fr3 g sb na w (s.alloc (.cells (ndc v3 D).toArray 176)):=cL.trans (Fr3.ofBelow bf) (v7 rfl);have cf:=ce.below bf;have bs:na≠some ⟨s.1.size,0,none⟩:=fun e=>by
  have c9:=a4.nodes;rw[e]at c9;obtain⟨_,d3,b1⟩:=c9.blk;have:=(wy.1 b1).1;omega
 have em:ch.1.size<=s.1.size:=bb.size;clear bT a4 cL bf bb ce;go_upto_region 7 with(refine bt rfl 176 _ _ rfl s (ndc aF nd0).toArray (ndc v3 D).toArray 176 rfl rfl aD rfl (cy _ _) ?_)
 change Code.wp _ _ _ _ (s.alloc (.cells (ndc v3 D).toArray 176));generalize s.alloc (.cells (ndc v3 D).toArray 176)=c at*;have M:Blk c 176 s.1.size (ndc v3 D):=dd;clear dd;generalize s.1.size=nb at*;have cv:c.cell? ⟨g,3,none⟩=some (.int .i64 tall):=A.blk.cell 3;have cT:=A.blk.free 3;have cz:c.cell? ⟨g,4,none⟩=some (.bool false):=A.blk.cell 4;have cV:=A.blk.free 4;have bl:c.cell? ⟨nb,4,none⟩=some (.slice v3.da D.kids.length v3.dc):=M.cell 4;have cq:c.cell? ⟨nb,0,none⟩=some (.int .i64 D.page):=M.cell 0;have cS:=M.free 0;have l:=uv A (vJ cM (vJ cf (vJ M bs)));clear A cM cf M bs;have br:ns.length+steps<=((i:Int)::seen).length:=by rw[w8];omega
 have aS:seen.length<=((i:Int)::seen).length:=by rw[w8];omega
 have a7:=uv br aS;clear br aS;have B:Hid (∀p,rdT P (f+1) steps ⟨seen,tall⟩ (i:Int)=none->RdQ P B0 g sb N rt (f+1) steps (i:Int) w ns nv na seen tall (c.setCell ⟨g,4,none⟩ (.bool true)) p [] nv na nc ((i:Int)::seen) tall true):=fun p ab=>
  nL (w1:=c) p (l.out.2.1.trans (Fr3.only (ax c g 4 (.bool true)) (v7 rfl)) (v7 rfl)) (l.out.1.set 4 (.bool true) rfl) da a7.out.2 ab
 have C:Hid (∀p,rdT P (f+1) steps ⟨seen,tall⟩ (i:Int)=none->RdQ P B0 g sb N rt (f+1) steps (i:Int) w ns nv na seen tall ((c.setCell ⟨g,4,none⟩ (.bool true)).setCell ⟨g,4,none⟩ (.bool true)) p [] nv na nc ((i:Int)::seen) tall true):=fun p ab=>
  nL (w1:=c) p ((l.out.2.1.trans (Fr3.only (ax c g 4 (.bool true)) (v7 rfl)) (v7 rfl)).trans (Fr3.only (ax (c.setCell ⟨g,4,none⟩ (.bool true)) g 4 (.bool true)) (v7 rfl)) (v7 rfl)) ((l.out.1.set 4 (.bool true) rfl).set 4 (.bool true) rfl) da a7.out.2 ab
 by_cases X:0<=tall/\¬tall=(steps:Nat)
 ·have bv:0<=tall:=X.1;have bz:(tall !=(steps:Nat))=true:=by simp[X.2]
  have L:rdT P (f+1) steps ⟨seen,tall⟩ (i:Int)=none:=by rw[S.out,CH uA]
  have G:Hid _:=C.out (-1) L;clear B C L;cases dq with
  |false=>
   go_wp2_with fail;go_ret;exact fR G.out
  |true=>
   go_wp2_with fail;go_ret;exact fR G.out
 have a:tall<0\/tall=(steps:Nat):=uA;have bu:Hid (tall<0\/tall=(steps:Nat)):=a;rcases ae.out with⟨o,es,q,db,m⟩|⟨o,q⟩
 ·subst o;have aT:rdT P (f+1) steps ⟨seen,tall⟩ (i:Int)=some (.leaf (i:Int) es,⟨(i:Int)::seen,(steps:Nat)⟩):=by
   rw[S.out,B4 bu.out,q];show(if es.isEmpty=true then none else some _)= _;rw[CH (by simpa using db)]
  have dr:Hid _:=aT;clear aT B C S ae X;subst m;have bn:(aZ es).kids.length=0:=rfl;rw[bn]at bl;have bx:(trc na ns.length nc rt sb N tall false).set 3 (.int .i64 (steps:Nat))=trc na ns.length nc rt sb N (steps:Nat) false:=rfl;have bd:=ax (c.setCell ⟨g,3,none⟩ (.int .i64 (steps:Nat))) nb 0 (.int .i64 (i:Int));have V:g≠nb:=fun e=>by
   subst e;have am:=l.out.1.blk;have y:=l.out.2.2.2.1;unfold Blk at am y;rw[am]at y;cases y
  have ac:=ax c g 3 (.int .i64 (steps:Nat));have Y:=(l.out.2.2.2.1.only ac (ED V)).set 0 (.int .i64 (i:Int));obtain⟨b,J⟩:∃K:NdK,K=⟨(i:Int),true,es.map (fun x=>x.1),es.map (fun x=>x.2),[],[]⟩:=⟨_,rfl⟩;have cB:(ndc v3 (aZ es)).set 0 (.int .i64 (i:Int))=ndc v3 b:=by rw[J];rfl
  rw[cB]at Y;have bR:=(l.out.1.set 3 (.int .i64 (steps:Nat)) bx).other (xs:=[]) bd ⟨_,l.out.2.2.2.1.only ac (ED V)⟩ uB uB (v6 l.out.2.2.2.2) uB (v7 uB);have a1:∀t,116≠t->176≠t->KeepT t c ((c.setCell ⟨g,3,none⟩ (.int .i64 (steps:Nat))).setCell ⟨nb,0,none⟩ (.int .i64 (i:Int))):=fun t am y=>(aw ac l.out.1.blk am).trans (aw bd (l.out.2.2.2.1.only ac (ED V)) y);have bX:ONd ch.1.size ((c.setCell ⟨g,3,none⟩ (.int .i64 (steps:Nat))).setCell ⟨nb,0,none⟩ (.int .i64 (i:Int))) v3 b:=by
   have a8:=l.out.2.2.1.keep (a1 _ uB uB) (a1 _ uB uB);rw[J];exact⟨a8.keys,a8.vals,a8.kids,a8.signs⟩
  have cP:=(l.out.2.1.trans (Fr3.only ac (v7 rfl)) (v7 rfl)).fresh bd uA;have a6:=uv bR (vJ cP (vJ bX Y));have bZ:((c.setCell ⟨g,3,none⟩ (.int .i64 (steps:Nat))).setCell ⟨nb,0,none⟩ (.int .i64 (i:Int))).cell? ⟨nb,4,none⟩=some (.slice v3.da 0 v3.dc):=(Y.cell 4).trans (by rw[J];rfl);have b9:Hid _:=J;clear J;have d5:=a7.out.1;have ea:=l.out.1.ok.le;have d4:B0<=c.1.size:=l.out.1.gB;have d9:g<c.1.size:=l.out.1.blk.lt;have z:Hid (∀k,v3.da=some ⟨k,0,none⟩->w.1.size<=k):=fun k e=>by
   have c1:=bX.kids;rw[e]at c1;have:=c1.blk.1;omega
  have ca:Hid _:=l.out.2.2.2.2;clear bR cP bX Y a1 bd ac cB bx V l bn;rcases a with a|a
  rotate_left
  have bz:(tall !=(steps:Nat))=false:=by simp[a]
  have bv:0<=tall:=uA;clear a
  all_goals
   go_upto_region 17 with fail
   generalize (c.setCell ⟨g,3,none⟩ (.int .i64 (steps:Nat))).setCell ⟨nb,0,none⟩ (.int .i64 (i:Int))=ba at*;clear cv cT cz cV bl cq cS;go_wp2_with fail;go_loopw [14] (fun x wr=>x= .int .i64 0/\wr=ba) (fun _ _=>0)
   case atStart=>exact⟨rfl,rfl⟩
   case round=>
    obtain⟨rfl,bA⟩:=hrel;obtain rfl:=bA.symm;clear bA;go_upto_region 21 with fail
    clear bZ;have H:=bDr ba;have O:=a6.out.1.belowT H;have Z:=a6.out.2.2.2.below H;have cg:=a6.out.2.2.1.below H;have T:Hid (∀u:World,Blk u 176 nb (ndc v3 b)->(Instr.loadAt 176 (.pointer (some ⟨nb,0,none⟩))).run prog u= .ok (.agg (ndc v3 b).toArray) u):=fun u dW=>by
     simp only[Instr.loadAt,Instr.sureAddr,CT,C2,Result.andThen];exact DX u nb 176 176 (ndc v3 b).toArray (0,0) _ dW underlying176 rfl aD
    have cW:Fr3 g sb na w ba.drew:=a6.out.2.1.trans (Fr3.ofBelow (na:=na) H) (v7 rfl);refine az (fun u=>u.cell? ⟨g,0,none⟩=some (.slice na ns.length nc)/\(Instr.loadAt 176 (.pointer (some ⟨nb,0,none⟩))).run prog u= .ok (.agg (ndc v3 b).toArray) u) (fun k=>decide (8<=k)) vk ?_;generalize ba.drew=d at*;have cs:d.cell? ⟨g,0,none⟩=some (.slice na ns.length nc)/\(Instr.loadAt 176 (.pointer (some ⟨nb,0,none⟩))).run prog d= .ok (.agg (ndc v3 b).toArray) d:=⟨O.blk.cell 0,T.out _ Z⟩;have a2:=bAl d (.cells (ndc v3 b).toArray 176);have cA:(d.alloc (.cells (ndc v3 b).toArray 176)).cell? ⟨g,0,none⟩=some (.slice na ns.length nc)/\(Instr.loadAt 176 (.pointer (some ⟨nb,0,none⟩))).run prog (d.alloc (.cells (ndc v3 b).toArray 176))= .ok (.agg (ndc v3 b).toArray) (d.alloc (.cells (ndc v3 b).toArray 176)):=⟨(O.belowT a2).blk.cell 0,T.out _ (Z.below a2)⟩;have c3:B0<=d.1.size:=O.gB;have n:=uv O (vJ cW cg);have bg:Hid (∀u:World,Blk u 176 nb (ndc v3 b)->(Instr.loadAt 176 (.pointer (some ⟨nb,0,none⟩))).run prog u= .ok (.agg (ndc v3 b).toArray) u):=T;have ad:=uv (Z.below a2) a2;clear O cW cg Z a2 T H;refine aj 0 cs ?_;refine aj 1 cs ?_;refine aj 2 cs ?_;refine aj 3 cs ?_;refine aj 4 cs ?_;refine aM 5 (.agg (ndc v3 b).toArray) cs ?hyp5 ?_
    case hyp5=>exact fun u c4=>bo (p:= .pointer (some ⟨nb,0,none⟩)) rfl rfl c4.2
    refine ah 6 fun E m=> ?_;refine bU _ _ _ rfl (v:= .slice (some ⟨d.1.size,0,none⟩) 1 1) (w':=(d.alloc (.cells (ndc v3 b).toArray 176))) ?bsp ?_
    case bsp=>
     simp only[wB,ws,wz];exact fq eY uA (.agg (ndc v3 b).toArray) (ndc v3 b) rfl rfl d
    refine ao m ?_;clear m E;refine ah 7 fun E m=> ?_;refine gW _ _ eY rfl B0 na ns.length nc (cd nv ns) rfl n.out.1.nodes (ndc v3 b) rfl (eo _ _) rfl uA uA c3 ?_;intro R bc a5 dp cl I bk;have bB:Blk a5 176 nb (ndc v3 b):=by
     refine(I.block nb ad.out.1.lt ?_).trans ad.out.1;intro e;rcases n.out.1.nodes.2 with⟨Q,_⟩|⟨dF,ds,dD,Q,_⟩
     ·rw[Q]at e;simp[Value.ownBlock]at e
     ·rw[Q]at e;simp[Value.ownBlock]at e;simp only[D5]at Q;subst e;exact ca.out Q.1
    have b4:Blk a5 116 g _:=n.out.1.blk.keepT ((aV (bAl _ _)).trans (bD (bQ n.out.1.nodes (bAl _ _)) I uB));have cn:a5.cell? ⟨g,0,none⟩=some (.slice na ns.length nc):=b4.cell 0;refine m.out _ _ (fun _=>⟨cn,bg.out _ bB⟩) ?_;clear m E;have bS:=n.out.1.push (n.out.2.2.mono (wa _)) dp cl I;have cR:Fr3 g sb na w (a5.setCell ⟨g,0,none⟩ (.slice (some ⟨R,0,none⟩) (ns.length+1) bc)):=n.out.2.1.trans (Fr3.push n.out.1.nodes I n.out.1.blk.lt) (v7 rfl);have cX:=b4.free 0;have c5:Hid (na=some ⟨R,0,none⟩\/d.1.size<R):=bk;have bW:=uv bS cR;have d6:w.1.size<=d.1.size:=n.out.2.1.size;clear bS cR b4 dp cl I bk cA bB ad bg;refine ah 8 fun E m=> ?_;go_wp2_with fail;refine ao m ?_;clear m E;refine ah 9 fun E m=> ?_;go_wp2_with fail;refine ao m ?_;clear m E;refine ah 10 fun E m=> ?_;go_wp2_with fail;refine ao m ?_;clear m E;refine bi ?_;clear cn cX cs;generalize a5.setCell ⟨g,0,none⟩ (.slice (some ⟨R,0,none⟩) (ns.length+1) bc)=cj at*;have en:cj.cell? ⟨g,0,none⟩=some (.slice (some ⟨R,0,none⟩) (ns.length+1) bc):=(bW.out.1.blk.cell 0).trans (by simp[trc]);go_wp2_with fail;go_ret;have ab:RdQ P B0 g sb N rt (f+1) steps (i:Int) w ns nv na seen tall cj (ns.length:Nat) [b] (eA nv ns.length v3) (some ⟨R,0,none⟩) bc ((i:Int)::seen) (steps:Nat) false:=by
     refine⟨bW.out.2,bW.out.1,?_,fun j b3=>jB _ _ b3,fun j k am y c0=> ?_,?_,a7.out.2,v7 ⟨rfl,_,dr.out,rfl,?_⟩⟩
     ·rcases c5.out with h|h
      ·exact v7 h.symm
      ·exact v6 ⟨R,rfl,uA⟩
     ·have b3:j=ns.length:=by rw[wb]at y;simp at y;omega
      subst b3;rw[jA]at c0;exact z.out k c0
     ·rw[wb,w8];simp;omega
     ·rw[Rep];exact⟨ns.length,rfl,by rw[b9.out];simp⟩
    first|exact fR ab|(refine(C1 (fun x=>RdP P B0 g sb N rt (f+1) steps (i:Int) w ns nv na seen tall (.returned (.int .i64 x)) _) ?_).mp (fR ab);simp)
 ·subst o;have L:rdT P (f+1) steps ⟨seen,tall⟩ (i:Int)=none:=by
   rw[S.out,B4 bu.out];rcases q with q|q
   ·rw[q];rfl
   ·rw[q];rfl
  have G:Hid _:=B.out (-1) L;clear B C L;rcases a with a|a
  ·go_wp2_with fail;go_ret;exact fR G.out
  ·have bz:(tall !=(steps:Nat))=false:=by simp[a]
   have bv:0<=tall:=uA;clear a X;go_wp2_with fail;go_ret;exact fR G.out
theorem Cq:ElT 50 62 2 (.agg #[.string (strOfNums []),.string (strOfNums [])]) 32:=⟨underlying50,vk,rfl,uA⟩
def e0:ByteArray×ByteArray:=(strOfNums [],strOfNums [])
def enF(es:List (ByteArray×ByteArray)):Nat->List Value:=fun i=>[.string (es.getD i e0).1,.string (es.getD i e0).2]
theorem ORow.onlyN{e s B g w w' a n c f}(h:ORow e s B w a n c f)(i:OnlyB g w w')(m:g<B):ORow e s B w' a n c f:=
 h.keep (fun k b=>by
  subst b;obtain⟨l,j,d⟩:=h.blk;exact i.block k (wy.1 d).1 uA)
theorem Cr(es x i)(a:i<es.length+1):cH (enF es) es.length [.string x.1,.string x.2] i=enF (es++[x]) i:=by
 by_cases e:i=es.length
 ·subst e;rw[iJ];simp[enF]
 ·rw[jQ _ _ uA];simp[enF,List.getD,List.getElem?_append_left (show i<es.length by omega)]
def fk(w:World)(g:Nat):Nat:=match w.cell? ⟨g,0,none⟩with|some (.slice _ n _)=>n|_=>0
theorem iU{w g B l}(h:Cur w g B l):fk w g=l.length:=by
 obtain⟨a,n,c,h⟩:=h;have b:w.cell? ⟨g,0,none⟩=some (.slice a n c):=h.blk.cell 0;unfold fk;rw[b,h.bs.len_eq]
def EnP(l:List Int)(g:Nat)(w:World)(e:Ending)(w':World):Prop:=OnlyB g w w'/\((∃es a c,lfP l=some es/\es≠[]/\e= .returned (.slice a es.length c)/\ORow 62 2 w.1.size w' a es.length c (enF es))\/((lfP l=none\/lfP l=some [])/\e= .panicked bI))
theorem Cs(a b):prog.built 62 [(0,.string a),(1,.string b)]=some #[.string a,.string b]:=vk
theorem Cu(l):lfV l=lfK (l.drop (1+lfK l)):=by
 unfold lfV;generalize 1+lfK l=p;unfold lfK;simp[List.getD]
theorem Cv(g B l w)(h:Cur w g B l)(ba:B<=w.1.size)(bb:l.length<=1048576):
 Calls prog 125 #[.pointer (some ⟨g,0,none⟩)] w fun e w'=>EnP l g w e w':=by
 have a0:=h.lt;have ap:Hid _:=h;clear h;go_enter func125,ntmps125;go_wp2_with fail;go_loopw [3] (fun s wr=> ∃(a:Option Addr)(c:Nat)(es:List (ByteArray×ByteArray))(b:List Int),s= .slice a es.length c/\OnlyB g w wr/\Cur wr g B b/\ORow 62 2 w.1.size wr a es.length c (enF es)/\lfP l=(lfP b).map (es++ ·)/\es.length+b.length<=l.length) (fun _ wr=>fk wr g)
 case atStart=>exact⟨none,0,[],l,rfl,OnlyB.refl _ _,ap.out,lJ _ _ _ _ _,vo,vo⟩
 case round=>
  obtain⟨a,c,es,b,rfl,x,j,ad,K,a6⟩:=hrel;obtain⟨o,af⟩:=aa wr;subst af;have J:=iU j;have U:Hid _:=J;have f:=uv K (vJ x ad);have ag:w.1.size<=o.1.size:=x.size;clear J K x ad;by_cases G:0<es.length/\b.length=0
  ·obtain⟨d,q⟩:=G;have k:=nu g B b o j;rw[CR q]at k;have m:((es.length:Int)==0)=false:=by simp only[D2,ne_eq];omega
   have R:Hid (lfP l=some es):=by show lfP l=some es;rw[f.out.1,jg q];simp
   clear j;go_wp2_with fail;refine k.mono ?_;rintro e u ⟨rfl,z⟩;obtain rfl:=z.symm;clear z k;go_wp2_with fail;go_ret;exact⟨f.out.2.1,v7 ⟨es,a,c,R.out,fun e=>by rw[e]at d;simp at d,rfl,f.out.2.2⟩⟩
  have Y:es.length=0\/(0<es.length/\0<b.length):=uA;have p:Hid (∀w',OnlyB g o w'->ee b=false->EnP l g w (.panicked bI) w'):=fun w' x ac=>by
   refine⟨f.out.2.1.trans x,v6 ⟨?_,rfl⟩⟩;rw[f.out.1];rcases Y with e|⟨_,e⟩
   ·rw[List.length_eq_zero_iff.1 e];by_cases ak:b.length=0
    ·right;rw[jg ak];rfl
    ·left;rw[iL ak ac];rfl
   ·left;rw[iL uA ac];rfl
  rcases Y with d|⟨d,q⟩
  all_goals
   first
    |(have m:((es.length:Int)==0)=true:=(by rw[d];rfl);have a9:Hid _:=d;clear d;go_upto_region 3 with fail;clear m)
    |(have k:=nu g B b o j;rw[CP uA]at k;have m:((es.length:Int)==0)=false:=(by simp only[D2,ne_eq];omega);go_upto_region 3 with fail;refine k.mono ?_;rintro e u ⟨rfl,z⟩;obtain rfl:=z.symm;clear z k;go_upto_region 3 with fail;clear m)
   by_cases ab:¬(1<=lfK b/\lfK b<=40/\1+lfK b<=b.length)
   ·have aB:=uh g B b o j ab;have v:ee b=false:=by
     rw[<-xA,gI];omega
    clear j;go_wp2_with fail;refine aB.mono ?_;rintro e w1 ⟨rfl,C⟩;go_wp2;exact⟨rfl,p.out _ C v⟩
   obtain⟨L,M,N⟩:=Decidable.of_not_not ab;have V:=ug g B b o j L M N;clear j;go_upto_region 4 with fail
   refine V.mono ?_;rintro e w1 ⟨rfl,C,D⟩;clear V;go_upto_region 4 with fail
   have Z:(b.drop (1+lfK b)).length=b.length-(1+lfK b):=wi;have Q:lfV b=lfK (b.drop (1+lfK b)):=Cu b;by_cases ae:¬(lfK (b.drop (1+lfK b))<=70/\1+lfK (b.drop (1+lfK b))<=(b.drop (1+lfK b)).length)
   ·have aS:=AP g B _ w1 D ae;have v:ee b=false:=by
     rw[<-xA,gI];omega
    clear D;go_wp2_with fail;refine aS.mono ?_;rintro e an ⟨rfl,H⟩;go_wp2;exact⟨rfl,p.out _ (C.trans H) v⟩
   obtain⟨O,P⟩:=Decidable.of_not_not ae;have E:=AN g B _ w1 D O P;clear D;have y:ee b=true:=by rw[gI];omega
   have A:ny (b.drop (1+lfK b))=fh b:=by
    unfold ny fh;rw[Q,w7];congr 3;omega
   rw[A,w7]at E;have t:1+lfK b+(1+lfK (b.drop (1+lfK b)))=fu b:=by unfold fu;omega
   rw[t]at E;have a7:fu b<=b.length:=uA;have a8:0<fu b:=uA;have aA:Hid _:=y;clear A Q Z O P L M N t y;go_wp2_with fail;refine E.mono ?_;rintro e an ⟨rfl,H,S⟩;clear E;have n:=C.trans H;have W:=f.out.2.2.onlyN n uA;have am:w.1.size<=an.1.size:=wg ag n.size;have I:=uv S n;clear S n C H;have a4:=Cs (cU b) (fh b);go_upto_region 9 with(first|(refine tf rfl _ _ Cq rfl w.1.size a _ c (enF es) rfl W [.string (cU b),.string (fh b)] rfl (by simp[Value.oneCell']) rfl uA uA am ?_;rintro aT aX a3 F X a5))
   have a2:OnlyB g w a3:=(f.out.2.1.trans I.out.2).thenN X t6;have T:=I.out.1.belowB X uA a0;refine⟨⟨aT,aX,es++[(cU b,fh b)],b.drop (fu b),vo,a2,T,?_,?_,?_⟩,?_⟩
   ·rw[wb];exact F.congr (fun i a1=>Cr es (cU b,fh b) i a1)
   ·rw[f.out.1,nf aA.out];cases lfP (b.drop (fu b))with
    |none=>rfl
    |some r=>simp
   ·simp;omega
   ·rw[iU T,U.out];simp;omega
