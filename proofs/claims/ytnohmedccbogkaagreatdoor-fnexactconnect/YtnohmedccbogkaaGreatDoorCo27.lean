import Derived.Test.YtnohmedccbogkaaGreatDoorCo25
import Derived.Test.YtnohmedccbogkaaGreatDoorCo23
namespace Go.Proofs.YtnohmedccbogkaaGreatDoor
open Go.Proofs.Tryz
open Go.RowKit
set_option linter.unusedVariables false
set_option maxRecDepth 100000
set_option maxHeartbeats 32000000
def pgN:Tr->List Int
 | .leaf id _=>[id]
 | .node id ks=>pgN ks++[id]
 | .nil=>[]
 | .cons _ t ks=>pgN t++pgN ks
theorem l6:∀a:Tr,(pgN a).Perm (bB a)
 | .leaf _ _=>List.Perm.refl _
 | .node id ks=>by
  rw[pgN,bB];exact(List.perm_append_comm).trans ((l6 ks).cons id)
 | .nil=>List.Perm.refl _
 | .cons _ a ks=>by
  rw[pgN,bB];exact(l6 a).append (l6 ks)
def eR(L:List (ByteArray×Tr)):List Int:=L.flatMap (fun x=>pgN x.2)
theorem tL:∀ks:Tr,isT ks=false->∀b,full ks b->pgN ks=eR (aA ks)
 | .leaf _ _,h,_,_=>by simp[isT]at h
 | .node _ _,h,_,_=>by simp[isT]at h
 | .nil,_,_,_=>by simp[pgN,eR,aA]
 | .cons s c ks,_,b,a=>by
  rw[full]at a;rw[pgN,aA,tL ks a.2.2.1 false a.2.2.2.2];simp[eR]
theorem qe(b:List (ByteArray×Tr))(i)(a:i<b.length):eR (b.take (i+1))=eR (b.take i)++pgN (b.getD i t0).2:=by
 unfold eR;rw[n6 a,pv];simp[List.getD,List.getElem?_eq_getElem a]
def NVal(w:World)(v:Value)(id:Int):Prop:= ∃b ys,(v=lfI b/\Blk w 302 b (.int .i64 id::ys))\/(v=inI b/\Blk w 265 b (.int .i64 id::ys))
theorem NVal.keep{w w' v id}(h:NVal w v id)(a:∀d,d≠273->KeepT d w w'):NVal w' v id:=by
 obtain⟨b,c,⟨e,h⟩|⟨e,h⟩⟩:=h
 ·exact⟨b,c,kV ⟨e,h.keepT (a _ kN)⟩⟩
 ·exact⟨b,c,kT ⟨e,h.keepT (a _ kN)⟩⟩
theorem zU{e s B w a n c f}(h:ORow e s B w a n c f):∀k∈rb a,∃cs,w.heap[k]?=some (.cells cs e (0,0)):=by
 intro k d;rcases h.2 with⟨b,_⟩|⟨g1,i,j,b,l,g,_⟩
 ·cases b;simp[rb]at d
 ·cases b;simp[rb]at d;subst d;exact⟨_,g⟩
theorem IRep.typed{w}:∀{o:Tr}{g:List Nat}{e:List (ByteArray×Value)},IRep w o g e->∀k∈g,∃cs i,i≠273/\w.heap[k]?=some (.cells cs i (0,0))
 | .leaf id es,g,e,h=>by
  rw[IRep]at h;obtain⟨b,a,c,rfl,_,f,hr⟩:=h;intro k d;rcases l3.1 d with rfl|d
  ·exact⟨_,_,kN,f⟩
  ·obtain⟨cs,h⟩:=zU hr k d;exact⟨cs,_,kN,h⟩
 | .node id ks,g,e,h=>by
  rw[IRep]at h;obtain⟨b,a,c,n,r,rfl,_,f,hr,m⟩:=h;intro k d;rcases l3.1 d with rfl|d
  ·exact⟨_,_,kN,f⟩
  ·rcases mx.1 d with d|d
   ·obtain⟨cs,h⟩:=zU hr k d;exact⟨cs,_,kN,h⟩
   ·exact m.typed k d
 | .nil,g,e,h=>by
  rw[IRep]at h;obtain⟨rfl,_⟩:=h;intro k d;cases d
 | .cons s o ks,g,e,h=>by
  rw[IRep]at h;obtain⟨v,n,p,q,rfl,_,j,l⟩:=h;intro k d;rcases mx.1 d with d|d
  ·exact j.typed k d
  ·exact l.typed k d
theorem IRep.keepN{w w' d i e}(h:IRep w d i e)(f:∀d,d≠273->KeepT d w w'):IRep w' d i e:=
 h.keep (fun k b=>by
  obtain⟨cs,g,c,a⟩:=h.typed k b;rw[(f g c).block k cs _ a,a])
theorem IRep.kid{w}:∀(ks:Tr),isT ks=false->∀b,full ks b->∀(e:List Nat)(a:List (ByteArray×Value)),IRep w ks e a->a.length=(aA ks).length/\∀i,i<a.length->∃j,IRep w ((aA ks).getD i t0).2 j [(strOfNums [],(a.getD i k0).2)]
 | .leaf _ _,h,_,_,_,_,_=>by simp[isT]at h
 | .node _ _,h,_,_,_,_,_=>by simp[isT]at h
 | .nil,_,_,_,e,a,h=>by
  rw[IRep]at h;obtain⟨_,rfl⟩:=h;exact⟨rfl,fun i d=>absurd d (np _)⟩
 | .cons s p ks,_,b,c,e,a,h=>by
  rw[full]at c;rw[IRep]at h;obtain⟨v,o,f,g,_,rfl,k,l⟩:=h;obtain⟨n,m⟩:=IRep.kid ks c.2.2.1 false c.2.2.2.2 g o l;refine⟨by simp[aA,n],fun i d=> ?_⟩;cases i with
  |zero=>exact⟨f,k⟩
  |succ i=>exact m i (by simpa using d)
theorem zV:ElT 277 273 1 .nilIface 16:=⟨underlying277,kO,rfl,kH⟩
theorem KG(p w):(Go.method 482 299 p "loop.example/s01906/impl.nodes").run prog w= .ok (280,p) w:=kO
theorem KH(p w):(Go.method 482 260 p "loop.example/s01906/impl.nodes").run prog w= .ok (271,p) w:=kO
theorem zW:(prog.info? 276).map (·.size)=some 2:=kO
theorem qg{a:Type}{l m:List a}{i d}(h:i<l.length):(l++m).getD i d=l.getD i d:=by simp[List.getD,List.getElem?_append_left h]
structure NsQ(B:Nat)(w:World)(a:Option Addr)(n:Nat)(xs:List Value)(ids:List Int)(a':Option Addr)(c':Nat)(vals:List Value)(w':World):Prop where
 own:Own1 273 B w' a' (n+vals.length) c' (xs++vals)
 fr:OnlyS (fun k=>k∈rb a) w w'
 low:∀k∈rb a',k<w.1.size->k∈rb a
 keep:∀t,t≠273->KeepT t w w'
 len:vals.length=ids.length
 nv:∀i,i<vals.length->NVal w' (vals.getD i undef) (ids.getD i 0)
def NsP(B:Nat)(w:World)(a:Option Addr)(n:Nat)(xs:List Value)(ids:List Int)(e:Ending)(w':World):Prop:=
 ∃a' c' vals,e= .returned (.slice a' (n+vals.length) c')/\NsQ B w a n xs ids a' c' vals w'
def NsC(t:Tr):Prop:= ∀(v:Value)(G:List Nat)(w:World)(B:Nat)(a:Option Addr)(n c:Nat)(xs:List Value),IRep w t G [(strOfNums [],v)]->Own1 273 B w a n c xs->B<=w.1.size->n+(pgN t).length<=1048576->
 ∃ty p fn,v= .iface ty (.pointer p)/\(∀u,(Go.method 482 ty (.pointer p) "loop.example/s01906/impl.nodes").run prog u= .ok (fn,.pointer p) u)/\(∀args u,(callFunc fn args).run prog u= .ok (.enter fn args) u)/\Calls prog fn #[.pointer p,.slice a n c] w (NsP B w a n xs (pgN t))
theorem NsQ.one{B w wr a m n p xs b l}(h:NsQ B w a n xs l m p b wr){v id}(z:NVal wr v id){g r w'}(y:Own1 273 B w' (some ⟨g,0,none⟩) (n+b.length+1) r (xs++b++[v]))(t:(wr.alloc (.cells #[v] 273)).grownBy w' (Value.slice m (n+b.length) p).ownBlock)(s:m=some ⟨g,0,none⟩\/wr.1.size<g):NsQ B w a n xs (l++[id]) (some ⟨g,0,none⟩) r (b++[v]) w':=by
 have q:=bAl wr (.cells #[v] 273);have c:∀o,o≠273->KeepT o wr w':=fun o f=>(aW q).trans (bJ (cj h.own q) t (s8 f));have A:=h.fr.size;refine⟨?_,(h.fr.trans (OnlyS.ofBelow q)).transN (OnlyS.ofGrown t) (fun k c e=>h.low k (nh k e) c),?_,fun o f=>(h.keep o f).trans (c o f),by simp[h.len],?_⟩
 ·rw[kY,<-k5];exact y
 ·intro k j x;simp[rb]at j;subst j;rcases s with e|e
  ·exact h.low _ (by rw[e];simp[rb]) x
  ·omega
 ·intro i u;by_cases d:i<b.length
  ·have:=(h.nv i d).keep c;rw[qg d,qg (by rw[<-h.len];exact d)];exact this
  ·have e:i=b.length:=by rw[kY]at u;simp at u;omega
   subst e;have:=z.keep c;simpa [List.getD,h.len]using this
theorem KI(id es):NsC (.leaf id es):=by
 intro v E w B a n c xs hr m r u;rw[IRep]at hr;obtain⟨b,y,C,rfl,o,d,_⟩:=hr;have p:v=lfI b:=by simpa using o
 subst p;refine⟨_,_,280,rfl,KG _,fun _ _=>rfl,?_⟩;have e:NVal w (lfI b) id:=⟨b,_,kV ⟨rfl,d⟩⟩;have j:NsQ B w a n xs [] a c [] w:=⟨by simpa using m,OnlyS.refl _ _,fun k t _=>t,fun _ _=>KeepT.refl _ _,rfl,fun i s=>absurd s (np _)⟩;have f:=kG j e;have l:n<=1048576:=kH;clear j e u d o;go_enter func280,ntmps280;go_wp2_with (at_builtin;refine i5 rfl _ _ zV rfl B a n c xs rfl m (lfI b) rfl rfl l kH r ?_);intro g A D x z q h;go_wp2;go_ret;exact⟨_,_,[lfI b],rfl,f.out.1.one f.out.2 (by simpa using x) q h⟩
theorem zX(b n)(h:∀i,i<n->(b.getD i k0).2.oneCell'=true):IsRow 2 (kdF b) n:=⟨fun _ _=>rfl,fun i c d a=>by simp[kdF]at a;rcases a with rfl|rfl;rfl;exact h i c⟩
theorem KJ:∀a:Tr,isT a=true->1<=(pgN a).length
 | .leaf _ _,_=>by simp[pgN]
 | .node _ _,_=>by simp[pgN]
 | .nil,h=>by simp[isT]at h
 | .cons _ _ _,h=>by simp[isT]at h
theorem zZ:∀ks:Tr,isT ks=false->∀b,full ks b->(aA ks).length<=(pgN ks).length
 | .leaf _ _,h,_,_=>by simp[isT]at h
 | .node _ _,h,_,_=>by simp[isT]at h
 | .nil,_,_,_=>by simp[aA]
 | .cons s e ks,_,b,a=>by
  rw[full]at a;have c:=KJ e a.2.1;have d:=zZ ks a.2.2.1 false a.2.2.2.2;rw[pgN,aA,kY,m1];omega
theorem l8(a i):(eR (a.take i)).length<=(eR a).length:=by
 have e:eR a=eR (a.take i)++eR (a.drop i):=by
  unfold eR;rw[<-pv,List.take_append_drop]
 rw[e,kY];omega
theorem NsQ.trans{B w wr m w' a o p n u r xs b c j d}(h:NsQ B w a n xs j o u b wr)(q:Below wr.1.size wr m)(f:NsQ B m o (n+b.length) (xs++b) d p r c w'):NsQ B w a n xs (j++d) p r (b++c) w':=by
 have D:=h.fr.size;have C:=q.size;refine⟨?_,(h.fr.trans (OnlyS.ofBelow q)).transN f.fr (fun k l e=>h.low k e l),fun k l s=>h.low k (f.low k l kH) s,fun A t=>((h.keep A t).trans (aW q)).trans (f.keep A t),by rw[kY,kY,h.len,f.len],?_⟩
 ·rw[kY,<-k5,<-oK];exact f.own
 ·intro i z;by_cases g:i<b.length
  ·have:=((h.nv i g).keep (fun A _=>aW q)).keep f.keep;rw[qg g,qg (by rw[<-h.len];exact g)];exact this
  ·have y:=f.nv (i-b.length) (by rw[kY]at z;omega);have v:(b++c).getD i undef=c.getD (i-b.length) undef:=by simp[List.getD,List.getElem?_append_right (Nat.le_of_not_lt g)]
   have x:(j++d).getD i 0=d.getD (i-b.length) 0:=by rw[h.len];simp[List.getD,List.getElem?_append_right (show j.length<=i by have:=h.len;omega)]
   rw[v,x];exact y
theorem KL(id ks)(N:isT ks=false)(E)(O:full ks E)(ac:∀i,i< (aA ks).length->NsC ((aA ks).getD i t0).2):NsC (.node id ks):=by
 intro v bx w B a n c xs hr aH bw aw;rw[IRep]at hr;obtain⟨b,af,ak,f,a6,rfl,Q,o,aS,J⟩:=hr;have a0:v=inI b:=by simpa using Q
 subst a0;obtain⟨bq,q⟩:=J.kid ks N E O a6 f;refine⟨_,_,271,rfl,KH _,fun _ _=>rfl,?_⟩;have Z:pgN (.node id ks)=eR (aA ks)++[id]:=by rw[pgN,tL ks N E O]
 rw[Z]at aw ⊢;rw[kY,oB]at aw;have am:=zZ ks N E O;rw[tL ks N E O]at am;generalize aA ks=M at*;have bt:w.cell? ⟨b,1,none⟩=some (.slice af f.length ak):=o.cell 1;have an:NsQ B w a n xs (eR (M.take 0)) a c [] w:=⟨by simpa using aH,OnlyS.refl _ _,fun k bg _=>bg,fun _ _=>KeepT.refl _ _,rfl,fun i P=>absurd P (np _)⟩;have a7:Hid _:=an;have F:∀i,i<f.length->(f.getD i k0).2.oneCell'=true:=fun i P=>by
  obtain⟨ab,h⟩:=q i P;obtain⟨t,p,bd,e,_⟩:=ac i kH _ ab w 0 none 0 0 [] h (ew _ _ _) (kX _) (by have:=qe M i kH;have be:=l8 M (i+1);rw[this,kY]at be;omega);rw[e]
  rfl
 have m:=kG o (kR aS (kR q (kR ac F)));have bj:f.length<=1048576:=kH;clear an o aS q ac aH Q Z J F;go_enter func271,ntmps271;go_wp2_with fail;go_loopw [1,12] (fun bk a4 wr=> ∃(i:Nat)(A:Option Addr)(C:Nat)(d:List Value),bk= .slice A (n+d.length) C/\a4= .int .i64 (i:Nat)/\i<=f.length/\NsQ B w a n xs (eR (M.take i)) A C d wr) (fun _ s _=>f.length-(intOf s).toNat)
 case atStart=>exact⟨0,a,c,[],rfl,rfl,kX _,a7.out⟩
 case round=>
  obtain⟨i,A,C,d,rfl,rfl,P,l⟩:=hrel;obtain⟨g,rfl⟩:∃x,x=wr:=⟨_,rfl⟩;have K:=l.len;have bs:=l.fr.size;by_cases Y:i<f.length
  ·have bh:(i:Int)< (f.length:Int):=kH;have H:=qe M i kH;have aO:=l8 M (i+1);have aX:=l8 M i;rw[H,kY]at aO;have I:ORow 276 2 0 g af f.length ak (kdF f):=dL m.out.2.1 (l.keep _ kN);obtain⟨a2,rfl,_,bp⟩:=ip I kH;have y:=fun j v Q=>(I.reads (zX f _ m.out.2.2.2.2)).cells i Y j v Q;rw[show kdF f i=[.string (f.getD i k0).1,(f.getD i k0).2]from rfl]at y;obtain⟨ab,V⟩:=m.out.2.2.1 i Y;have S:=m.out.2.2.2.1 i kH;generalize f.getD i k0=bc at*;obtain⟨r,bl⟩:=bc;have L:=bAl g (.cells #[.string r,bl] 276);obtain⟨t,p,bd,bi,a5,bf,u⟩:=S bl ab (g.alloc (.cells #[.string r,bl] 276)) B A (n+d.length) C (xs++d) ((V.keepN l.keep).below L) (l.own.below L) (by have:=L.size;omega) (by rw[K];omega);subst bi;have ah:g.cell? ⟨a2,i*2,none⟩=some (.string r):=by have:=y 0 _ rfl;simpa using this
   have ai:g.cell? ⟨a2,i*2+1,none⟩=some (.iface t (.pointer p)):=by have:=y 1 _ rfl;simpa using this
   have a1:=ao g 276 #[.string r,.iface t (.pointer p)];have z:=kG l (kR L H);clear y V S I l L H m K;go_upto_region 4 with(first|(refine aL rfl 276 _ _ rfl g #[.string (strOfNums []),.nilIface] #[.string r,.iface t (.pointer p)] 276 rfl rfl zW rfl rfl ?_))
   change Code.wp _ _ _ _ (g.alloc (.cells #[.string r,.iface t (.pointer p)] 276));generalize g.alloc (.cells #[.string r,.iface t (.pointer p)] 276)=a8 at*;generalize ap:g.1.size=bb at*;have bu:a8.cell? ⟨bb,1,none⟩=some (.iface t (.pointer p)):=Blk.cell a1 1;clear a1 ah ai;go_wp2_with fail;refine u.mono ?_;rintro e bn ⟨a9,ag,R,rfl,X⟩;have ad:=z.out.1.trans (by rw[ap];exact z.out.2.1) X;rw[<-z.out.2.2]at ad;have D:Hid _:=ad;clear u X ad;go_wp2_with fail;go_roundw
   case rel=>exact⟨i+1,a9,ag,d++R,by rw[kY,oK],by go_num,kH,D.out⟩
   case measure=>simp[intOf];omega
  ·have ar:i=M.length:=kH;have G:=l.own;have W:NVal g (inI b) id:=⟨b,_,kT ⟨rfl,m.out.1.keepT (l.keep _ kN)⟩⟩;have z:Hid (NsQ B w a n xs (eR M) A C d g/\NVal g (inI b) id):=⟨by have:=l;rw[ar,ox]at this;exact this,W⟩;have aX:=l8 M i;have ae:n+d.length<=1048576:=kH;clear l W m K;go_wp2_with (at_builtin;refine i5 rfl _ _ zV rfl B A (n+d.length) C (xs++d) rfl G (inI b) rfl rfl ae kH kH ?_);intro bv ag bn a3 ba U T;have D:Hid _:=z.out.1.one z.out.2 (by rw[k5];exact a3) U T;clear a3 ba U T G;go_wp2_with fail;go_ret;exact⟨_,_,d++[inI b],by rw[kY];rfl,D.out⟩
theorem qh:∀c:Tr,(isT c=true->full c true->NsC c)/\(isT c=false->∀b,full c b->∀i,i< (aA c).length->NsC ((aA c).getD i t0).2)
 | .leaf id es=>⟨fun _ _=>KI id es,fun h=>by simp[isT]at h⟩
 | .node id ks=>⟨fun _ a=>by
  rw[full]at a;have e:isT ks=false:=by obtain⟨s,c,r,rfl⟩:=a.1;rfl
  exact KL id ks e true a.2 ((qh ks).2 e true a.2),fun h=>by simp[isT]at h⟩
 | .nil=>⟨fun h=>by simp[isT]at h,fun _ _ _ i d=>by simp[aA]at d⟩
 | .cons s c ks=>⟨fun h=>by simp[isT]at h,fun _ b a i d=>by
  rw[full]at a;cases i with
  |zero=>exact(qh c).1 a.2.1 a.2.2.2.1
  |succ i=>exact(qh ks).2 a.2.2.1 false a.2.2.2.2 i (by simpa [aA]using d)⟩
def eF(s:ByteArray):Prop:=s.size=13/\(nb s).getD 7 0=0/\(nb s).getD 12 0<=1/\1<=low ((nb s).take 7)/\low ((nb s).take 7)<=1000000000000/\low (((nb s).drop 8).take 4)<=1000000
instance (s:ByteArray):Decidable (eF s):=by unfold eF;infer_instance
def co0:List Value:=[.int .i64 0,.int .i64 0,.bool false]
def coC(s:ByteArray):List Value:=if eF s then [.int .i64 (low ((nb s).take 7)),.int .i64 (low (((nb s).drop 8).take 4)),.bool ((nb s).getD 12 0==1)]else co0
theorem tM{s}(h:eF s):coC s=[.int .i64 (low ((nb s).take 7)),.int .i64 (low (((nb s).drop 8).take 4)),.bool ((nb s).getD 12 0==1)]/\decide (eF s)=true:=⟨qb h,q6 h⟩
theorem l9{s}(h:¬eF s):coC s=co0/\decide (eF s)=false:=⟨q4 h,q5 h⟩
theorem tN(s):∃a b c,coC s=[.int .i64 a,.int .i64 b,.bool c]:=by
 unfold coC;split
 ·exact⟨_,_,_,rfl⟩
 ·exact⟨0,0,false,rfl⟩
theorem dV:(prog.info? 48).map (·.size)=some 3:=kO
theorem tO:prog.built 48 []=some #[.int .i64 0,.int .i64 0,.bool false]:=kO
theorem tP(a b c):prog.built 48 [(0,.int .i64 a),(1,.int .i64 b),(2,.bool c)]=some #[.int .i64 a,.int .i64 b,.bool c]:=kO
def coS(u:World)(g:Nat)(x y z:Value):World:=((u.setCell ⟨g,0,none⟩ x).setCell ⟨g,1,none⟩ y).setCell ⟨g,2,none⟩ z
structure CoE(w u:World)(g:Nat):Prop where
 c0:u.cell? ⟨g,0,none⟩=some (.int .i64 0)
 c1:u.cell? ⟨g,1,none⟩=some (.int .i64 0)
 c2:u.cell? ⟨g,2,none⟩=some (.bool false)
 f0:u.frozen? ⟨g,0,none⟩=false
 f1:u.frozen? ⟨g,1,none⟩=false
 f2:u.frozen? ⟨g,2,none⟩=false
 fin:∀x y z,Below w.1.size w (coS u g x y z)/\Blk (coS u g x y z) 48 g [x,y,z]
theorem ma{w c h g}(k0:Blk c 48 g co0)(e:Below w.1.size w c)(d:w.1.size<=g)(b:Below c.1.size c h):CoE w h g:=by
 have a:=k0.below b;have f:=e.trans (b.mono e.size);refine⟨a.cell 0,a.cell 1,a.cell 2,a.free 0,a.free 1,a.free 2,fun x y z=>⟨?_,?_⟩⟩
 ·exact((f.setCell (p:=⟨g,0,none⟩) d x).setCell (p:=⟨g,1,none⟩) d y).setCell (p:=⟨g,2,none⟩) d z
 ·exact((a.set 0 x).set 1 y).set 2 z
theorem KM(x w):Calls prog 98 #[.int .i64 x] w fun e w'=>e= .returned (.bool (decide (1<=x/\x<=1000000000000)))/\w'=w:=by
 by_cases c:1<=x
 ·by_cases d:x<=1000000000000
  ·have a:Hid (decide (1<=x/\x<=1000000000000)=true):=by show decide _=true;simp[c,d]
   generalize decide (1<=x/\x<=1000000000000)=b at*;go_enter func98,ntmps98;go_wp2_with fail;go_ret;exact⟨by rw[a.out];rfl,rfl⟩
  ·have a:Hid (decide (1<=x/\x<=1000000000000)=false):=by show decide _=false;simp[d]
   generalize decide (1<=x/\x<=1000000000000)=b at*;go_enter func98,ntmps98;go_wp2_with fail;go_ret;exact⟨by rw[a.out];rfl,rfl⟩
 ·have a:Hid (decide (1<=x/\x<=1000000000000)=false):=by show decide _=false;simp[c]
  generalize decide (1<=x/\x<=1000000000000)=b at*;go_enter func98,ntmps98;go_wp2_with fail;go_ret;exact⟨by rw[a.out];rfl,rfl⟩
theorem KQ(x)(d:0<=x)(w):Calls prog 99 #[.int .i64 x] w fun e w'=>e= .returned (.bool (decide (x<=1000000)))/\w'=w:=by
 by_cases b:x<=1000000
 ·have a:Hid (decide (x<=1000000)=true):=by show decide _=true;simp[b]
  generalize decide (x<=1000000)=c at*;go_enter func99,ntmps99;go_wp2_with fail;go_ret;exact⟨by rw[a.out];rfl,rfl⟩
 ·have a:Hid (decide (x<=1000000)=false):=by show decide _=false;simp[b]
  generalize decide (x<=1000000)=c at*;go_enter func99,ntmps99;go_wp2_with fail;go_ret;exact⟨by rw[a.out];rfl,rfl⟩
theorem KS(s w):
 Calls prog 53 #[.string s] w fun e w'=>e= .returned (.tuple #[.agg (coC s).toArray,.bool (decide (eF s))])/\Below w.1.size w w':=by
 have k0:Blk (w.alloc (.cells #[.int .i64 0,.int .i64 0,.bool false] 48)) 48 w.1.size co0:=ao w 48 co0.toArray;have an:=bAl w (.cells #[.int .i64 0,.int .i64 0,.bool false] 48);go_enter func53,ntmps53;go_upto_region 1 with fail
 generalize w.alloc (.cells #[.int .i64 0,.int .i64 0,.bool false] 48)=d at*;have W:Hid (∀a6,Below d.1.size d a6->CoE w a6 w.1.size):=fun a6 b=>ma k0 an kE b;clear k0 an;by_cases k:¬s.size=13
 ·have N:¬(s.size:Int)=13:=kH;have f:Hid _:=l9 (s:=s) (fun h=>k h.1);have V:=W.out d kF;have c:Hid _:=V;obtain⟨aX,a0,a1,a2,f1,a3,_⟩:=V;clear k;have aH:=tO;go_wp2_with fail;refine p6 (v:= .tuple #[.agg co0.toArray,.bool false]) ?_ rfl ⟨by rw[f.out.1,f.out.2],(c.out.fin _ _ _).1⟩;exact bA results53 _ _ w.1.size 48 co0.toArray _ rfl (c.out.fin _ _ _).2 r4 rfl dV rfl
 have k:s.size=13:=kH;have N:(s.size:Int)=13:=kH;have ah:=jc s d;have O:=jd s d;have a8:=ri s d;have E:=je s d kH;rw[k]at ah E;generalize grownCap d 13 0 5=B at*;generalize Go.Lib.bytesWorld d 5 s=n at*;have P:=bAl n (.cells #[.slice (some ⟨d.1.size,0,none⟩) 13 B] 162);have ag:=ao n 162 #[.slice (some ⟨d.1.size,0,none⟩) 13 B];have ac:Cur (n.alloc (.cells #[.slice (some ⟨d.1.size,0,none⟩) 13 B] 162)) n.1.size n.1.size (nb s):=⟨some ⟨d.1.size,0,none⟩,13,B,⟨ag,E.below P,E.blt⟩⟩;have K:(nb s).length=13:=by rw[gd,k]
 have H:Hid _:=O.trans (P.mono O.size);have D:=kG k K;have ba:d.1.size<n.1.size:=kH;have ab:=iu n.1.size n.1.size (nb s) 8 _ ac kH kH;clear k O P ag ac E a8 K;go_upto_region 4 with fail
 generalize n.alloc (.cells #[.slice (some ⟨d.1.size,0,none⟩) 13 B] 162)=bd at*;generalize n.1.size=g at*;clear ah;go_wp2_with fail;refine ab.mono ?_;rintro e ap ⟨b,off,aO,rfl,ai,S,Z,_,_,_⟩;have Y:=vo _ aO _ ap Z;have X:=om g g ((nb s).drop 8) ap S (by rw[k3,D.out.2];omega);have ar:Hid _:=ai;clear ab ai S Z;obtain⟨t,C⟩:=od (l:=(nb s).take 8) (dR (jB s) 8) (by rw[lw,D.out.2];rfl);have L:((nb s).take 8).getD 7 0=(nb s).getD 7 0:=by simp[List.getD]
 have J:((nb s).take 8).take 7=(nb s).take 7:=by rw[List.take_take];rfl
 rw[L,J]at t;rw[L]at C;have ae:=(gG (dR (ff (jB s) 8) 4)).1;have I:((((nb s).drop 8).drop 4).getD 0 0)=(nb s).getD 12 0:=by simp[List.getD]
 have G:Hid _:=fun w bc=>mE g g (((nb s).drop 8).drop 4) w bc (by rw[k3,k3,D.out.2];omega);rw[I]at G;have a9:=(jB s) 12;have j:Hid (1<=fh ((nb s).take 8)->fh ((nb s).take 8)<=1000000000000->low (((nb s).drop 8).take 4)<=1000000->(nb s).getD 12 0<=1->coC s=[.int .i64 (fh ((nb s).take 8)),.int .i64 (low (((nb s).drop 8).take 4)),.bool ((nb s).getD 12 0==1)]/\decide (eF s)=true):=fun be bf a4 a5=>by
  have ad:(nb s).getD 7 0=0:=by
   by_cases p:(nb s).getD 7 0=0
   ·exact p
   ·have:=C p;omega
  have M:=t ad;rw[M];exact tM ⟨D.out.1,ad,a5,kH,kH,a4⟩
 have i:Hid (¬(1<=fh ((nb s).take 8)/\fh ((nb s).take 8)<=1000000000000/\low (((nb s).drop 8).take 4)<=1000000/\(nb s).getD 12 0<=1)->coC s=co0/\decide (eF s)=false):=fun h=>l9 (fun p=>h (by
  have M:=t p.2.1;rw[M];exact⟨p.2.2.2.1,p.2.2.2.2.1,p.2.2.2.2.2,p.2.2.1⟩))
 clear t C L J I;generalize fh ((nb s).take 8)=x at*;generalize low (((nb s).drop 8).take 4)=y at*;generalize (nb s).getD 12 0=z at*;go_wp2_with fail;refine Y.mono ?_;rintro e bb ⟨rfl,a⟩;obtain rfl:=a.symm;clear a Y;go_wp2_with fail;refine X.mono ?_;rintro e a7 ⟨rfl,ak,T⟩;have U:=G.out a7 T;have aw:Hid _:=ar.out.trans ak;clear X ak T;go_wp2_with fail;refine U.mono ?_;rintro e Q ⟨rfl,am,_⟩;have R:=H.out.trans ((aw.out.trans am).below kH H.out.size);have V:=W.out Q R;have c:Hid _:=V;obtain⟨aX,a0,a1,a2,f1,a3,_⟩:=V;clear U am R;have m:=KM x Q;have o:=KQ y ae Q;have aH:=tO;by_cases hx:1<=x/\x<=1000000000000
 ·have q:decide (1<=x/\x<=1000000000000)=true:=by simp[hx]
  rw[q]at m;by_cases r:y<=1000000
  ·have u:decide (y<=1000000)=true:=by simp[r]
   rw[u]at o;by_cases F:z<=1
   ·have f:Hid _:=j.out hx.1 hx.2 r F;have af:¬1<z:=kH;clear j i hx r F q u;go_wp2_with fail;refine m.mono ?_;rintro e A ⟨rfl,a⟩;obtain rfl:=a.symm;clear a m;go_wp2_with fail;refine o.mono ?_;rintro e A ⟨rfl,a⟩;obtain rfl:=a.symm;clear a o;go_wp2_with fail;refine p6 (v:= .tuple #[.agg #[.int .i64 x,.int .i64 y,.bool (z==1)],.bool true]) ?_ rfl ⟨by rw[f.out.1,f.out.2],(c.out.fin _ _ _).1⟩;exact bA results53 _ _ w.1.size 48 #[.int .i64 x,.int .i64 y,.bool (z==1)] _ rfl (c.out.fin _ _ _).2 r4 rfl dV rfl
   ·have f:Hid _:=i.out (fun h=>F h.2.2.2);have af:1<z:=kH;clear j i hx r F q u;go_wp2_with fail;refine m.mono ?_;rintro e A ⟨rfl,a⟩;obtain rfl:=a.symm;clear a m;go_wp2_with fail;refine o.mono ?_;rintro e A ⟨rfl,a⟩;obtain rfl:=a.symm;clear a o;go_wp2_with fail;refine p6 (v:= .tuple #[.agg co0.toArray,.bool false]) ?_ rfl ⟨by rw[f.out.1,f.out.2],(c.out.fin _ _ _).1⟩;exact bA results53 _ _ w.1.size 48 co0.toArray _ rfl (c.out.fin _ _ _).2 r4 rfl dV rfl
  ·have f:Hid _:=i.out (fun h=>r h.2.2.1);have u:decide (y<=1000000)=false:=by simp[r]
   rw[u]at o;clear j i hx r q u;go_wp2_with fail;refine m.mono ?_;rintro e A ⟨rfl,a⟩;obtain rfl:=a.symm;clear a m;go_wp2_with fail;refine o.mono ?_;rintro e A ⟨rfl,a⟩;obtain rfl:=a.symm;clear a o;go_wp2_with fail;refine p6 (v:= .tuple #[.agg co0.toArray,.bool false]) ?_ rfl ⟨by rw[f.out.1,f.out.2],(c.out.fin _ _ _).1⟩;exact bA results53 _ _ w.1.size 48 co0.toArray _ rfl (c.out.fin _ _ _).2 r4 rfl dV rfl
 ·have f:Hid _:=i.out (fun h=>hx ⟨h.1,h.2.1⟩);have q:decide (1<=x/\x<=1000000000000)=false:=by simp[hx]
  rw[q]at m;clear j i hx q o;go_wp2_with fail;refine m.mono ?_;rintro e A ⟨rfl,a⟩;obtain rfl:=a.symm;clear a m;go_wp2_with fail;refine p6 (v:= .tuple #[.agg co0.toArray,.bool false]) ?_ rfl ⟨by rw[f.out.1,f.out.2],(c.out.fin _ _ _).1⟩;exact bA results53 _ _ w.1.size 48 co0.toArray _ rfl (c.out.fin _ _ _).2 r4 rfl dV rfl
