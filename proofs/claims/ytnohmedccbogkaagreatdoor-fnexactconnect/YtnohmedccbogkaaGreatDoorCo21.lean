import Derived.Test.YtnohmedccbogkaaGreatDoorCo20
namespace Go.Proofs.YtnohmedccbogkaaGreatDoor
open Go.Proofs.Tryz
open Go.RowKit
set_option linter.unusedVariables false
set_option maxRecDepth 100000
set_option maxHeartbeats 32000000
section
structure BsT(w:World)(a:Option Addr)(n c:Nat)(l:List Int):Prop where
 bs:Bs w a n c l
 ty:0<n->∃b off cs fr,a=some ⟨b,off,none⟩/\w.heap[b]?=some (.cells cs 5 fr)
theorem BsT.keep{w w' a n c l}(h:BsT w a n c l)(m:KeepT 5 w w'):BsT w' a n c l:=
 ⟨⟨h.bs.len_eq,h.bs.le,h.bs.le',h.bs.nil,fun j=>by
  obtain⟨b,off,e,q,o⟩:=h.bs.at_ j;obtain⟨k,d,cs,fr,f,g⟩:=h.ty j;rw[e]at f;cases f;exact⟨b,off,e,lk q m.size,fun i p=>(r8 (w:=w) ((m.block b cs fr g).trans g.symm)).trans (o i p)⟩,h.bs.byte⟩,fun j=>by
  obtain⟨k,d,cs,fr,f,g⟩:=h.ty j;exact⟨k,d,cs,fr,f,m.block k cs fr g⟩⟩
def jR(P:Pg)(S:World->Prop)(X:Nat->Prop)(u:World)(id:Int)(e:Ending)(w':World):Prop:=
 S w'/\OnlyS X u w'/\((P.ok id=true/\∃a c,e= .returned (.tuple #[.int .i64 (P.kd id),.slice a (P.bd id).length c,.nilIface])/\BsT w' a (P.bd id).length c (P.bd id))\/
  (P.ok id=false/\∃(k:Int)(a:Option Addr)(n c:Nat)(ad:Addr),e= .returned (.tuple #[.int .i64 k,.slice a n c,errV ad])))
structure Src(P:Pg)(B0 ty fn:Nat)(v:Value)(S:World->Prop)(X:Nat->Prop):Prop where
 low:∀k,X k->k<B0
 meth:∀w,(Go.method 482 ty v "loop.example/s01906/impl.page").run prog w= .ok (fn,v) w
 ent:∀args w,(callFunc fn args).run prog w= .ok (.enter fn args) w
 keep:∀u u',S u->Below B0 u u'->KeepT 5 u u'->S u'
 page:∀u id,S u->0<=id->id<4294967296->Calls prog fn #[v,.int .i64 id] u (jR P S X u id)
structure Wk(S:World->Prop)(B0 g m N:Nat)(src:Value)(w:World)(st:St)(x:LSg):Prop where
 blk:Blk w 271 g (wkc src m st.tall x)
 set:SetI w m st.seen
 src:S w
 gB:B0<=g
 mB:B0<=m
 ok:SeenOk st.seen N
theorem JK{P k f}{w w':World}{b n}{e:DataW Nat}(h:w.ownsMap P k f b n e)(d:w'.heap[b]?=w.heap[b]?):w'.ownsMap P k f b n e:=by
 obtain⟨es,a,c,r⟩:=h;exact⟨es,a,d.trans c,r⟩
theorem SetI.lt{w m seen}(h:SetI w m seen):m<w.1.size:=by obtain⟨a,h,_⟩:=h;exact h.lt
theorem SetI.same{w w' m seen}(h:SetI w m seen)(c:w'.heap[m]?=w.heap[m]?):SetI w' m seen:=by
 obtain⟨d,a,b⟩:=h;exact⟨d,JK a c,b⟩
theorem SetI.obj{w m seen}(h:SetI w m seen):∃es c,w.heap[m]?=some (.map es c):=by
 obtain⟨d,⟨es,a,b,_⟩,_⟩:=h;exact⟨es,a,b⟩
variable {S:World->Prop} {X:Nat->Prop} {B0 g m N ty fn:Nat} {src v:Value} {P:Pg} {st:St} {x:LSg} {w w':World}
theorem Wk.gm(h:Wk S B0 g m N src w st x):g≠m:=by
 intro e;subst e;obtain⟨es,c,b⟩:=h.set.obj;have a:=h.blk;unfold Blk at a;rw[b]at a;cases a
theorem Wk.keep(b:Src P B0 ty fn v S X)(h:Wk S B0 g m N src w st x){Z}(a:OnlyS Z w w')(c:¬Z g)(e:¬Z m)(f:∀k,Z k->B0<=k)(d:KeepT 5 w w'):Wk S B0 g m N src w' st x:=
 ⟨h.blk.onlyS a c,h.set.same (a.block m h.set.lt e),b.keep w w' h.src (a.below (by have:=h.blk.lt;have:=h.gB;omega) f) d,h.gB,h.mB,h.ok⟩
theorem Wk.below(b:Src P B0 ty fn v S X)(h:Wk S B0 g m N src w st x)(a:Below w.1.size w w'):Wk S B0 g m N src w' st x:=
 h.keep b (Z:=fun _=>False) (OnlyS.ofBelow a) (fun e=>e) (fun e=>e) (fun _ e=>e.elim) (aW a)
theorem Wk.ofPage(h:Wk S B0 g m N src w st x)(c:S w')(b:OnlyS X w w')(a:∀k,X k->k<B0):Wk S B0 g m N src w' st x:=
 ⟨h.blk.onlyS b (fun e=>by have:=a _ e;have:=h.gB;omega),h.set.same (b.block m h.set.lt (fun e=>by have:=a _ e;have:=h.mB;omega)),c,h.gB,h.mB,h.ok⟩
theorem Wk.put(f:Src P B0 ty fn v S X)(h:Wk S B0 g m N src w st x){a d}(b:OnlyB g w w')(i:Blk w' 271 g (wkc src m a.tall d))(c:a.seen=st.seen):Wk S B0 g m N src w' a d:=
 ⟨i,by rw[c];exact h.set.same (b.block m h.set.lt (s8 h.gm)),f.keep w w' h.src (OnlyS.below (OnlyS.ofB b) (by have:=h.blk.lt;have:=h.gB;omega) (fun k e=>by subst e;exact h.gB)) (aV b h.blk kN),h.gB,h.mB,by rw[c];exact h.ok⟩
theorem zl{f m w w' es c}(b:w.grownBy w' (some m))(d:w.heap[m]?=some (.map es c)):KeepT f w w':=
 ⟨b.size,fun k cs fr a=>by
  rw[b.block k (k6.1 a).1 (fun e=>by cases e;rw[d]at a;cases a)];exact a⟩
theorem Wk.see(d:Src P B0 ty fn v S X)(h:Wk S B0 g m N src w st x){id}(f:0<=id)(i:id< (N:Int))(j:id∉st.seen)(n:SetI w' m (id::st.seen))(a:w.grownBy w' (some m)):Wk S B0 g m N src w' ⟨id::st.seen,st.tall⟩ x:=by
 obtain⟨es,c,l⟩:=h.set.obj;have b:=OnlyS.ofGrown a;exact⟨h.blk.onlyS b (fun e=>by cases e;exact h.gm rfl),n,d.keep w w' h.src (b.below (by have:=h.blk.lt;have:=h.gB;omega) (fun k e=>by cases e;exact h.mB)) (zl a l),h.gB,h.mB,h.ok.cons f i j⟩
end
section
def NdP(P:Pg)(S:World->Prop)(X:Nat->Prop)(B0 g m N:Nat)(src:Value)(f steps:Nat)(st:St)(x:LSg)(id:Int)(w:World)(e:Ending)(w':World):Prop:=
 OnlyS (fun k=>X k\/k=g\/k=m) w w'/\((∃t st' z F ty p,wkT P f (steps:Nat) st x id=some (t,st',z)/\e= .returned (.iface ty (.pointer p))/\IRep w' t F [(strOfNums [],.iface ty (.pointer p))]/\F.Nodup/\(∀k∈F,w.1.size<=k)/\Wk S B0 g m N src w' st' z/\st.seen.length<=st'.seen.length)\/(wkT P f (steps:Nat) st x id=none/\e= .panicked aU))
def NdC(P:Pg)(S:World->Prop)(X:Nat->Prop)(B0 g m N:Nat)(src:Value)(f:Nat):Prop:= ∀(steps:Nat)(id:Int)(st:St)(x:LSg)(w:World),Wk S B0 g m N src w st x->N<f+st.seen.length->steps<=st.seen.length->0<=id->id<4294967296->
 Calls prog 184 #[.pointer (some ⟨g,0,none⟩),.int .i64 id,.int .i64 (steps:Nat)] w (NdP P S X B0 g m N src f steps st x id w)
def KdP(P:Pg)(S:World->Prop)(X:Nat->Prop)(B0 g m N:Nat)(src:Value)(f steps:Nat)(l:List Int)(st:St)(x:LSg)(gc:Nat)(w:World)(e:Ending)(w':World):Prop:=
 OnlyS (fun k=>X k\/k=g\/k=m\/k=gc) w w'/\((∃t st' z F us a c,((inP l).bind fun ls=>wkK (wkT P f (steps:Nat)) ls true st x)=some (t,st',z)/\e= .returned (.slice a us.length c)/\ORow 276 2 w.1.size w' a us.length c (kdF us)/\IRep w' t F us/\(rb a++F).Nodup/\(∀k∈F,w.1.size<=k)/\Wk S B0 g m N src w' st' z/\st.seen.length<=st'.seen.length)\/(((inP l).bind fun ls=>wkK (wkT P f (steps:Nat)) ls true st x)=none/\e= .panicked aU))
theorem zm(s)(a:Nat)(p):prog.built 276 [(0,.string s),(1,.iface a p)]=some #[.string s,.iface a p]:=kO
theorem zn:(prog.info? 230).map (·.size)=some 2:=kO
theorem tG(es n):IsRow 2 (lnF es) n:=⟨fun _ _=>rfl,fun i _ b a=>by simp[lnF]at a;rcases a with rfl|rfl<;>rfl⟩
theorem zo:∀(n:Nat)(l:List Int)(ls:List (ByteArray×Int)),IsB l->l.length<=n->lnP l=some ls->∀e∈ls,0<=e.2/\e.2<4294967296
 |0,l,r,_,h,e=>by rw[jy kH]at e;cases e;simp
 |n+1,l,r,c,h,e=>by
  by_cases b:l.length=0
  ·rw[jy b]at e;cases e;simp
  ·cases a:fN l with
   |false=>rw[lr b a]at e;cases e
   |true=>
    rw[mv a]at e;obtain⟨i,d,rfl⟩:=n7.1 e;have k:=iP.1 a;have:=zo n (l.drop (5+lfK l)) i (fun j=>by have:=c (5+lfK l+j);simpa [List.getD]using this) (by rw[k3];omega) d;intro x hx;rcases l3.1 hx with rfl|hx
    ·have f:IsB (l.drop (1+lfK l)):=fun j=>by have:=c (1+lfK l+j);simpa [List.getD]using this
     have:=gG (dR f 4);have g:((l.drop (1+lfK l)).take 4).length=4:=by rw[lw,k3];omega
     rw[g]at this;exact this
    ·exact this x hx
theorem JL{l ls}(b:IsB l)(h:inP l=some ls):∀e∈ls,0<=e.2/\e.2<4294967296:=by
 unfold inP at h;by_cases a:4<=l.length
 ·rw[qb a]at h;obtain⟨r,c,rfl⟩:=n7.1 h;have:=zo _ _ r (fun j=>by have:=b (4+j);simpa [List.getD]using this) kE c;intro x hx;rcases l3.1 hx with rfl|hx
  ·have:=gG (dR b 4);have d:(l.take 4).length=4:=by rw[lw];omega
   rw[d]at this;exact this
  ·exact this x hx
 ·rw[q4 a]at h;cases h
structure KdI(P:Pg)(S:World->Prop)(X:Nat->Prop)(B0 g m N:Nat)(src:Value)(f steps:Nat)(st:St)(x:LSg)(gc:Nat)(w:World)(ls:List (ByteArray×Int))(la:Option Addr)(lc:Nat)(i:Nat)(a:Option Addr)(c:Nat)(us:List (ByteArray×Value))(ts:List (ByteArray×Tr))(F:List Nat)(st1:St)(x1:LSg)(wr:World):Prop where
 len:us.length=i
 fr:OnlyS (fun k=>X k\/k=g\/k=m\/k=gc) w wr
 wk:Wk S B0 g m N src wr st1 x1
 row:ORow 276 2 w.1.size wr a us.length c (kdF us)
 rep:IRep wr (ft ts .nil) F us
 nd:(rb a++F).Nodup
 hi:∀k∈F,w.1.size<=k
 lnk:ORow 230 2 w.1.size wr la ls.length lc (lnF ls)
 sn:st.seen.length<=st1.seen.length
variable {S:World->Prop} {X:Nat->Prop} {B0 g m N ty fn:Nat} {src v:Value} {P:Pg} {st st1:St} {x x1:LSg} {w wr wr':World} {f steps gc lc i c:Nat} {ls:List (ByteArray×Int)} {la a:Option Addr} {us:List (ByteArray×Value)} {ts:List (ByteArray×Tr)} {F:List Nat}
theorem KdI.below(d:Src P B0 ty fn v S X)(h:KdI P S X B0 g m N src f steps st x gc w ls la lc i a c us ts F st1 x1 wr)(b:Below wr.1.size wr wr'):KdI P S X B0 g m N src f steps st x gc w ls la lc i a c us ts F st1 x1 wr':=
 ⟨h.len,h.fr.trans (OnlyS.ofBelow b),h.wk.below d b,h.row.below b,h.rep.below b,h.nd,h.hi,h.lnk.below b,h.sn⟩
theorem KdI.sign(j:Src P B0 ty fn v S X)(h:KdI P S X B0 g m N src f steps st x gc w ls la lc i a c us ts F st1 x1 wr)(d:g<w.1.size)(s):KdI P S X B0 g m N src f steps st x gc w ls la lc i a c us ts F st1 (x1.1,s) (wr.setCell ⟨g,4,none⟩ (.string s)):=by
 have b:=aB wr g 4 (.string s);have n:=h.wk.blk.set 4 (.string s);exact⟨h.len,h.fr.transN (OnlyS.ofB b) (fun k _ e=>kT (kV e)),h.wk.put j b n rfl,h.row.onlyN b d,h.rep.onlyS (OnlyS.ofB b) (fun k l e=>by subst e;have:=h.hi _ l;omega),h.nd,h.hi,h.lnk.onlyN b d,h.sn⟩
theorem zp{e m s F B r n E c t w a j f A}(h:ORow e s B w a n c f)(C:ORow m F r w j E t A)(D:e≠m):∀k∈rb a,∀q∈rb j,k≠q:=by
 intro k i q b z;subst z;rcases h.2 with⟨g,_⟩|⟨g1,u,x,g,G,d,_⟩
 ·cases g;simp[rb]at i
 ·rcases C.2 with⟨l,_⟩|⟨g2,v,y,o,H,p,_⟩
  ·cases l;simp[rb]at b
  ·cases g;cases o;simp[rb]at i b;subst i;rw[b,p]at d;cases d;exact D rfl
theorem nh{a n c}:∀k,(Value.slice a n c).ownBlock=some k->k∈rb a:=by
 intro k h;cases a with
 |none=>simp[Value.ownBlock]at h
 |some b=>simp[Value.ownBlock]at h;simp[rb,h]
theorem KdI.more(U:Src P B0 ty fn v S X)(h:KdI P S X B0 g m N src f steps st x gc w ls la lc i a c us ts F st1 x1 wr){n z ah y R H T s o J}(t:OnlyS (fun k=>X k\/k=g\/k=m) wr n)(L:g<w.1.size)(M:m<w.1.size)(V:∀k,X k->k<w.1.size)(Q:IRep n ah H [(strOfNums [],T)])(ac:H.Nodup)(D:∀k∈H,wr.1.size<=k)(O:Wk S B0 g m N src n y R)(ae:st1.seen.length<=y.seen.length){cs}(ad:ORow 276 2 w.1.size z (some ⟨o,0,none⟩) (us.length+1) J (dg (kdF us) us.length [.string s,T]))(K:(n.alloc (.cells cs 276)).grownBy z (Value.slice a us.length c).ownBlock)(I:a=some ⟨o,0,none⟩\/n.1.size<o):
 KdI P S X B0 g m N src f steps st x gc w ls la lc (i+1) (some ⟨o,0,none⟩) J (us++[(s,T)]) (ts++[(s,ah)]) (F++H) y R z:=by
 have d:∀k,(X k\/k=g\/k=m)->k<w.1.size:=fun k e=>by
  rcases e with e|rfl|rfl
  ·exact V k e
  ·exact L
  ·exact M
 have af:=h.fr.size;have ag:=t.size;have E:=bAl n (.cells cs 276);have ow:=(OnlyS.ofBelow E).transN (OnlyS.ofGrown K) (fun k _ e=>nh k e);have u:=iB h.row (fun k b=>t.block k (dw h.row k b).2 (fun e=>by have:=d k e;have:=(dw h.row k b).1;omega));have l:=iB h.lnk (fun k b=>t.block k (dw h.lnk k b).2 (fun e=>by have:=d k e;have:=(dw h.lnk k b).1;omega));have G:=h.rep.onlyS t (fun k b e=>by have:=d k e;have:=h.hi k b;omega);have r:=h.rep.lt;have C:=Q.lt;have A:∀k∈F,k∉rb a:=fun k b hr=>(List.nodup_append.1 h.nd).2.2 k hr k b rfl;have B:∀k∈H,k∉rb a:=fun k b hr=>by have:=D k b;have:=(dw h.row k hr).2;omega
 have ab:KeepT 5 n z:=(aW E).trans (bJ (cj u E) K kN);refine⟨by simp[h.len],(h.fr.transN t (fun k b e=>by rcases e with e|e|e;exact kV e;exact kT (kV e);exact kT (kT (kV e)))).transN ow (fun k b e=>by have:=(dw h.row k e).1;omega),O.keep U ow (fun e=>by have:=(dw h.row _ e).1;omega) (fun e=>by have:=(dw h.row _ e).1;omega) (fun k e=>by have:=(dw h.row _ e).1;have:=O.gB;omega) ab,?_,?_,?_,?_,?_,k2 h.sn ae⟩
 ·rw[kY];exact ad.congr (fun j W=>Ju us (s,T) j W)
 ·exact IRep.snoc (Q.onlyS ow (fun k b e=>B k b e)) (G.onlyS ow (fun k b e=>A k b e))
 ·rw[rb,List.singleton_append,o9];refine⟨fun b=> ?_,?_⟩
  ·change o∈F++H at b;rcases I with e|e
   ·rcases mx.1 b with b|b
    ·exact A _ b (by rw[e];simp[rb])
    ·exact B _ b (by rw[e];simp[rb])
   ·rcases mx.1 b with b|b
    ·have:=r _ b;omega
    ·have:=C _ b;omega
  ·rw[List.nodup_append];refine⟨(List.nodup_append.1 h.nd).2.1,ac,fun p Y q Z e=> ?_⟩;subst e;have:=r _ Y;have:=D _ Z;omega
 ·intro k b;rcases mx.1 b with b|b
  ·exact h.hi k b
  ·have:=D k b;omega
 ·exact iB l (fun k b=>ow.block k (dw l k b).2 (fun e=>zp u l kN k e k b rfl))
end
def aM:Tr->List (ByteArray×ByteArray)
 | .leaf _ es=>es
 | .node _ ks=>aM ks
 | .nil=>[]
 | .cons _ t ks=>aM t++aM ks
def dq(L:List (ByteArray×Tr)):List (ByteArray×ByteArray):=L.flatMap (fun x=>aM x.2)
theorem zq:∀ks:Tr,isT ks=false->∀b,full ks b->aM ks=dq (aA ks)
 | .leaf _ _,h,_,_=>by simp[isT]at h
 | .node _ _,h,_,_=>by simp[isT]at h
 | .nil,_,_,_=>by simp[aM,dq,aA]
 | .cons s c ks,_,b,a=>by
  rw[full]at a;rw[aM,aA,zq ks a.2.2.1 false a.2.2.2.2];simp[dq]
theorem JM(b:List (ByteArray×Tr))(i)(a:i<b.length):dq (b.take (i+1))=dq (b.take i)++aM (b.getD i t0).2:=by
 unfold dq;rw[n6 a,pv];simp[List.getD,List.getElem?_eq_getElem a]
theorem zt(a i):(dq (a.take i)).length<=(dq a).length:=by
 have e:dq a=dq (a.take i)++dq (a.drop i):=by
  unfold dq;rw[<-pv,List.take_append_drop]
 rw[e,kY];omega
theorem TSt.keepE{B0 g sb N rt ns nv na nc seen tall bad w w'}(h:TSt B0 g sb N rt w ns nv na nc seen tall bad)(a:∀c,c≠93->KeepT c w w'):TSt B0 g sb N rt w' ns nv na nc seen tall bad:=
 ⟨h.blk.keepT (a _ kN),h.mks.keep (a _ kN),dL h.nodes (a _ kN),fun i b=>(h.each i b).keep (a _ kN) (a _ kN),k2 h.gB (a 0 kN).size,h.ok⟩
structure EtQ(B:Nat)(w:World)(a:Option Addr)(xs ys:List (ByteArray×ByteArray))(a':Option Addr)(c':Nat)(w':World):Prop where
 own:ORow 93 2 B w' a' (xs++ys).length c' (enF (xs++ys))
 fr:OnlyS (fun k=>k∈rb a) w w'
 low:∀k∈rb a',k<w.1.size->k∈rb a
 keep:∀t,t≠93->KeepT t w w'
theorem EtQ.refl{B w a xs c}(h:ORow 93 2 B w a xs.length c (enF xs)):EtQ B w a xs [] a c w:=⟨by rw[lj];exact h,OnlyS.refl _ _,fun k b _=>b,fun _ _=>KeepT.refl _ _⟩
theorem EtQ.below{B w wr wr' a c xs e d}(h:EtQ B w a xs e c d wr)(b:Below wr.1.size wr wr'):EtQ B w a xs e c d wr':=⟨h.own.below b,h.fr.trans (OnlyS.ofBelow b),h.low,fun g f=>(h.keep g f).trans (aW b)⟩
theorem EtQ.trans{B w wr w' a f g xs d m n i}(h:EtQ B w a xs d f n wr)(b:EtQ B wr f (xs++d) m g i w'):EtQ B w a xs (d++m) g i w':=
 ⟨by rw[<-k5];exact b.own,h.fr.transN b.fr (fun k c e=>h.low k e c),fun k c j=>h.low k (b.low k c (by have:=h.fr.size;omega)) j,fun o l=>(h.keep o l).trans (b.keep o l)⟩
theorem EtQ.one{B w wr w' a d xs b f g i x cs}(h:EtQ B w a xs b d f wr)(s:ORow 93 2 B w' (some ⟨g,0,none⟩) ((xs++b).length+1) i (dg (enF (xs++b)) (xs++b).length [.string x.1,.string x.2]))(m:(wr.alloc (.cells cs 93)).grownBy w' (Value.slice d (xs++b).length f).ownBlock)(l:d=some ⟨g,0,none⟩\/wr.1.size<g):EtQ B w a xs (b++[x]) (some ⟨g,0,none⟩) i w':=by
 have q:=bAl wr (.cells cs 93);have t:=h.fr.size;refine⟨?_,(h.fr.trans (OnlyS.ofBelow q)).transN (OnlyS.ofGrown m) (fun k r e=>h.low k (nh k e) r),?_,fun u o=>(h.keep u o).trans ((aW q).trans (bJ (cj h.own q) m (s8 o)))⟩
 ·rw[<-k5,kY];exact s.congr (fun j p=>tu _ x j p)
 ·intro k c n;simp[rb]at c;subst c;rcases l with e|e
  ·exact h.low _ (by rw[e];simp[rb]) n
  ·omega
def EtC(B0 g sb N:Nat)(rt:Int)(ns:List NdK)(nv:Nat->NdV)(na:Option Addr)(nc:Nat)(seen:List Int)(tall:Int)(bad:Bool)(t:Tr):Prop:= ∀(p:Int)(xs:List (ByteArray×ByteArray))(a:Option Addr)(c B:Nat)(w:World),TSt B0 g sb N rt w ns nv na nc seen tall bad->ORow 93 2 B w a xs.length c (enF xs)->B<=w.1.size->Rep ns t true [p] []->xs.length+(aM t).length<=1048576->
 Calls prog 146 #[.pointer (some ⟨g,0,none⟩),.int .i64 p,.slice a xs.length c] w fun e w'=> ∃a' c',e= .returned (.slice a' (xs++aM t).length c')/\EtQ B w a xs (aM t) a' c' w'
theorem JN(x y w):(Instr.buildSlice 77 1 #[(0,.agg #[.string x,.string y])]).run prog w= .ok (.slice (some ⟨w.1.size,0,none⟩) 1 1) (w.alloc (.cells [.string x,.string y].toArray 93)):=gF pL kH (.agg #[.string x,.string y]) [.string x,.string y] rfl rfl w
theorem zu{B0 g sb N rt ns nv na nc seen tall bad}(a4:ns.length<=1048576)(q K)(o:ns[q]?=some K)(es)(I:K.keys=es.map (·.1))(J:K.vals=es.map (·.2))(i)(cl:K.kids.length=i.length)(ci:i.length<=1048576)(X:∀m,m<i.length->Rep ns (i.getD m t0).2 true [K.kids.getD m 0] [])(bt:∀m,m<i.length->EtC B0 g sb N rt ns nv na nc seen tall bad (i.getD m t0).2)(xs a c B w)(ak:TSt B0 g sb N rt w ns nv na nc seen tall bad)(bS:ORow 93 2 B w a xs.length c (enF xs))(cr:B<=w.1.size)(cb:xs.length+(es.length+(dq i).length)<=1048576):
 Calls prog 146 #[.pointer (some ⟨g,0,none⟩),.int .i64 (q:Nat),.slice a xs.length c] w fun e w'=> ∃l n,e= .returned (.slice l (xs++(es++dq i)).length n)/\EtQ B w a xs (es++dq i) l n w':=by
 obtain⟨b,rfl,H,bE,co⟩:=pS ak o;have bx:w.cell? ⟨g,0,none⟩=some (.slice (some ⟨b,0,none⟩) ns.length nc):=ak.blk.cell 0;have ab:=bAl w (.cells (ndc (nv q) K).toArray 257);have b2:=ao w 257 (ndc (nv q) K).toArray;have b5:(prog.info? 257).map (·.size)=some (ndc (nv q) K).length:=bM;have cn:¬(q:Int)<0:=kH;have aO:EtQ B w a xs (es.take 0) a c (w.alloc (.cells (ndc (nv q) K).toArray 257)):=(EtQ.refl bS).below ab;go_enter func146,ntmps146;go_upto_region 4 with(first|(refine dm rfl 257 _ rfl b (q*6) rfl (ndc (nv q) K) _ H q8 rfl b5 ?_)|(refine aL rfl 257 _ _ rfl w (ndc bX nd0).toArray (ndc (nv q) K).toArray 257 rfl rfl bM rfl (fT _ _) ?_))
 change Code.wp _ _ _ _ (w.alloc (.cells (ndc (nv q) K).toArray 257));have bu:=bE.below ab;have bb:=ak.belowT ab;have cg:(w.alloc (.cells (ndc (nv q) K).toArray 257)).1.size=w.1.size+1:=by simp
 generalize w.alloc (.cells (ndc (nv q) K).toArray 257)=b6 at*;have ba:Blk b6 257 w.1.size (ndc (nv q) K):=b2;have M:=kG ba (kR bu (kR bb (kR ab aO)));have an:=kG bt (kR X (kR I J));have a1:K.keys.length=es.length:=by rw[I];simp
 have a7:K.vals.length=es.length:=by rw[J];simp
 have ck:es.length<=1048576:=kH;have ap:Hid (∀j,j<es.length->(os K.keys).getD j undef= .string (es.getD j e0).1/\(os K.vals).getD j undef= .string (es.getD j e0).2):=fun j bH=>by
  rw[I,J];simp[os,List.getD,bH]
 have F:Hid (K.keys.length=es.length/\K.vals.length=es.length):=⟨a1,a7⟩;clear b2 ba bu bE ab H bx ak o b5 bb bt X I J bS aO cg a1 a7;go_wp2_with fail;go_loopw [2,8] (fun bn cc wr=> ∃(j:Nat)(l:Option Addr)(n:Nat),bn= .slice l (xs++es.take j).length n/\cc= .int .i64 (j:Nat)/\j<=es.length/\EtQ B w a xs (es.take j) l n wr/\(∀Q,Q≠93->KeepT Q b6 wr)) (fun _ s _=>es.length-(intOf s).toNat)
 case atStart=>exact⟨0,a,c,kP,rfl,kX _,M.out.2.2.2.2,fun _ _=>KeepT.refl _ _⟩
 case round=>
  obtain⟨j,l,n,rfl,rfl,bH,f,d⟩:=hrel;obtain⟨r,rfl⟩:∃x,x=wr:=⟨_,rfl⟩;have ai:=M.out.1.keepT (d _ kN);have ae:=M.out.2.1.keep (d _ kN) (d _ kN);have bf:r.cell? ⟨w.1.size,2,none⟩=some (.slice (nv q).ka es.length (nv q).kc):=by rw[<-F.out.1];exact ai.cell 2
  have af:r.cell? ⟨w.1.size,3,none⟩=some (.slice (nv q).va es.length (nv q).vc):=by rw[<-F.out.2];exact ai.cell 3
  have bc:=kG f d;have cq:=f.fr.size;by_cases p:j<es.length
  ·have bi:(j:Int)< (es.length:Int):=kH;have bj:=ae.keys;have bl:=ae.vals;rw[F.out.1]at bj;rw[F.out.2]at bl;obtain⟨Z,a3,_,_,_,C⟩:=bj.at_ kH;obtain⟨am,a5,_,_,_,a6⟩:=bl.at_ kH;rw[a3]at bf;rw[a5]at af;have ag:=(C j p).trans (rx some (ap.out j p).1);have bz:=(a6 j p).trans (rx some (ap.out j p).2);have S:Hid (es.take (j+1)=es.take j++[es.getD j e0]):=by
    show es.take (j+1)=es.take j++[es.getD j e0];rw[n6 p];simp[List.getD,p]
   have aS:=f.own;have a8:(xs++es.take j).length<=1048576:=by rw[kY,lw];omega
   generalize es.getD j e0=b9 at*;obtain⟨y,z⟩:=b9;have G:Hid _:=Eq.refl (xs++es.take j);generalize L:xs++es.take j=P at aS a8 ⊢;have G:Hid (xs++es.take j=P):=L;clear L C a6 bj bl ae ai f d a3 a5;go_upto_region 7 with fail
   have R:Hid (∀ad,Below r.1.size r ad->ad.cell? ⟨w.1.size,2,none⟩=some (.slice (some ⟨Z,0,none⟩) es.length (nv q).kc)/\ad.cell? ⟨w.1.size,3,none⟩=some (.slice (some ⟨am,0,none⟩) es.length (nv q).vc)/\ad.cell? ⟨Z,j,none⟩=some (.string y)/\ad.cell? ⟨am,j,none⟩=some (.string z)):=fun ad ah=>
    ⟨(ah.cell (sd r _ bf)).trans bf,(ah.cell (sd r _ af)).trans af,(ah.cell (sd r _ ag)).trans ag,(ah.cell (sd r _ bz)).trans bz⟩
   have A:=bDr r;have cs:=R.out _ A;have u:=ORow.below aS A;refine ay (fun ad=>ad.cell? ⟨w.1.size,2,none⟩=some (.slice (some ⟨Z,0,none⟩) es.length (nv q).kc)/\ad.cell? ⟨w.1.size,3,none⟩=some (.slice (some ⟨am,0,none⟩) es.length (nv q).vc)/\ad.cell? ⟨Z,j,none⟩=some (.string y)/\ad.cell? ⟨am,j,none⟩=some (.string z)) (fun k=>decide (13<=k)) kO ?_;refine aa 0 cs ?_;refine aa 1 cs ?_;refine aa 2 cs ?_;refine aa 3 cs ?_;refine aa 4 cs ?_;refine aa 5 cs ?_;refine aa 6 cs ?_;refine aa 7 cs ?_;refine aa 8 cs ?_;refine aa 9 cs ?_;refine aa 10 cs ?_;refine aj 11 fun E o=> ?_;refine jV _ _ rfl (cs:=#[.string y,.string z]) ?bk ?_
   case bk=>
    simp only[k9,k4,k7];exact yK y z
   refine al o ?_;clear o E;refine aj 12 fun E o=> ?_;refine fj _ _ _ rfl (v:= .slice (some ⟨r.drew.1.size,0,none⟩) 1 1) (w':=r.drew.alloc (.cells [.string y,.string z].toArray 93)) ?bs ?_
   case bs=>
    simp only[k9,k4,k7];exact JN y z r.drew
   refine o.out _ _ (fun _=>R.out _ (A.alloc A.size _)) ?_;clear o E;refine aj 13 fun E o=> ?_;refine jW _ _ pL rfl B l P.length n (enF P) rfl u [.string y,.string z] rfl (by simp[Value.oneCell']) rfl a8 kH (by have:=A.size;omega) ?_;intro b7 b8 ce b4 bw bh aw;refine al o ?_;clear o E;have bv:EtQ B w a xs (es.take (j+1)) (some ⟨b7,0,none⟩) b8 ce:=by
    rw[S.out];refine EtQ.one (x:=(y,z)) (cs:=[.string y,.string z].toArray) (bc.out.1.below A) ?_ ?_ aw
    ·rw[G.out];exact b4
    ·rw[G.out];exact bh
   have b1:=fun Q Y=>(bc.out.2 Q Y).trans ((aW A).trans ((aW (bAl _ _)).trans (bJ (cj u (bAl _ _)) bh (s8 Y))));have t:=kG bv b1;have bN:Hid ((xs++es.take (j+1)).length=P.length+1):=by
    show(xs++es.take (j+1)).length=P.length+1;rw[S.out,<-k5,kY,G.out];rfl
   clear bv b1 b4 bw bh aw aS u cs A R;refine aj 14 fun E o=> ?_;go_wp2_with fail;refine al o ?_;clear o E;refine ax ?_;go_wp2_with fail;go_roundw
   case rel=>exact⟨j+1,_,_,by rw[bN.out],by go_num,kH,t.out.1,t.out.2⟩
   case measure=>simp[intOf];omega
  ·have a2:j=es.length:=kH;have a4:¬(j:Int)< (es.length:Int):=kH;have aX:es.take j=es:=by rw[a2,ox]
   rw[aX]at f ⊢;have ar:=kG f d;have bY:(xs++es).length<=1048576:=by rw[kY];omega
   have ch:Hid ((xs++es).length=xs.length+es.length):=by show(xs++es).length=xs.length+es.length;rw[kY]
   generalize a9:xs++es=cf at bY ⊢;have bq:Hid (xs++es=cf):=a9;clear a9 a2 aX f d ai ae af bc;go_wp2_with fail;go_loopw [2,9] (fun bn cd wr=> ∃(j:Nat)(O:Option Addr)(U:Nat),bn= .slice O (xs++(es++dq (i.take j))).length U/\cd= .int .i64 (j:Nat)/\j<=K.kids.length/\EtQ B w a xs (es++dq (i.take j)) O U wr/\(∀Q,Q≠93->KeepT Q b6 wr)) (fun _ s _=>K.kids.length-(intOf s).toNat)
   case atStart=>exact⟨0,l,n,by rw[show dq (i.take 0)=[]from rfl,lj,bq.out],rfl,kX _,by rw[show dq (i.take 0)=[]from rfl,lj];exact ar.out.1,ar.out.2⟩
   case round=>
    obtain⟨m,O,U,rfl,rfl,ct,f,d⟩:=hrel;obtain⟨wI,rfl⟩:∃x,x=wr:=⟨_,rfl⟩;have kI:=M.out.1.keepT (d _ kN);have bd:=M.out.2.1.keep (d _ kN) (d _ kN);have ac:=M.out.2.2.1.keepE d;have aH:wI.cell? ⟨w.1.size,4,none⟩=some (.slice (nv q).da K.kids.length (nv q).dc):=kI.cell 4;have cp:=f.fr.size;by_cases p:m<K.kids.length
    ·have bi:(m:Int)< (K.kids.length:Int):=kH;have b3:=bd.kids;obtain⟨Z,a0,_,_,_,C⟩:=b3.at_ kH;rw[a0]at aH;have ag:=(C m p).trans (rx some (lM K.kids m p));have D:=JM i m kH;have W:=zt i (m+1);rw[D,kY]at W;have T:=an.out.1 m kH (K.kids.getD m 0) (xs++(es++dq (i.take m))) O U B wI ac f.own kH (an.out.2.1 m kH) (by rw[kY,kY];omega);have S:Hid _:=D;generalize K.kids.getD m 0=cu at*;have bP:(xs++(es++dq (i.take m))).length<=1048576:=by rw[kY,kY];omega
     have bp:Hid (∀e w',(∃l n,e=Ending.returned (.slice l (xs++(es++dq (i.take m))++aM (i.getD m t0).2).length n)/\EtQ B wI O (xs++(es++dq (i.take m))) (aM (i.getD m t0).2) l n w')->∃l n,e=Ending.returned (.slice l (xs++(es++dq (i.take (m+1)))).length n)/\EtQ B w a xs (es++dq (i.take (m+1))) l n w'/\(∀Q,Q≠93->KeepT Q b6 w')):=fun e w' h=>by
      obtain⟨be,bg,ca,V⟩:=h;refine⟨be,bg,?_,?_,fun Q Y=>(d Q Y).trans (V.keep Q Y)⟩
      ·rw[ca,D,<-k5,<-k5,<-k5]
      ·have:=f.trans V;rwa [k5,<-D]at this
     replace T:=T.mono bp.out;generalize L:xs++(es++dq (i.take m))=P at T bP ⊢;clear C b3 bd ac a0 kI f d L D W;go_wp2_with fail;refine T.mono ?_;rintro e cv ⟨be,bg,rfl,V,b0⟩;have t:=kG V b0;clear T V b0 aH ag;have cm:(xs++(es++dq (i.take (m+1)))).length<=1048576:=by have:=zt i (m+1);rw[kY,kY];omega
     go_wp2_with fail;go_roundw
     case rel=>exact⟨m+1,be,bg,by simp only[kY],by go_num,kH,t.out.1,t.out.2⟩
     case measure=>simp[intOf];omega
    ·have bR:m=i.length:=kH;have a4:¬(m:Int)< (K.kids.length:Int):=kH;have bF:i.take m=i:=mm kH;rw[bF]at f ⊢;have t:Hid _:=f;clear f d kI bd ac bF bR;go_wp2_with fail;go_ret;exact⟨O,U,rfl,t.out⟩
theorem pX{B0 g sb N rt ns nv na nc seen tall bad}(e:ns.length<=1048576):∀j:Tr,
 (isT j=true->full j true->smT j->EtC B0 g sb N rt ns nv na nc seen tall bad j)/\(isT j=false->∀b,full j b->smT j->∀m,m< (aA j).length->EtC B0 g sb N rt ns nv na nc seen tall bad ((aA j).getD m t0).2)
 | .leaf id es=>⟨fun _ _ _=>fun p xs a c B w x t l hr k=>by
  rw[Rep]at hr;obtain⟨q,u,n⟩:=hr;cases u;have:=zu e q _ n es rfl rfl [] rfl kP (fun m f=>by simp at f) (fun m f=>by simp at f) xs a c B w x t l (by simpa [dq,aM]using k);simpa [aM,dq]using this,fun h=>by simp[isT]at h⟩
 | .node id ks=>⟨fun _ d i=>fun p xs a c B w x t l hr k=>by
  rw[Rep]at hr;obtain⟨q,kd,C,u,n,A⟩:=hr;cases u;rw[full]at d;rw[smT]at i;have o:isT ks=false:=by obtain⟨s,j,r,rfl⟩:=d.1;rfl
  obtain⟨z,_,v⟩:=pT ks true kd C o d.2 A;have y:=zq ks o true d.2;have:=zu e q _ n [] rfl rfl (aA ks) z i.1 v ((pX e ks).2 o true d.2 i.2) xs a c B w x t l (by rw[aM,y]at k;simpa using k);rw[aM,y];simpa using this,fun h=>by simp[isT]at h⟩
 | .nil=>⟨fun h=>by simp[isT]at h,fun _ _ _ _ m f=>by simp[aA]at f⟩
 | .cons s j ks=>⟨fun h=>by simp[isT]at h,fun _ b d i m f=>by
  rw[full]at d;rw[smT]at i;cases m with
  |zero=>exact(pX e j).1 d.2.1 d.2.2.2.1 i.1
  |succ m=>exact(pX e ks).2 d.2.2.1 false d.2.2.2.2 i.2 m (by simpa [aA]using f)⟩
theorem JO(P B0 cM cy v b7 b1)(R:Src P B0 cM cy v b7 b1)(g m N an f)(b8:NdC P b7 b1 B0 g m N an f)(steps l L B D x w)(bn:Wk b7 B0 g m N an w D x)(bx:Cur w L B l)(cA:B<=w.1.size)(cB:l.length<=1048576)(cg:L≠g)(ch:L≠m)(cf:B0<=L)(c4:N<f+D.seen.length)(cl:steps<=D.seen.length):
 Calls prog 208 #[.pointer (some ⟨g,0,none⟩),.pointer (some ⟨L,0,none⟩),.int .i64 (steps:Nat)] w (KdP P b7 b1 B0 g m N an f steps l D x L w):=by
 have cR:=yN L B l w bx cA cB;have b3:=bn.blk.lt;have bR:=bn.set.lt;have ce:∀k,b1 k->k<w.1.size:=fun k e=>by have:=R.low k e;have:=bn.gB;omega
 have bN:=bx.byte;have a3:∃xs,Blk w 162 L xs:=by
  obtain⟨a,n,c,h⟩:=bx;exact⟨_,h.blk⟩
 obtain⟨xs,a3⟩:=a3;have bv:=kG bn (kR bN ce);have bF:Hid (Blk w 162 L xs):=a3;clear bx bn a3 bN ce;go_enter func208,ntmps208;go_wp2_with fail;refine cR.mono ?_;rintro e w1 ⟨bz,ck⟩;clear cR;have b5:=bv.out.1.keep R (OnlyS.ofB bz) (fun e=>cg e.symm) (fun e=>ch e.symm) (fun k e=>by subst e;exact cf) (aV bz (show Blk w 162 L xs from bF.out) kN);have b6:=(OnlyS.ofB bz).mono (Z2:=(fun k=>b1 k\/k=g\/k=m\/k=L)) (fun k _ e=>kT (kT (kT e)));clear bz bF;rcases ck with⟨ls,cF,cG,a2,rfl,hr⟩|⟨ab,rfl⟩
 rotate_left
 ·have b4:((inP l).bind fun ls=>wkK (wkT P f (steps:Nat)) ls true D x)=none:=by rw[ab];rfl
  clear ab b5;go_wp2;exact⟨rfl,b6,kT ⟨b4,rfl⟩⟩
 have bl:((inP l).bind fun ls=>wkK (wkT P f (steps:Nat)) ls true D x)=wkK (wkT P f (steps:Nat)) ls true D x:=by rw[a2];rfl
 have cC:=pQ a2;have bi:=JL bv.out.2.1 a2;have a6:Hid _:=bv.out.2.2;have a5:=kG b5 (kR b6 (kR hr (kR bl bi)));clear a2 b5 b6 hr bl bi bv;go_wp2_with fail;go_loopw [7,13] (fun cH cp wr=> ∃(i:Nat)(a:Option Addr)(c:Nat)(a7:List (ByteArray×Value))(X:List (ByteArray×Tr))(cr:List Nat)(I:St)(G:LSg),cH= .slice a a7.length c/\cp= .int .i64 (i:Nat)/\i<=ls.length/\KdI P b7 b1 B0 g m N an f steps D x L w ls cF cG i a c a7 X cr I G wr/\wkK (wkT P f (steps:Nat)) ls true D x=(wkK (wkT P f (steps:Nat)) (ls.drop i) (i==0) I G).map fun z=>(ft X z.1,z.2)) (fun _ s _=>ls.length-(intOf s).toNat)
 case atStart=>
  refine⟨0,none,0,[],[],[],D,x,rfl,by rfl,kH,⟨rfl,a5.out.2.1,a5.out.1,eU _ _ _ _ _,?_,by simp[rb],kP,a5.out.2.2.1,kE⟩,?_⟩
  ·show IRep w1 .nil [] [];rw[IRep];exact⟨rfl,rfl⟩
  ·show _=Option.map _ (wkK (wkT P f (steps:Nat)) ls true D x);generalize wkK (wkT P f (steps:Nat)) ls true D x=r;cases r<;>rfl
 case round=>
  obtain⟨i,a,c,a7,X,cr,I,G,rfl,rfl,c5,ai,a1⟩:=hrel;obtain⟨Y,rfl⟩:∃x,x=wr:=⟨_,rfl⟩;have c0:=ai.fr.size;have aX:Hid _:=a5.out.2.2.2.1;have bE:Hid _:=a5.out.2.2.2.2;clear a5;have T:=ai.len;have ag:Hid _:=ai;by_cases a4:i<ls.length
  ·have cD:(i:Int)< (ls.length:Int):=kH;obtain⟨b,rfl,cS,cT⟩:=ip ai.lnk kH;have a0:=fun j v cE=>(ai.lnk.reads (tG ls _)).cells i a4 j v cE;rw[show lnF ls i=[.string (ls.getD i l0).1,.int .i64 (ls.getD i l0).2]from rfl]at a0;have bP:ls.drop i=ls.getD i l0::ls.drop (i+1):=by
    rw[oF a4];simp[List.getD,a4]
   have bk:ls.getD i l0∈ls:=by
    have:ls.getD i l0=ls[i]:=by simp[List.getD,a4]
    rw[this];exact o2 _
   obtain⟨c1,c2⟩:=bE.out _ bk;generalize ls.getD i l0=cx at*;obtain⟨d,id⟩:=cx;have cb:Y.cell? ⟨b,i*2,none⟩=some (.string d):=by have:=a0 0 _ rfl;simpa using this
   have cc:Y.cell? ⟨b,i*2+1,none⟩=some (.int .i64 id):=by have:=a0 1 _ rfl;simpa using this
   have bg:wkK (wkT P f (steps:Nat)) ls true D x=(if(i==0)=true\/sl G.1 d=true then(wkT P f (steps:Nat) I (G.1,if(i==0)=true then G.2 else d) id).bind fun y=>(wkK (wkT P f (steps:Nat)) (ls.drop (i+1)) false y.2.1 y.2.2).map fun z=>(.cons d y.1 z.1,z.2)else none).map fun z=>(ft X z.1,z.2):=by rw[a1,bP,wkK]
   have cn:=ao Y 230 #[.string d,.int .i64 id];have co:=bAl Y (.cells #[.string d,.int .i64 id] 230);have cq:(Y.alloc (.cells #[.string d,.int .i64 id] 230)).1.size=Y.1.size+1:=by simp
   have O:=ai.below R co;have af:Hid _:=bg;clear a0 bP bk a1 bg co ag ai;go_upto_region 5 with(first|(refine aL rfl 230 _ _ rfl Y #[.string (strOfNums []),.int .i64 0] #[.string d,.int .i64 id] 230 rfl rfl zn rfl rfl ?_))
   change Code.wp _ _ _ _ (Y.alloc (.cells #[.string d,.int .i64 id] 230));generalize Y.alloc (.cells #[.string d,.int .i64 id] 230)=Q at*;generalize cV:Y.1.size=o at*;have am:Blk Q 230 o [.string d,.int .i64 id]:=cn;clear cn cb cc bE;have aw:g≠o:=kH;have bj:m≠o:=kH;rcases o6 i with h0|h0
   ·have cd:¬(0:Int)< (i:Int):=kH;have Z:(i==0)=true:=by rw[h0];rfl
    clear h0;obtain⟨ac,U⟩:∃ac:LSg,ac=G:=⟨_,rfl⟩;have ap:Hid (wkK (wkT P f (steps:Nat)) ls true D x=((wkT P f (steps:Nat) I ac id).bind fun y=>(wkK (wkT P f (steps:Nat)) (ls.drop (i+1)) false y.2.1 y.2.2).map fun z=>(.cons d y.1 z.1,z.2)).map fun z=>(ft X z.1,z.2)):=by
     have:=af.out;rw[Z,qb (kV rfl),qb rfl]at this;rw[U];exact this
    rw[<-U]at O;have t:=kG O am;clear O am af U Z;obtain⟨H,bf⟩:∃H,H=Q:=⟨_,rfl⟩;have cP:H.1.size=o+1:=by rw[bf];exact cq
    rw[<-bf]at t;subst bf;go_upto_region 8 with fail
    have ah:=b8 steps id I ac H.drew (t.out.1.wk.below R ⟨rfl,rfl,rfl,kE,fun _ _=>rfl⟩) (by have:=t.out.1.sn;omega) (k2 cl t.out.1.sn) kH kH;have u:H.drew.cell? ⟨o,0,none⟩=some (.string d)/\H.drew.cell? ⟨o,1,none⟩=some (.int .i64 id):=⟨Blk.cell t.out.2 0,Blk.cell t.out.2 1⟩;refine ay (fun bY=>bY.cell? ⟨o,0,none⟩=some (.string d)/\bY.cell? ⟨o,1,none⟩=some (.int .i64 id)) (fun k=>decide (10<=k)) kO ?_;refine aa 0 u ?_;refine aa 1 u ?_;refine aa 2 u ?_;refine aa 3 u ?_;refine aa 4 u ?_;refine aa 5 u ?_;refine aa 6 u ?_;refine aj 7 fun C q=> ?_;go_wp2_with fail;refine q2 ah ?_;rintro e A ⟨W,⟨cL,K,ad,c3,E,M,ak,rfl,bt,bs,bp,bq,bu⟩|⟨ab,rfl⟩⟩
    rotate_left
    ·have bh:=(t.out.1.fr.drew).transN W (fun k aH e=>by rcases e with e|e|e;exact kV e;exact kT (kV e);exact kT (kT (kV e)));go_wp2;exact⟨rfl,bh,kT ⟨by rw[aX.out,ap.out,ab];rfl,rfl⟩⟩
    clear ah;have V:=Blk.onlyS (show Blk H.drew 230 o [.string d,.int .i64 id]from t.out.2) W (fun e=>by rcases e with e|e|e;exact absurd (a6.out o e) kH;exact aw e.symm;exact bj e.symm);have S:A.cell? ⟨o,0,none⟩=some (.string d)/\A.cell? ⟨o,1,none⟩=some (.int .i64 id):=⟨Blk.cell V 0,Blk.cell V 1⟩;have cm:H.1.size<=A.1.size:=W.size;have F:=kG W (kR bt (kR bs (kR bp (kR bq (kR bu ak)))));clear W bt bs bp bq bu ak V;go_wp2_with fail;refine al q ?_;clear q C;refine aj 8 fun C q=> ?_;refine jV _ _ rfl (cs:=#[.string d,.iface E (.pointer M)]) ?bkb ?_
    case bkb=>
     simp only[k9,k4,k7];exact zm d E (.pointer M)
    refine al q ?_;clear q C;refine aj 9 fun C q=> ?_;refine fj _ _ _ rfl (v:= .slice (some ⟨A.1.size,0,none⟩) 1 1) (w':=A.alloc (.cells [.string d,.iface E (.pointer M)].toArray 276)) ?bsb ?_
    case bsb=>
     simp only[k9,k4,k7];exact gF nf kH (.agg #[.string d,.iface E (.pointer M)]) [.string d,.iface E (.pointer M)] rfl rfl A
    refine q.out _ _ (fun _=>⟨(((p4 A.1.size A).alloc kE _).cell (p:=⟨o,0,none⟩) (show o<A.1.size by omega)).trans S.1,(((p4 A.1.size A).alloc kE _).cell (p:=⟨o,1,none⟩) (show o<A.1.size by omega)).trans S.2⟩) ?_;clear q C;have J:=iB t.out.1.row (fun k aH=>F.out.1.block k (dw t.out.1.row k aH).2 (fun e=>by have cz:=(dw t.out.1.row k aH).1;rcases e with e|e|e;exact absurd (a6.out k e) kH;omega;omega));rw[T]at J;refine aj 10 fun C q=> ?_;refine jW _ _ nf rfl w.1.size a i c (kdF a7) rfl J [.string d,.iface E (.pointer M)] rfl (by simp[Value.oneCell']) rfl kH kH kH ?_;intro ct cw cO aO bb ar ba;refine al q ?_;clear q C;rw[<-T]at aO ar;have a9:=KdI.more R (KdI.below R t.out.1 (wr':=H.drew) ⟨rfl,rfl,rfl,kE,fun _ _=>rfl⟩) F.out.1 b3 bR (a6.out) F.out.2.1 F.out.2.2.1 F.out.2.2.2.1 F.out.2.2.2.2.1 F.out.2.2.2.2.2.1 (s:=d) aO ar ba;have a8:wkK (wkT P f (steps:Nat)) ls true D x=(wkK (wkT P f (steps:Nat)) (ls.drop (i+1)) (i+1==0) K ad).map fun z=>(ft (X++[(d,cL)]) z.1,z.2):=by
     rw[ap.out,F.out.2.2.2.2.2.2];show Option.map _ (Option.map _ (wkK (wkT P f (steps:Nat)) (ls.drop (i+1)) false K ad))=Option.map _ (wkK (wkT P f (steps:Nat)) (ls.drop (i+1)) false K ad);generalize wkK (wkT P f (steps:Nat)) (ls.drop (i+1)) false K ad=r;cases r with
     |none=>rfl
     |some z=>simp[xy]
    have ae:=kG a9 a8;clear a9 a8 aO ar bb J F t ap S;refine aj 11 fun C q=> ?_;go_wp2_with fail;refine al q ?_;clear q C;refine ax ?_;clear u;go_wp2;go_roundw
    case rel=>exact⟨i+1,_,_,_,_,_,_,_,by rw[kY,T];rfl,by go_num,kH,ae.out.1,ae.out.2⟩
    case measure=>simp[intOf];omega
   ·have cd:(0:Int)< (i:Int):=kH;have Z:(i==0)=false:=by rw[sV];omega
    have b9:Q.cell? ⟨o,0,none⟩=some (.string d):=am.cell 0;have ca:Q.cell? ⟨g,3,none⟩=some (.string G.1):=O.wk.blk.cell 3;have cv:Q.cell? ⟨g,4,none⟩=some (.string G.2):=O.wk.blk.cell 4;have cu:=O.wk.blk.free 4;have bw:=kG O am;clear O am;go_upto_region 6 with fail
    cases bc:sl G.1 d with
    |false=>
     have bH:=(lX d G.1).trans bc;have b0:Hid (KdP P b7 b1 B0 g m N an f steps l D x L w (.panicked aU) Q.drew):=⟨bw.out.1.fr.drew,kT ⟨by rw[aX.out,af.out,Z,q4 (by rw[bc];decide)];rfl,rfl⟩⟩;refine ay (fun bY=>bY.cell? ⟨o,0,none⟩=some (.string d)/\bY.cell? ⟨g,3,none⟩=some (.string G.1)) (fun k=>decide (7<=k)) kO ?_;have cs:Q.drew.cell? ⟨o,0,none⟩=some (.string d)/\Q.drew.cell? ⟨g,3,none⟩=some (.string G.1):=⟨b9,ca⟩;refine aa 0 cs ?_;refine aa 1 cs ?_;refine aa 2 cs ?_;refine aa 3 cs ?_;refine aa 4 cs ?_;refine aa 5 cs ?_;refine aa 6 cs ?_;refine aj 7 fun C q=> ?_;go_wp2_with fail;refine(f9 _).mono ?_;rintro e w' ⟨rfl,rfl⟩;go_wp2;exact⟨rfl,b0.out⟩
    |true=>
     have bH:=(lX d G.1).trans bc;obtain⟨ac,U⟩:∃ac:LSg,ac=(G.1,d):=⟨_,rfl⟩;have ap:Hid (wkK (wkT P f (steps:Nat)) ls true D x=((wkT P f (steps:Nat) I ac id).bind fun y=>(wkK (wkT P f (steps:Nat)) (ls.drop (i+1)) false y.2.1 y.2.2).map fun z=>(.cons d y.1 z.1,z.2)).map fun z=>(ft X z.1,z.2)):=by
      have:=af.out;rw[Z,qb (kT bc),q4 Bool.false_ne_true]at this;rw[U];exact this
     go_quiet (first|(go_at_call 161;exact sW (fl _)))
     have bd:=bw.out.1.below R (io kF nq);have be:=bd.sign R b3 d;rw[<-U]at be;have bS:=Blk.only (show Blk (Q.drewN nq) 230 o [.string d,.int .i64 id]from bw.out.2) (aB (Q.drewN nq) g 4 (.string d)) (s8 aw);have cP:((Q.drewN nq).setCell ⟨g,4,none⟩ (.string d)).1.size=o+1:=by rw[<-cq];simp
     have t:=kG be bS;clear be bS bd af bw bH Z;go_upto_region 8 with fail
     generalize (Q.drewN nq).setCell ⟨g,4,none⟩ (.string d)=H at*;clear b9 ca cu cv U bc;have ah:=b8 steps id I ac H.drew (t.out.1.wk.below R ⟨rfl,rfl,rfl,kE,fun _ _=>rfl⟩) (by have:=t.out.1.sn;omega) (k2 cl t.out.1.sn) kH kH;have u:H.drew.cell? ⟨o,0,none⟩=some (.string d)/\H.drew.cell? ⟨o,1,none⟩=some (.int .i64 id):=⟨Blk.cell t.out.2 0,Blk.cell t.out.2 1⟩;refine ay (fun bY=>bY.cell? ⟨o,0,none⟩=some (.string d)/\bY.cell? ⟨o,1,none⟩=some (.int .i64 id)) (fun k=>decide (10<=k)) kO ?_;refine aa 0 u ?_;refine aa 1 u ?_;refine aa 2 u ?_;refine aa 3 u ?_;refine aa 4 u ?_;refine aa 5 u ?_;refine aa 6 u ?_;refine aj 7 fun C q=> ?_;go_wp2_with fail;refine q2 ah ?_;rintro e A ⟨W,⟨cL,K,ad,c3,E,M,ak,rfl,bt,bs,bp,bq,bu⟩|⟨ab,rfl⟩⟩
     rotate_left
     ·have bh:=(t.out.1.fr.drew).transN W (fun k aH e=>by rcases e with e|e|e;exact kV e;exact kT (kV e);exact kT (kT (kV e)));go_wp2;exact⟨rfl,bh,kT ⟨by rw[aX.out,ap.out,ab];rfl,rfl⟩⟩
     clear ah;have V:=Blk.onlyS (show Blk H.drew 230 o [.string d,.int .i64 id]from t.out.2) W (fun e=>by rcases e with e|e|e;exact absurd (a6.out o e) kH;exact aw e.symm;exact bj e.symm);have S:A.cell? ⟨o,0,none⟩=some (.string d)/\A.cell? ⟨o,1,none⟩=some (.int .i64 id):=⟨Blk.cell V 0,Blk.cell V 1⟩;have cm:H.1.size<=A.1.size:=W.size;have F:=kG W (kR bt (kR bs (kR bp (kR bq (kR bu ak)))));clear W bt bs bp bq bu ak V;go_wp2_with fail;refine al q ?_;clear q C;refine aj 8 fun C q=> ?_;refine jV _ _ rfl (cs:=#[.string d,.iface E (.pointer M)]) ?bkc ?_
     case bkc=>
      simp only[k9,k4,k7];exact zm d E (.pointer M)
     refine al q ?_;clear q C;refine aj 9 fun C q=> ?_;refine fj _ _ _ rfl (v:= .slice (some ⟨A.1.size,0,none⟩) 1 1) (w':=A.alloc (.cells [.string d,.iface E (.pointer M)].toArray 276)) ?bsc ?_
     case bsc=>
      simp only[k9,k4,k7];exact gF nf kH (.agg #[.string d,.iface E (.pointer M)]) [.string d,.iface E (.pointer M)] rfl rfl A
     refine q.out _ _ (fun _=>⟨(((p4 A.1.size A).alloc kE _).cell (p:=⟨o,0,none⟩) (show o<A.1.size by omega)).trans S.1,(((p4 A.1.size A).alloc kE _).cell (p:=⟨o,1,none⟩) (show o<A.1.size by omega)).trans S.2⟩) ?_;clear q C;have J:=iB t.out.1.row (fun k aH=>F.out.1.block k (dw t.out.1.row k aH).2 (fun e=>by have cz:=(dw t.out.1.row k aH).1;rcases e with e|e|e;exact absurd (a6.out k e) kH;omega;omega));rw[T]at J;refine aj 10 fun C q=> ?_;refine jW _ _ nf rfl w.1.size a i c (kdF a7) rfl J [.string d,.iface E (.pointer M)] rfl (by simp[Value.oneCell']) rfl kH kH kH ?_;intro ct cw cO aO bb ar ba;refine al q ?_;clear q C;rw[<-T]at aO ar;have a9:=KdI.more R (KdI.below R t.out.1 (wr':=H.drew) ⟨rfl,rfl,rfl,kE,fun _ _=>rfl⟩) F.out.1 b3 bR (a6.out) F.out.2.1 F.out.2.2.1 F.out.2.2.2.1 F.out.2.2.2.2.1 F.out.2.2.2.2.2.1 (s:=d) aO ar ba;have a8:wkK (wkT P f (steps:Nat)) ls true D x=(wkK (wkT P f (steps:Nat)) (ls.drop (i+1)) (i+1==0) K ad).map fun z=>(ft (X++[(d,cL)]) z.1,z.2):=by
      rw[ap.out,F.out.2.2.2.2.2.2];show Option.map _ (Option.map _ (wkK (wkT P f (steps:Nat)) (ls.drop (i+1)) false K ad))=Option.map _ (wkK (wkT P f (steps:Nat)) (ls.drop (i+1)) false K ad);generalize wkK (wkT P f (steps:Nat)) (ls.drop (i+1)) false K ad=r;cases r with
      |none=>rfl
      |some z=>simp[xy]
     have ae:=kG a9 a8;clear a9 a8 aO ar bb J F t ap S;refine aj 11 fun C q=> ?_;go_wp2_with fail;refine al q ?_;clear q C;refine ax ?_;clear u;go_wp2;go_roundw
     case rel=>exact⟨i+1,_,_,_,_,_,_,_,by rw[kY,T];rfl,by go_num,kH,ae.out.1,ae.out.2⟩
     case measure=>simp[intOf];omega
  ·have ci:i=ls.length:=kH;have b2:Hid (((inP l).bind fun ls=>wkK (wkT P f (steps:Nat)) ls true D x)=some (ft X .nil,I,G)):=by
    show((inP l).bind fun ls=>wkK (wkT P f (steps:Nat)) ls true D x)=some (ft X .nil,I,G);rw[aX.out,a1,ci,List.drop_length,wkK]
    rfl
   clear ai a1 T;go_wp2_with fail;go_ret;exact⟨ag.out.fr,kV ⟨_,_,_,cr,a7,a,c,b2.out,rfl,ag.out.row,ag.out.rep,ag.out.nd,ag.out.hi,ag.out.wk,ag.out.sn⟩⟩
def gQ(w:World)(g:Nat):Option Nat:=match w.cell? ⟨g,0,none⟩with|some (.slice (some a) _ _)=>some a.block|_=>none
theorem JP(g B l k w)(h:Cur w g B l)(H:1<=k)(I:k<=l.length):
 Calls prog 97 #[.pointer (some ⟨g,0,none⟩),.int .i64 (k:Int)] w fun e w'=> ∃b off v,e= .returned (.slice (some ⟨b,off,none⟩) k v)/\OnlyB g w w'/\Cur w' g B (l.drop k)/\Bs w' (some ⟨b,off,none⟩) k v (l.take k)/\gQ w' g=gQ w g:=by
 obtain⟨a,n,c,h⟩:=h;have K:=h.bs.len_eq;obtain⟨b,off,rfl,J,_⟩:=h.bs.at_ kH;have r:=h.ne b off kH rfl;have x:=h.low b off kH rfl;have F:=h.bs.le;have z:=h.bs.le';unfold maxLen at z;have A:=h.blk.cell 0;have q:gQ w g=some b:=by unfold gQ;rw[A];rfl
 have G:=h.blk.free 0;have E:decide (k<=n)=true:=by simp;omega
 have t:Bs w (some ⟨b,off,none⟩) k c (l.take k):=by have:=h.bs.cut 0 k kH c kH h.bs.le';simpa using this
 have f:Bs w (some ⟨b,off+k,none⟩) (n-k) (c-k) (l.drop k):=by
  have:=h.bs.cut k (n-k) kH (c-k) kH (by have:=h.bs.le';omega);rwa [mm (by rw[k3];omega)]at this
 have m:Hid (∀d,(d=some ⟨b,off+k,none⟩\/(c=k/\d=some ⟨b,off,none⟩))->OnlyB g w (w.setCell ⟨g,0,none⟩ (.slice d (n-k) (c-k)))/\Cur (w.setCell ⟨g,0,none⟩ (.slice d (n-k) (c-k))) g B (l.drop k)/\Bs (w.setCell ⟨g,0,none⟩ (.slice d (n-k) (c-k))) (some ⟨b,off,none⟩) k c (l.take k)/\gQ (w.setCell ⟨g,0,none⟩ (.slice d (n-k) (c-k))) g=some b):=fun d s=>by
  have o:=aB w g 0 (.slice d (n-k) (c-k));refine⟨o,⟨d,n-k,c-k,h.blk.set 0 _,?_,fun u i C e=> ?_⟩,t.only o (fun u i _ e=>by cases e;exact r),?_⟩
  rotate_left
  rotate_left
  ·unfold gQ;rw[(h.blk.set 0 _).cell 0];rcases s with rfl|⟨hc,rfl⟩<;>rfl
  rotate_left
  ·rcases s with rfl|⟨hc,rfl⟩<;>cases e<;>exact x
  rcases s with rfl|⟨hc,rfl⟩
  ·exact f.only o (fun u i _ e=>by cases e;exact r)
  ·refine⟨f.len_eq,f.le,f.le',fun e=>(by cases e),fun C=>by omega,f.byte⟩
 have p:Hid _:=q;clear h t f q;go_enter func97,ntmps97;go_wp2_with fail;refine q2 (fl w) ?_;rintro e w1 ⟨rfl,D⟩;obtain rfl:=D.symm;go_wp2
 ·have y:c-k=0:=kH;go_ret;have j:=m.out (some ⟨b,off,none⟩) (kT ⟨by assumption,rfl⟩);rw[y]at j;exact⟨b,off,c,by simp_all,j.1,j.2.1,j.2.2.1,j.2.2.2.trans p.out.symm⟩
 ·go_ret;have j:=m.out (some ⟨b,off+k,none⟩) (kV rfl);exact⟨b,off,c,rfl,j.1,j.2.1,j.2.2.1,j.2.2.2.trans p.out.symm⟩
theorem JQ(g B l w)(h:Cur w g B l)(d:4<=l.length):
 Calls prog 186 #[.pointer (some ⟨g,0,none⟩)] w fun e w'=>e= .returned (.int .i64 (low (l.take 4)))/\OnlyB g w w'/\Cur w' g B (l.drop 4)/\gQ w' g=gQ w g:=by
 have T:=JP g B l 4 w h kH d;clear h;go_enter func186,ntmps186;go_wp2_with fail;refine q2 T ?_;rintro e w1 ⟨b,off,c,rfl,o,i,k,j⟩;have N:=lv _ 4 c (l.take 4) w1 k kH;have a:=kG o (kR i j);clear o i k T j;go_wp2_with fail;refine q2 N ?_;rintro e m ⟨rfl,f⟩;obtain rfl:=f.symm;go_wp2;go_ret;exact⟨rfl,a.out⟩
structure CurT(w:World)(g B:Nat)(l:List Int):Prop where
 cur:Cur w g B l
 ty:0<l.length->∀b,gQ w g=some b->∃cs fr,w.heap[b]?=some (.cells cs 5 fr)
theorem CurT.keep{w w' g B l}(h:CurT w g B l)(r:KeepT 162 w w')(m:KeepT 5 w w'):CurT w' g B l:=by
 obtain⟨⟨a,n,c,d⟩,o⟩:=h;have k:=d.blk.keepT r;have p:gQ w' g=gQ w g:=by unfold gQ;rw[k.cell 0,d.blk.cell 0]
 have q:BsT w a n c l:=⟨d.bs,fun f=>by
  obtain⟨b,off,e,_,_⟩:=d.bs.at_ f;obtain⟨cs,fr,j⟩:=o (by rw[d.bs.len_eq];exact f) b (by unfold gQ;rw[d.blk.cell 0,e];rfl);exact⟨b,off,cs,fr,e,j⟩⟩
 refine⟨⟨a,n,c,k,(q.keep m).bs,d.low⟩,fun f b i=> ?_⟩;rw[p]at i;obtain⟨cs,fr,j⟩:=o f b i;exact⟨cs,fr,m.block b cs fr j⟩
theorem zv(g B l w)(h:CurT w g B l)(k:4<=l.length):
 Calls prog 186 #[.pointer (some ⟨g,0,none⟩)] w fun e w'=>e= .returned (.int .i64 (low (l.take 4)))/\OnlyB g w w'/\CurT w' g B (l.drop 4):=by
 refine(JQ g B l w h.cur k).mono ?_;rintro e w' ⟨rfl,o,m,p⟩;refine⟨rfl,o,m,fun _ b f=> ?_⟩;rw[p]at f;obtain⟨cs,fr,d⟩:=h.ty kH b f;obtain⟨a,n,c,j⟩:=h.cur;have i:b≠g:=fun e=>by
  subst e;have:=j.blk;unfold Blk at this;rw[d]at this;cases this
 exact⟨cs,fr,(o.block b (k6.1 d).1 i).trans d⟩
theorem JS{w a n c l}(h:BsT w a n c l):CurT (w.alloc (.cells #[.slice a n c] 162)) w.1.size w.1.size l:=by
 have q:=bAl w (.cells #[.slice a n c] 162);have j:=ao w 162 #[.slice a n c];have i:=h.keep (aW q);refine⟨⟨a,n,c,⟨j,i.bs,fun b off o e=> ?_⟩⟩,fun p b d=> ?_⟩
 ·obtain⟨k,g,f,d,_⟩:=h.bs.at_ o;rw[f]at e;cases e;exact d
 ·unfold gQ at d;rw[j.cell 0]at d;obtain⟨k,g,cs,fr,f,m⟩:=i.ty (by have:=h.bs.len_eq;omega);rw[f]at d;cases d;exact⟨cs,fr,m⟩
