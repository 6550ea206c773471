import Derived.Test.YtnohmedccbogkaaGreatDoorCo19
import Derived.Test.YtnohmedccbogkaaGreatDoorCo15
namespace Go.Proofs.YtnohmedccbogkaaGreatDoor
open Go.Proofs.Tryz
open Go.RowKit
set_option linter.unusedVariables false
set_option maxRecDepth 100000
set_option maxHeartbeats 32000000
def bB:Tr->List Int
 | .leaf id _=>[id]
 | .node id ks=>id::bB ks
 | .nil=>[]
 | .cons _ t ks=>bB t++bB ks
def iK(L:List (ByteArray×Tr)):List Int:=L.flatMap (fun x=>bB x.2)
theorem zg:∀ks:Tr,isT ks=false->∀b,full ks b->bB ks=iK (aA ks)
 | .leaf _ _,h,_,_=>by simp[isT]at h
 | .node _ _,h,_,_=>by simp[isT]at h
 | .nil,_,_,_=>by simp[bB,iK,aA]
 | .cons s c ks,_,b,a=>by
  rw[full]at a;rw[bB,aA,zg ks a.2.2.1 false a.2.2.2.2];simp[iK]
theorem tB{a b}(N)(h:∀x,x∈a↔x∈b):mkB a N=mkB b N:=by
 unfold mkB;apply List.map_congr_left;intro i _;have:a.contains (i:Int)=b.contains (i:Int):=by rw[Bool.eq_iff_iff,m9,m9];exact h _
 rw[this]
theorem TSt.onlyM{B0 g sb N mb rt w w' ns nv na nc seen tall bad}(h:TSt B0 g sb N rt w ns nv na nc seen tall bad)(c:OnlyB mb w w')(d:∃b,w.heap[mb]?=some (.cells b 4 (0,0)))(m:mb≠sb):TSt B0 g sb N rt w' ns nv na nc seen tall bad:=by
 obtain⟨b,e⟩:=d;have a:∀l,4≠l->KeepT l w w':=fun l j=>iN c e j;refine⟨h.blk.keepT (a _ kN),?_,dL h.nodes (a _ kN),fun i f=>(h.each i f).keep (a _ kN) (a _ kN),k2 h.gB c.size,h.ok⟩;refine⟨h.mks.1,?_⟩;rcases h.mks.2 with h2|⟨k,cap,cur2,hv,hg,hh,r⟩
 ·exact kV h2
 ·refine kT ⟨k,cap,cur2,hv,hg,?_,r⟩;simp only[s0,Option.some.injEq,Addr.mk.injEq,and_true,true_and]at hv;rw[c.block k (k6.1 hh).1 kH];exact hh
def PgC(B0 g sb N:Nat)(rt:Int)(ns:List NdK)(nv:Nat->NdV)(na:Option Addr)(nc:Nat)(seen:List Int)(tall:Int)(bad:Bool)(mb:Nat)(t:Tr):Prop:= ∀(p:Int)(sn:List Int)(w:World),TSt B0 g sb N rt w ns nv na nc seen tall bad->Own1 4 0 w (some ⟨mb,0,none⟩) N N (mkB sn N)->Rep ns t true [p] []->(∀id∈bB t,0<id/\id< (N:Int))->
 Calls prog 177 #[.pointer (some ⟨g,0,none⟩),.int .i64 p,.slice (some ⟨mb,0,none⟩) N N] w fun e w'=>e= .returned (.tuple #[])/\OnlyB mb w w'/\Own1 4 0 w' (some ⟨mb,0,none⟩) N N (mkB (bB t++sn) N)
theorem zh{B0 g sb N rt ns nv na nc seen tall bad mb}(L:mb≠sb)(bh:ns.length<=1048576)(bl:N<=1024)(q K)(an:ns[q]?=some K)(a)(bf:a.length<=1048576)(I:K.kids.length=a.length)(i:Nat)(bb:K.page=(i:Int))(bg:0<i)(p:i<N)(s:∀m,m<a.length->Rep ns (a.getD m t0).2 true [K.kids.getD m 0] [])(ad:∀m,m<a.length->PgC B0 g sb N rt ns nv na nc seen tall bad mb (a.getD m t0).2)(F:∀m,m<a.length->∀id∈bB (a.getD m t0).2,0<id/\id< (N:Int))(sn w)(B:TSt B0 g sb N rt w ns nv na nc seen tall bad)(aH:Own1 4 0 w (some ⟨mb,0,none⟩) N N (mkB sn N)):
 Calls prog 177 #[.pointer (some ⟨g,0,none⟩),.int .i64 (q:Nat),.slice (some ⟨mb,0,none⟩) N N] w fun e w'=>e= .returned (.tuple #[])/\OnlyB mb w w'/\Own1 4 0 w' (some ⟨mb,0,none⟩) N N (mkB (iK a++((i:Int)::sn)) N):=by
 obtain⟨b,rfl,k,ap,bj⟩:=pS B an;have ak:w.cell? ⟨g,0,none⟩=some (.slice (some ⟨b,0,none⟩) ns.length nc):=B.blk.cell 0;have y:=bAl w (.cells (ndc (nv q) K).toArray 257);have aO:=ao w 257 (ndc (nv q) K).toArray;have a1:(prog.info? 257).map (·.size)=some (ndc (nv q) K).length:=bM;have bi:¬(q:Int)<0:=kH;go_enter func177,ntmps177;go_upto_region 2 with(first|(refine dm rfl 257 _ rfl b (q*6) rfl (ndc (nv q) K) _ k q8 rfl a1 ?_)|(refine aL rfl 257 _ _ rfl w (ndc bX nd0).toArray (ndc (nv q) K).toArray 257 rfl rfl bM rfl (fT _ _) ?_))
 change Code.wp _ _ _ _ (w.alloc (.cells (ndc (nv q) K).toArray 257));have ae:=ap.below y;have P:=B.belowT y;have u:=aH.below y;have be:(w.alloc (.cells (ndc (nv q) K).toArray 257)).1.size=w.1.size+1:=by simp
 generalize w.alloc (.cells (ndc (nv q) K).toArray 257)=T at*;have t:Blk T 257 w.1.size (ndc (nv q) K):=aO;obtain⟨_,a8,o⟩:=u.blk;have v:=aB T mb i (.bool true);have c:∀Z,4≠Z->KeepT Z T (T.setCell ⟨mb,i,none⟩ (.bool true)):=fun Z V=>iN v o V;have W:=u.set i (.bool true);rw[pH _ _ _ p]at W;have Q:=P.onlyM v ⟨_,o⟩ L;have O:=t.keepT (c _ kN);have af:=ae.keep (c _ kN) (c _ kN);have a2:=(Below.onlyB y mb).trans v;have a4:T.cell? ⟨w.1.size,0,none⟩=some (.int .i64 (i:Nat)):=(t.cell 0).trans (by rw[<-bb];rfl);obtain⟨_,a9,_,_,_,M⟩:=u.at_ kH;cases a9;have a5:=(M i p).trans (rx some (kU sn N i p));have ba:=u.free i;have l:=kG Q (kR W (kR O (kR af a2)));have bk:w.1.size< (T.setCell ⟨mb,i,none⟩ (.bool true)).1.size:=by have:=v.size;omega
 clear aO t ae ap y k ak B an a1 P u W Q O af a2 c v o M aH be;have ab:Hid _:=ad;have R:Hid _:=s;have ac:Hid _:=F;clear ad s F;go_upto_region 4 with fail
 generalize T.setCell ⟨mb,i,none⟩ (.bool true)=ah at*;clear a4 a5 ba;generalize H:K.kids=kd at*;have bc:kd.length<=1048576:=kH;have D:Hid (kd.length=a.length):=I;clear I;go_wp2_with fail;go_loopw [7] (fun x wr=> ∃j:Nat,x= .int .i64 (j:Nat)/\j<=kd.length/\OnlyB mb ah wr/\Own1 4 0 wr (some ⟨mb,0,none⟩) N N (mkB (iK (a.take j)++((i:Int)::sn)) N)) (fun x _=>kd.length-(intOf x).toNat)
 case atStart=>exact⟨0,rfl,kX _,OnlyB.refl _ _,by simpa [iK]using l.out.2.1⟩
 case round=>
  obtain⟨j,rfl,bn,r,d⟩:=hrel;obtain⟨C,rfl⟩:∃x,x=wr:=⟨_,rfl⟩;obtain⟨_,a7,n⟩:=l.out.2.1.blk;have c:∀Z,4≠Z->KeepT Z ah C:=fun Z V=>iN r n V;have z:=l.out.1.onlyM r ⟨_,n⟩ L;have aX:=l.out.2.2.1.keepT (c _ kN);have S:=l.out.2.2.2.1.keep (c _ kN) (c _ kN);have ai:C.cell? ⟨w.1.size,4,none⟩=some (.slice (nv q).da kd.length (nv q).dc):=by rw[<-H];exact aX.cell 4
  have bd:Hid (OnlyB mb w C):=l.out.2.2.2.2.trans r;have a3:Hid _:=r;clear r c aX n;by_cases J:j<kd.length
  ·have U:(j:Int)< (kd.length:Int):=kH;have f:j<a.length:=by have:=D.out;omega
   have Y:=S.kids;rw[H]at Y;obtain⟨bp,E,_,_,_,G⟩:=Y.at_ kH;rw[E]at ai;have a6:=(G j J).trans (rx some (lM kd j J));have ag:=ab.out j f (kd.getD j 0) _ C z d (R.out j f) (ac.out j f);have am:Hid (mkB (bB (a.getD j t0).2++(iK (a.take j)++((i:Int)::sn))) N=mkB (iK (a.take (j+1))++((i:Int)::sn)) N):=tB N (fun x=>by
    have e:a.take (j+1)=a.take j++[a.getD j t0]:=by rw[List.take_add_one];simp[List.getD,List.getElem?_eq_getElem f]
    rw[e];simp only[iK,pv,List.flatMap_cons,List.flatMap_nil,lj,mx];constructor
    ·rintro(h|h|h)
     ·exact kV (kT h)
     ·exact kV (kV h)
     ·exact kT h
    ·rintro((h|h)|h)
     ·exact kT (kV h)
     ·exact kV h
     ·exact kT (kT h))
   generalize kd.getD j 0=bq at*;clear G Y S z d E;go_wp2_with fail;refine ag.mono ?_;rintro e bs ⟨rfl,a0,X⟩;rw[am.out]at X;have A:=kG a0 X;clear ag a0 X ai a6;go_wp2_with fail;go_roundw
   case rel=>exact⟨j+1,by go_num,kH,a3.out.trans A.out.1,A.out.2⟩
   case measure=>simp[intOf];omega
  ·have aw:j=kd.length:=kH;have U:¬(j:Int)< (kd.length:Int):=kH;have ar:a.take j=a:=mm (by have:=D.out;omega);rw[ar]at d;have A:Hid _:=d;clear d S z ar aw;go_wp2_with fail
   go_end0
   exact⟨rfl,bd.out,A.out⟩
theorem pV{B0 g sb N rt ns nv na nc seen tall bad mb}(d:mb≠sb)(f:ns.length<=1048576)(k:N<=1024):∀j:Tr,
 (isT j=true->full j true->smT j->PgC B0 g sb N rt ns nv na nc seen tall bad mb j)/\(isT j=false->∀b,full j b->smT j->∀m,m< (aA j).length->PgC B0 g sb N rt ns nv na nc seen tall bad mb ((aA j).getD m t0).2)
 | .leaf id es=>⟨fun _ _ _=>fun p sn w y a hr l=>by
  rw[Rep]at hr;obtain⟨q,u,o⟩:=hr;cases u;have B:=l id (by simp[bB]);have:=zh (mb:=mb) d f k q _ o [] kP rfl id.toNat (by show id= _;omega) kH kH (fun m a=>by simp at a) (fun m a=>by simp at a) (fun m a=>by simp at a) sn w y a;rw[show((id.toNat:Nat):Int)=id by omega]at this;simpa [bB,iK]using this,fun h=>by simp[isT]at h⟩
 | .node id ks=>⟨fun _ c i=>fun p sn w y a hr l=>by
  rw[Rep]at hr;obtain⟨q,kd,G,u,o,F⟩:=hr;cases u;rw[full]at c;rw[smT]at i;have t:isT ks=false:=by obtain⟨s,j,r,rfl⟩:=c.1;rfl
  obtain⟨z,_,v⟩:=pT ks true kd G t c.2 F;have B:=l id (by simp[bB]);have n:=zg ks t true c.2;have A:=fun m a x hx=>l x (by
   rw[bB,n,l3];refine kT (List.mem_flatMap.2 ⟨(aA ks).getD m t0,?_,hx⟩);have e:(aA ks).getD m t0=(aA ks)[m]:=by simp[List.getD,List.getElem?_eq_getElem a]
   rw[e];exact o2 _)
  have:=zh (mb:=mb) d f k q _ o (aA ks) i.1 z id.toNat (by show id= _;omega) kH kH v ((pV d f k ks).2 t true c.2 i.2) A sn w y a;rw[show((id.toNat:Nat):Int)=id by omega]at this;refine this.mono ?_;rintro e w' ⟨C,D,E⟩;refine⟨C,D,?_⟩;rw[tB (b:=iK (aA ks)++(id::sn)) N (fun x=>by
   rw[bB,n];simp only[List.cons_append,l3,mx];constructor
   ·rintro(h|h|h)
    ·exact kT (kV h)
    ·exact kV h
    ·exact kT (kT h)
   ·rintro(h|h|h)
    ·exact kT (kV h)
    ·exact kV h
    ·exact kT (kT h))]
  exact E,fun h=>by simp[isT]at h⟩
 | .nil=>⟨fun h=>by simp[isT]at h,fun _ _ _ _ m a=>by simp[aA]at a⟩
 | .cons s j ks=>⟨fun h=>by simp[isT]at h,fun _ b c i m a=>by
  rw[full]at c;rw[smT]at i;cases m with
  |zero=>exact(pV d f k j).1 c.2.1 c.2.2.2.1 i.1
  |succ m=>exact(pV d f k ks).2 c.2.2.1 false c.2.2.2.2 i.2 m (by simpa [aA]using a)⟩
theorem pW:∀(n:Nat)(l:List Int)(es:List (ByteArray×ByteArray)),l.length<=n->lfP l=some es->es.length<=l.length/\∀e∈es,1<=e.1.size
 |0,l,r,h,e=>by rw[mu kH]at e;cases e;exact⟨kP,kP⟩
 |n+1,l,r,h,e=>by
  by_cases b:l.length=0
  ·rw[mu b]at e;cases e;exact⟨kP,kP⟩
  ·cases a:fk l with
   |false=>rw[jZ b a]at e;cases e
   |true=>
    rw[qK a]at e;obtain⟨d,c,rfl⟩:=n7.1 e;have f:=iO.1 a;have g:gT l=2+lfK l+lfV l:=rfl;have:=pW n (l.drop (gT l)) d (by rw[k3];omega) c;rw[k3]at this;refine⟨by simp;omega,fun x hx=> ?_⟩;rcases l3.1 hx with rfl|hx
    ·show 1<=(ez l).size;unfold ez;rw[rg,lw,k3];omega
    ·exact this.2 x hx
theorem zi:∀(n:Nat)(l:List Int)(ls:List (ByteArray×Int)),l.length<=n->lnP l=some ls->∀e∈ls,1<=e.1.size
 |0,l,r,h,e=>by rw[jy kH]at e;cases e;simp
 |n+1,l,r,h,e=>by
  by_cases b:l.length=0
  ·rw[jy b]at e;cases e;simp
  ·cases a:fN l with
   |false=>rw[lr b a]at e;cases e
   |true=>
    rw[mv a]at e;obtain⟨d,c,rfl⟩:=n7.1 e;have f:=iP.1 a;have:=zi n (l.drop (5+lfK l)) d (by rw[k3];omega) c;intro x hx;rcases l3.1 hx with rfl|hx
    ·show 1<=(ez l).size;unfold ez;rw[rg,lw,k3];omega
    ·exact this x hx
structure TrOk(P:Pg)(N:Nat)(st:St)(t:Tr)(st':St):Prop where
 full:full t true
 isT:isT t=true
 sm:smT t
 keys:∀k∈aR t,1<=k.size
 pgs:∀x∈bB t,2<=x/\x< (N:Int)
 seen:st'.seen.Perm (bB t++st.seen)
structure KsOk(P:Pg)(N:Nat)(st:St)(b:Bool)(ls:List (ByteArray×Int))(t:Tr)(st':St):Prop where
 full:full t b
 isT:isT t=false
 sm:smT t
 len:(aA t).length=ls.length
 keys:∀k∈aR t,1<=k.size
 pgs:∀x∈bB t,2<=x/\x< (N:Int)
 seen:st'.seen.Perm (bB t++st.seen)
theorem zj{P N r}(hr:∀d id i c,r d id=some (i,c)->TrOk P N d i c):∀(ls:List (ByteArray×Int))(b:Bool)(d:St)(i:Tr)(c:St),(∀m,(b=true->0<m)->m<ls.length->1<=(ls.getD m d0).1.size)->rdK r ls d=some (i,c)->KsOk P N d b ls i c
 |[],b,d,i,c,_,h=>by
  rw[rdK]at h;cases h;exact⟨by simp[full],rfl,by simp[smT],rfl,by simp[aR],by simp[bB],by simp[bB]⟩
 |(s,id)::ls,b,d,i,c,j,h=>by
  rw[rdK]at h;obtain⟨x,n,o⟩:=m5.1 h;obtain⟨y,q,t⟩:=m5.1 o;cases t;have a:=hr d id x.1 x.2 n;have k:=zj hr ls false x.2 y.1 y.2 (fun m _ v=>by
   have:=j (m+1) (fun _=>by omega) (by simp;omega);simpa using this) q
  refine⟨?_,rfl,⟨a.sm,k.sm⟩,by simp[aA,k.len],fun l f=> ?_,fun p g=> ?_,?_⟩
  ·rw[full];exact⟨fun u=>by simpa using j 0 (fun e=>by rw[u]at e;cases e) kP,a.isT,k.isT,a.full,k.full⟩
  ·rw[aR,mx]at f;rcases f with f|f
   ·exact a.keys l f
   ·exact k.keys l f
  ·rw[bB,mx]at g;rcases g with g|g
   ·exact a.pgs p g
   ·exact k.pgs p g
  ·rw[bB];refine k.seen.trans ?_;refine(List.Perm.append_left _ a.seen).trans ?_;rw[<-k5];exact List.Perm.append_right _ List.perm_append_comm
theorem jQ{P N}(q:PgW P N):∀(f:Nat)(steps:Int)(a:St)(id:Int)(p:Tr)(b:St),rdT P f steps a id=some (p,b)->TrOk P N a p b
 |0,steps,a,id,p,b,h=>by rw[rdT]at h;cases h
 |f+1,steps,a,id,p,b,h=>by
  rw[rdT]at h;cases t:eB P a id with
  |false=>rw[q4 (by rw[t];decide)]at h;cases h
  |true=>
   rw[qb t]at h;obtain⟨H,C,K,L⟩:=gV.1 t;have w:=(q.ok id H).2;have J:=q.len id;by_cases i:P.kd id=2
   ·rw[qb i]at h;by_cases B:a.tall<0\/a.tall=steps
    ·rw[qb B]at h;obtain⟨es,l,d⟩:=m5.1 h;by_cases g:es.isEmpty=true
     ·rw[qb g]at d;cases d
     ·rw[q4 g]at d;cases d;have D:=pW _ _ es kE l;exact⟨by rw[full];simpa using g,rfl,by rw[smT];omega,fun k i=>by
       rw[aR]at i;obtain⟨e,g,rfl⟩:=oj.1 i;exact D.2 e g,fun x hx=>by rw[bB]at hx;simp at hx;subst hx;exact⟨C,w⟩,by simp[bB]⟩
    ·rw[q4 B]at h;cases h
   ·rw[q4 i]at h;obtain⟨ls,l,d⟩:=m5.1 h;obtain⟨y,F,n⟩:=n7.1 d;cases n;have I:=pQ l;have c:=l;unfold inP at c;by_cases n:4<=(P.bd id).length
    ·rw[qb n]at c;obtain⟨r,E,v⟩:=n7.1 c;have D:=zi _ _ r kE E;have k:=zj (P:=P) (N:=N) (fun a id p b h=>jQ q f (steps+1) a id p b h) ls true ⟨id::a.seen,a.tall⟩ y.1 y.2 (fun m G z=>by
      subst v;cases m with
      |zero=>exact absurd (G rfl) (oP _)
      |succ m=>
       have A:m<r.length:=by simpa using z
       have:=D r[m] (o2 _);simpa [List.getD,List.getElem?_eq_getElem A]using this) F
     refine⟨?_,rfl,⟨by rw[k.len];omega,k.sm⟩,k.keys,fun x hx=> ?_,?_⟩
     ·rw[full];refine⟨?_,k.full⟩;have j:=k.len;have o:=k.isT;cases u:y.1 with
      |cons s p r=>exact⟨s,p,r,rfl⟩
      |nil=>rw[u]at j;subst v;simp[aA]at j
      |leaf _ _=>rw[u]at o;simp[Go.Proofs.YtnohmedccbogkaaGreatDoor.isT]at o
      |node _ _=>rw[u]at o;simp[Go.Proofs.YtnohmedccbogkaaGreatDoor.isT]at o
     ·rw[bB,l3]at hx;rcases hx with rfl|hx
      ·exact⟨C,w⟩
      ·exact k.pgs x hx
     ·rw[bB];have:=k.seen;exact this.trans kP
    ·rw[q4 n]at c;cases c
def wkc(src:Value)(m:Nat)(tall:Int)(x:LSg):List Value:=[src,.map (some m),.int .i64 tall,.string x.1,.string x.2]
theorem tC:(prog.info? 93).map (·.size)=some 2:=kO
theorem ng(es n):IsRow 2 (enF es) n:=⟨fun _ _=>rfl,fun i _ b a=>by simp[enF]at a;rcases a with rfl|rfl<;>rfl⟩
theorem OnlyS.drewN{Z a b}(h:OnlyS Z a b)(n):OnlyS Z a (b.drewN n):=⟨h.os,h.tape,h.output,h.size,h.block⟩
theorem OnlyS.drew{Z a b}(h:OnlyS Z a b):OnlyS Z a b.drew:=⟨h.os,h.tape,h.output,h.size,h.block⟩
def WeP(l:List Int)(x:LSg)(g gc:Nat)(src:Value)(m:Nat)(tall:Int)(w:World)(e:Ending)(w':World):Prop:=
 OnlyS (fun k=>k=g\/k=gc) w w'/\((∃es a c z,leR l x=some (es,z)/\e= .returned (.slice a es.length c)/\ORow 93 2 w.1.size w' a es.length c (enF es)/\Blk w' 271 g (wkc src m tall z))\/(leR l x=none/\e= .panicked aU))
theorem ip{e s B w a n c f}(h:ORow e s B w a n c f)(m:0<n):∃g,a=some ⟨g,0,none⟩/\B<=g/\g<w.1.size:=by
 rcases h.2 with⟨b,l⟩|⟨g,j,k,b,d,i,_⟩
 ·omega
 ·cases b;exact⟨g,rfl,d,(k6.1 i).1⟩
theorem lX(a b):(!Op.bytesLess a.toList b.toList&& !a.toList==b.toList)=sl b a:=by
 cases h:sl b a with
 |true=>
  have d:Op.bytesLess a.toList b.toList=false:=by
   cases f:Op.bytesLess a.toList b.toList with
   |false=>rfl
   |true=>have:=jx (a:=a) (b:=b) (c:=a) f h;rw[lq]at this;cases this
  have f:(a.toList==b.toList)=false:=by
   rw[sV];intro e;rw[qH e,lq]at h;cases h
  rw[d,f];rfl
 |false=>
  cases d:Op.bytesLess a.toList b.toList with
  |true=>rfl
  |false=>
   have:=uC d h;subst this;simp
theorem JG(e es)(x:LSg):orE (e::es) x=if sl x.1 e.1=true/\sle x.2 e.1=true then orE es (e.1,x.2)else none:=by rw[orE]
theorem JH(g p B l t m tall x w)(q:Blk w 271 g (wkc t m tall x))(h:Cur w p B l)(a3:B<=w.1.size)(a6:l.length<=1048576)(aw:g≠p):
 Calls prog 207 #[.pointer (some ⟨g,0,none⟩),.pointer (some ⟨p,0,none⟩)] w fun e w'=>WeP l x g p t m tall w e w':=by
 have a5:=q.lt;have ba:=yL p B l w h a3 a6;have af:Hid _:=q;clear q h;go_enter func207,ntmps207;go_wp2_with fail;refine ba.mono ?_;rintro e w1 ⟨ab,a0⟩;clear ba;have Y:=Blk.only af.out ab aw;have ad:=(OnlyS.ofB ab).mono (Z2:=fun k=>k=g\/k=p) (fun k _ e=>kT e);clear ab af;rcases a0 with⟨es,a,c,H,P,rfl,hr⟩|⟨Q,rfl⟩
 rotate_left
 ·have X:leR l x=none:=by
   unfold leR;rcases Q with e|e<;>rw[e] <;>rfl
  clear Q Y;go_wp2;exact⟨rfl,ad,kT ⟨X,rfl⟩⟩
 have O:leR l x=(orE es x).map fun z=>(es,z):=by
  unfold leR;rw[H,nn,q4 (by simpa using P)]
 have a7:=(pW _ _ es kE H).1;have E:=kG Y (kR ad (kR hr O));clear H P Y ad hr O;go_wp2_with fail;go_loopw [12] (fun s wr=> ∃(i:Nat)(f:ByteArray),s= .int .i64 i/\i<=es.length/\OnlyS (fun k=>k=g\/k=p) w wr/\Blk wr 271 g (wkc t m tall (f,x.2))/\ORow 93 2 w.1.size wr a es.length c (enF es)/\orE es x=orE (es.drop i) (f,x.2)) (fun s _=>es.length-(intOf s).toNat)
 case atStart=>exact⟨0,x.1,by rfl,kH,E.out.2.1,E.out.1,E.out.2.2.1,by rfl⟩
 case round=>
  obtain⟨i,f,rfl,be,K,q,hr,A⟩:=hrel;obtain⟨u,rfl⟩:∃x,x=wr:=⟨_,rfl⟩;have L:Hid _:=E.out.2.2.2;clear E;by_cases I:i<es.length
  ·have a8:(i:Int)< (es.length:Int):=kH;obtain⟨b,rfl,bb,bc⟩:=ip hr kH;have y:=fun j v a9=>(hr.reads (ng es _)).cells i I j v a9;rw[show enF es i=[.string (es.getD i e0).1,.string (es.getD i e0).2]from rfl]at y;have N:es.drop i=es.getD i e0::es.drop (i+1):=by
    rw[oF I];simp[List.getD,I]
   generalize es.getD i e0=d at*;have am:u.cell? ⟨b,i*2,none⟩=some (.string d.1):=by have:=y 0 _ rfl;simpa using this
   have an:u.cell? ⟨b,i*2+1,none⟩=some (.string d.2):=by have:=y 1 _ rfl;simpa using this
   clear y;have J:=JG d (es.drop (i+1)) (f,x.2);rw[<-N]at J;have Z:=ao u 93 #[.string d.1,.string d.2];have ac:=bAl u (.cells #[.string d.1,.string d.2] 93);have r:=q.below ac;have o:=kG K (kR hr (kR A (kR J ac)));clear K hr A J N q ac;go_upto_region 5 with(first|(refine aL rfl 93 _ _ rfl u #[.string (strOfNums []),.string (strOfNums [])] #[.string d.1,.string d.2] 93 rfl rfl tC rfl rfl ?_))
   change Code.wp _ _ _ _ (u.alloc (.cells #[.string d.1,.string d.2] 93));generalize u.alloc (.cells #[.string d.1,.string d.2] 93)=n at*;generalize G:u.1.size=F at*;have ah:n.cell? ⟨F,0,none⟩=some (.string d.1):=Z.cell 0;have ai:n.cell? ⟨g,3,none⟩=some (.string f):=r.cell 3;have ak:n.cell? ⟨g,4,none⟩=some (.string x.2):=r.cell 4;have bd:=r.free 3;have ag:=kG r Z;clear r Z am an;by_cases V:sl f d.1=true/\sle x.2 d.1=true
   ·obtain⟨C,U⟩:=V;have M:=(lX d.1 f).trans C;have ap:Op.bytesLess d.1.toList x.2.toList=false:=by unfold sle sl at U;simpa using U
    go_quiet (first|(go_at_call 161;exact sW (fl _)))
    go_wp2;have ar:=(o.out.1.trans (OnlyS.ofBelow (by rw[G];exact o.out.2.2.2.2))).drewN nq;have aO:Blk (n.drewN nq) 271 g (wkc t m tall (f,x.2)):=ag.out.1;have aX:=aO.set 3 (.string d.1);have R:=aB (n.drewN nq) g 3 (.string d.1);go_roundw
    case rel=>
     refine⟨i+1,d.1,by go_num,kH,ar.trans ((OnlyS.ofB R).mono (fun k _ e=>kV e)),aX,?_,?_⟩
     ·have a1:=o.out.2.1.below (by rw[G];exact io o.out.2.2.2.2 nq);exact a1.onlyN R a5
     ·rw[o.out.2.2.1,o.out.2.2.2.1,qb ⟨C,U⟩]
    case measure=>simp[intOf];omega
   ·have S:Hid (leR l x=none):=by
     show leR l x=none;rw[L.out,o.out.2.2.1,o.out.2.2.2.1,q4 V]
     rfl
    have D:Hid (WeP l x g p t m tall w (.panicked aU) n.drew):=⟨(o.out.1.trans (OnlyS.ofBelow (by rw[G];exact o.out.2.2.2.2))).drew,kT ⟨S.out,rfl⟩⟩;cases C:sl f d.1 with
    |false=>
     have M:=(lX d.1 f).trans C;refine ay (fun ae=>ae.cell? ⟨F,0,none⟩=some (.string d.1)/\ae.cell? ⟨g,3,none⟩=some (.string f)/\ae.cell? ⟨g,4,none⟩=some (.string x.2)) (fun k=>decide (16<=k)) kO ?_;have cs:n.drew.cell? ⟨F,0,none⟩=some (.string d.1)/\n.drew.cell? ⟨g,3,none⟩=some (.string f)/\n.drew.cell? ⟨g,4,none⟩=some (.string x.2):=⟨ah,ai,ak⟩;refine aa 0 cs ?_;refine aa 1 cs ?_;refine aa 2 cs ?_;refine aa 3 cs ?_;refine aa 4 cs ?_;refine aa 5 cs ?_;refine aa 6 cs ?_;refine aa 7 cs ?_;refine aq 8 cs ?_;refine aq 9 cs ?_;refine aq 10 cs ?_;refine aq 11 cs ?_;refine aq 12 cs ?_;refine aq 13 cs ?_;refine aq 14 cs ?_;refine aa 15 cs ?_;refine aj 16 fun a2 a4=> ?_;go_wp2_with fail;refine(f9 _).mono ?_;rintro e w' ⟨rfl,rfl⟩;go_wp2;exact⟨rfl,D.out⟩
    |true=>
     have ap:Op.bytesLess d.1.toList x.2.toList=true:=by
      cases h:Op.bytesLess d.1.toList x.2.toList with
      |true=>rfl
      |false=>exact absurd ⟨C,by unfold sle sl;rw[h];rfl⟩ V
     have M:=(lX d.1 f).trans C;refine ay (fun ae=>ae.cell? ⟨F,0,none⟩=some (.string d.1)/\ae.cell? ⟨g,3,none⟩=some (.string f)/\ae.cell? ⟨g,4,none⟩=some (.string x.2)) (fun k=>decide (16<=k)) kO ?_;have cs:n.drew.cell? ⟨F,0,none⟩=some (.string d.1)/\n.drew.cell? ⟨g,3,none⟩=some (.string f)/\n.drew.cell? ⟨g,4,none⟩=some (.string x.2):=⟨ah,ai,ak⟩;refine aa 0 cs ?_;refine aa 1 cs ?_;refine aa 2 cs ?_;refine aa 3 cs ?_;refine aa 4 cs ?_;refine aa 5 cs ?_;refine aa 6 cs ?_;refine aa 7 cs ?_;refine aa 8 cs ?_;refine aa 9 cs ?_;refine aa 10 cs ?_;refine aa 11 cs ?_;refine aa 12 cs ?_;refine aa 13 cs ?_;refine aa 14 cs ?_;refine aa 15 cs ?_;refine aj 16 fun a2 a4=> ?_;go_wp2_with fail;refine(f9 _).mono ?_;rintro e w' ⟨rfl,rfl⟩;go_wp2;exact⟨rfl,D.out⟩
  ·have aH:i=es.length:=kH;subst aH;have W:Hid (leR l x=some (es,(f,x.2))):=by
    show leR l x=some (es,(f,x.2));rw[L.out,A,List.drop_length,orE]
    rfl
   have T:=kG K (kR hr q);clear K hr q A;go_wp2_with fail;go_ret;exact⟨T.out.1,kV ⟨es,a,c,(f,x.2),W.out,rfl,T.out.2.1,T.out.2.2⟩⟩
def mkd(sn:List Int)(N:Nat):List Int:=((List.range N).filter fun(i:Nat)=>sn.contains (i:Int)).map fun(i:Nat)=>(i:Int)
theorem JI(sn j):mkd sn (j+1)=if sn.contains (j:Int)=true then mkd sn j++[(j:Int)]else mkd sn j:=by
 unfold mkd;rw[List.range_succ,List.filter_append,List.map_append];by_cases h:sn.contains (j:Int)=true
 ·rw[qb h,List.filter_cons_of_pos (by exact h)];rfl
 ·rw[q4 h,List.filter_cons_of_neg (by exact h)];simp
theorem zk(sn N):(mkd sn N).length<=N:=by
 unfold mkd;rw[oR];have:=List.length_filter_le (fun(i:Nat)=>sn.contains (i:Int)) (List.range N);simpa using this
theorem lY(e B)(w:World)(a:B<=w.1.size):Own1 e B (w.alloc (.cells #[] e)) (some ⟨w.1.size,0,none⟩) 0 0 []:=mo e 1 B w a (fun _=>[])
theorem tD(B mb N sn w)(M:N<=1048576)(z:Own1 4 B w (some ⟨mb,0,none⟩) N N (mkB sn N)):
 Calls prog 144 #[.slice (some ⟨mb,0,none⟩) N N] w fun e w'=> ∃a c,e= .returned (.slice a (mkd sn N).length c)/\Below w.1.size w w'/\Own1 3 w.1.size w' a (mkd sn N).length c (on (mkd sn N)):=by
 have q:Hid (∀J,Below w.1.size w J->Own1 4 B J (some ⟨mb,0,none⟩) N N (mkB sn N)):=fun J I=>z.below I;have D:=bAl w (.cells #[] 3);have p:=kG D (lY 3 w.1.size w kE);clear z D;go_enter func144,ntmps144;go_upto_region 2 with fail
 generalize w.alloc (.cells #[] 3)=Q at*;go_wp2_with fail;go_loopw [3,4] (fun s x wr=> ∃(j:Nat)(a:Option Addr)(c:Nat)(b:List Int),x= .int .i64 (j:Nat)/\j<=N/\s= .slice a b.length c/\b=mkd sn j/\Below w.1.size w wr/\Own1 3 w.1.size wr a b.length c (on b)) (fun _ x _=>N-(intOf x).toNat)
 case atStart=>exact⟨0,_,0,[],rfl,kX _,rfl,rfl,p.out.1,p.out.2⟩
 case round=>
  obtain⟨j,a,c,b,rfl,O,rfl,k,d,o⟩:=hrel;obtain⟨K,rfl⟩:∃x,x=wr:=⟨_,rfl⟩;have L:b.length<=j:=by rw[k];exact zk sn j
  have g:Hid _:=k;have i:=kG d o;clear k;by_cases l:j<N
  ·have n:(j:Int)< (N:Int):=kH;obtain⟨_,G,_,_,_,v⟩:=(q.out K d).at_ kH;cases G;have u:=(v j l).trans (rx some (kU sn N j l));have m:=JI sn j;have f:Hid _:=m;have A:=d.size;clear v d o m;cases h:sn.contains (j:Int)with
   |false=>
    rw[h]at u f;clear h;go_wp2_with fail;go_roundw
    case rel=>exact⟨j+1,a,c,b,by go_num,kH,rfl,by rw[f.out,g.out];rfl,i.out.1,i.out.2⟩
    case measure=>simp[intOf];omega
   |true=>
    rw[h]at u f;clear h;go_wp2_with (at_builtin;refine BU rfl _ _ ig rfl w.1.size a b.length c (on b) rfl i.out.2 (.int .i64 (j:Nat)) rfl rfl kH kH A ?_);intro E F P C t H;have r:=kG (i.out.1.trans t) C;clear C t H;go_wp2_with fail;go_roundw
    case rel=>exact⟨j+1,E,F,b++[(j:Int)],by go_num,kH,kP,by rw[f.out,g.out];rfl,r.out.1,by rw[kY,<-iU];exact r.out.2⟩
    case measure=>simp[intOf];omega
  ·have y:j=N:=kH;subst y;have n:¬(j:Int)< (j:Int):=kH;clear d o;go_wp2_with fail;go_ret;exact⟨a,c,by rw[<-g.out];rfl,i.out.1,by rw[<-g.out];exact i.out.2⟩
def mOk(M:Nat):List Int->List Int->Bool
 |[],_=>true
 |x::ls,sn=>if x<2\/(M:Int)<=x\/sn.contains x=true then false else mOk M ls (x::sn)
theorem JJ{M}{ls:List Int}{j}(a:j<ls.length)(sn):mOk M (ls.drop j) sn=if ls.getD j 0<2\/(M:Int)<=ls.getD j 0\/sn.contains (ls.getD j 0)=true then false else mOk M (ls.drop (j+1)) (ls.getD j 0::sn):=by
 rw[oF a,mOk];simp[List.getD,List.getElem?_eq_getElem a]
theorem tE(B I mb M sn ls a c w)(ac:M<=1048576)(Y:ls.length<=1048576)(D:Own1 4 B w (some ⟨mb,0,none⟩) M M (mkB sn M))(N:Own1 3 I w a ls.length c (on ls)):
 Calls prog 143 #[.slice (some ⟨mb,0,none⟩) M M,.slice a ls.length c] w fun e w'=>e= .returned (.bool (mOk M ls sn))/\OnlyB mb w w'/\(mOk M ls sn=true->Own1 4 B w' (some ⟨mb,0,none⟩) M M (mkB (ls.reverse++sn) M)):=by
 obtain⟨_,Q,t⟩:=D.blk;have P:Hid (∀W,OnlyB mb w W->Own1 3 I W a ls.length c (on ls)):=fun W V=>N.keep (iN V t kN);generalize q:mOk M ls sn=d at*;have k:Hid _:=q;have J:Hid _:=D;clear D N t q;go_enter func143,ntmps143;go_wp2_with fail;go_loopw [5] (fun x wr=> ∃j:Nat,x= .int .i64 (j:Nat)/\j<=ls.length/\OnlyB mb w wr/\mOk M ls sn=mOk M (ls.drop j) ((ls.take j).reverse++sn)/\Own1 4 B wr (some ⟨mb,0,none⟩) M M (mkB ((ls.take j).reverse++sn) M)) (fun x _=>ls.length-(intOf x).toNat)
 case atStart=>exact⟨0,rfl,kX _,OnlyB.refl _ _,rfl,J.out⟩
 case round=>
  obtain⟨j,rfl,ad,E,u,b⟩:=hrel;obtain⟨H,rfl⟩:∃x,x=wr:=⟨_,rfl⟩;have p:=P.out H E;have f:=kG E u;clear E u;by_cases m:j<ls.length
  ·have C:(j:Int)< (ls.length:Int):=kH;obtain⟨ae,rfl,_,_,_,v⟩:=p.at_ kH;have Z:=(v j m).trans (rx some (lM ls j m));have z:=JJ (M:=M) m ((ls.take j).reverse++sn);have l:Hid _:=z;have A:(ls.take (j+1)).reverse++sn=ls.getD j 0::((ls.take j).reverse++sn):=by
    have e:ls.take (j+1)=ls.take j++[ls.getD j 0]:=by rw[List.take_add_one];simp[List.getD,List.getElem?_eq_getElem m]
    rw[e,List.reverse_append]
    rfl
   have s:Hid _:=A;clear v p z A;generalize (ls.take j).reverse++sn=G at*;generalize ls.getD j 0=x at*;by_cases S:x<2
   ·have g:Hid (d=false):=by show d=false;rw[<-k.out,f.out.2,l.out,qb (kV S)]
    clear b;go_wp2_with fail;go_ret;exact⟨by rw[g.out];rfl,f.out.1,fun h=>by rw[g.out]at h;cases h⟩
   by_cases T:(M:Int)<=x
   ·have g:Hid (d=false):=by show d=false;rw[<-k.out,f.out.2,l.out,qb (kT (kV T))]
    clear b;go_wp2_with fail;go_ret;exact⟨by rw[g.out];rfl,f.out.1,fun h=>by rw[g.out]at h;cases h⟩
   obtain⟨r,rfl⟩:=n3 (show 0<=x by omega);have n:r<M:=kH;obtain⟨_,R,_,_,_,y⟩:=b.at_ kH;cases R;have L:=(y r n).trans (rx some (kU G M r n));have ab:=b.free r;have X:(r:Int)< (M:Int):=kH;clear y;cases i:G.contains (r:Int)with
   |true=>
    have g:Hid (d=false):=by show d=false;rw[<-k.out,f.out.2,l.out,qb (kT (kT i))]
    rw[i]at L;clear b i;go_wp2_with fail;go_ret;exact⟨by rw[g.out];rfl,f.out.1,fun h=>by rw[g.out]at h;cases h⟩
   |false=>
    have U:Hid (mOk M ls sn=mOk M (ls.drop (j+1)) ((r:Int)::G)):=by
     show mOk M ls sn= _;rw[f.out.2,l.out,q4 (by rw[i];simp;omega)]
    rw[i]at L;have F:=b.set r (.bool true);rw[pH _ _ _ n]at F;have K:=kG (f.out.1.trans (aB H mb r (.bool true))) F;clear b i F;go_wp2_with fail;go_roundw
    case rel=>exact⟨j+1,by go_num,kH,K.out.1,by rw[s.out];exact U.out,by rw[s.out];exact K.out.2⟩
    case measure=>simp[intOf];omega
  ·have o:j=ls.length:=kH;have C:¬(j:Int)< (ls.length:Int):=kH;have g:Hid (d=true):=by
    show d=true;rw[<-k.out,f.out.2,o,List.drop_length]
    rfl
   have O:Hid (Own1 4 B H (some ⟨mb,0,none⟩) M M (mkB (ls.reverse++sn) M)):=by
    show Own1 _ _ _ _ _ _ _;rw[o,ox]at b;exact b
   clear b p o;go_wp2_with fail;go_ret;exact⟨by rw[g.out];rfl,f.out.1,fun _=>O.out⟩
