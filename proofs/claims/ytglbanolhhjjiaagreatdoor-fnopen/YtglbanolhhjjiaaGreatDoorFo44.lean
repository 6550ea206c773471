import Derived.Test.YtglbanolhhjjiaaGreatDoorFo42
import Derived.Test.YtglbanolhhjjiaaGreatDoorFo35
namespace Go.Proofs.YtglbanolhhjjiaaGreatDoor
open Go.RowKit
set_option linter.unusedVariables false
set_option maxRecDepth 100000
set_option maxHeartbeats 32000000
section
variable {B0 g:Nat} {rest:List Value} {rt:Int} {w:World} {ns:List NdK} {nv:Nat->NdV} {na:Option Addr} {nc:Nat}
def pn:Tr->Bool
 | .leaf _ _=>true
 |_=>false
theorem SRep.top{n t P v}(h:SRep ns t P [(strOfNums [],v)])(b:wf n t):∃(q:Nat)(K:NdK),v=(q:Int)/\ns[q]?=some K/\K.page=fI t/\K.leaf=pn t:=by
 rcases aO b with⟨id,es,_,rfl⟩|⟨id,L,m,_,rfl⟩
 ·rw[SRep]at h;obtain⟨p,_,e,a⟩:=h;cases e;exact⟨p,_,rfl,a,rfl,rfl⟩
 ·rw[SRep]at h;obtain⟨p,us,G,_,e,a,_⟩:=h;cases e;exact⟨p,_,rfl,a,rfl,rfl⟩
theorem Hj{n t}(a:wf n t):fI t∈ar t:=by
 rcases aO a with⟨id,es,_,rfl⟩|⟨id,L,m,_,rfl⟩<;>simp[fI,ar]
theorem Hk(F:USt B0 g rest rt w ns nv na nc){n t P q}(B:wf n t)(o:SRep ns t P [(strOfNums [],q)])(S:∀x∈ar t,0<=x/\x<=1048576)(r:ns.length<=1048576):
 Calls Tryz.prog 137 #[.pointer (some ⟨g,0,none⟩),.int .i64 q] w fun e w'=> ∃a c,e= .returned (.slice a (bdT t).length c)/\Below w.1.size w w'/\Own w.1.size w' a (bdT t).length c (bdT t):=by
 rcases aO B with⟨id,es,rfl,rfl⟩|⟨id,L,m,rfl,rfl⟩
 ·rw[SRep]at o;obtain⟨p,_,e,z⟩:=o;cases e;obtain⟨K,f,C⟩:=dA.1 B;have O:=im es;exact yK F z es [] rfl rfl rfl rfl (fun e k=>⟨(f e k).2.1,(f e k).2.2⟩) (fun u A=>by simp at A) uA vo [] rfl (fun m l=>by simp at l) r _ (by simp[bdT,iBd])
 ·rw[SRep]at o;obtain⟨p,us,G,_,e,z,j⟩:=o;cases e;obtain⟨K,f,C,N⟩:=bq.1 B;have E:=j.sgs;have R:=j.len;rw[dm]at N;have O:=gQ (sgs L);have W:=gC L;refine yK F z [] us rfl rfl rfl rfl (fun e k=>by simp at k) (fun u A=> ?_) vo uA (L.map fun x=>fI x.2) (by rw[y2,R]) (fun i X=> ?_) r _ ?_
  ·have:u.1∈sgs L:=by rw[<-E];exact List.mem_map_of_mem A
   exact(C _ this).2
  ·have b:i<L.length:=uA;obtain⟨U,T,V,v,_,_,D,_,Q,_⟩:=j.at b;have s:=f _ (bO (d:=t0) b);obtain⟨Y,H,I,J,y,_⟩:=Q.top s;have l:=S (fI (L.getD i t0).2) (by rw[ar,gF];exact AC _ (eT.2 ⟨_,bO b,Hj s⟩));refine⟨Y,H,by rw[D];exact I,J,?_,by rw[y];exact l.1,by rw[y];exact l.2⟩;rw[y];simp[List.getD_eq_getElem?_getD,b]
  ·rw[bdT,ct,j.sg];have:∀M:List Kd,(M.map (·.1)).zip (M.map fun x=>fI x.2)=kdP M:=fun M=>by
    unfold kdP;induction M with
    |nil=>rfl
    |cons x M ih=>simp[ih]
   rw[this];simp[lfB]
theorem Hl{n t}(a:wf n t):(bdT t).length<=10000:=by
 rcases aO a with⟨id,es,rfl,rfl⟩|⟨id,L,m,rfl,rfl⟩
 ·obtain⟨b,c,d⟩:=dA.1 a;rw[bdT,pm];omega
 ·obtain⟨b,c,d,e⟩:=bq.1 a;rw[bdT,ct];rw[dm]at e;have k:=gQ (sgs L);have f:=gC L;cases L with
  |nil=>exact absurd rfl b
  |cons x L=>
   have g:(iBd 0 (kdP (x::L))).length<=4+(4*(kdP L).length+aH ((kdP L).map (·.1))):=by
    show(iBd 0 ((x.1,fI x.2)::kdP L)).length<=_;rw[iBd,wb,ew];have:=si (kdP L) 1;omega
   have i:(kdP L).map (·.1)=sgs (x::L):=by simp[kdP,sgs]
   have j:(kdP L).length=L.length:=by simp[kdP]
   rw[i,j]at g;simp only[w8]at f;omega
theorem sq:∀(us:List Pl)(k:Nat),(∀u∈us,u.1.size<=255)->IsB (iBd k us)
 |[],k,_=>by rw[iBd];exact eX
 |x::us,0,h=>by rw[iBd];exact dC (ec _ _) (sq us 1 (fun u a=>h u (by simp[a])))
 |x::us,k+1,h=>by rw[iBd];exact dC (se (h x vo)) (dC (ec _ _) (sq us (k+2) (fun u a=>h u (by simp[a]))))
theorem yL:∀es:List En,(∀e∈es,e.1.size<=255/\e.2.size<=255)->IsB (lfB es)
 |[],_=>eX
 |e::es,h=>by
  show IsB (txB e.1++txB e.2++lfB es);exact dC (dC (se (h e vo).1) (se (h e vo).2)) (yL es (fun x hx=>h x (by simp[hx])))
theorem Hm{n t}(b:wf n t):IsB (bdT t):=by
 rcases aO b with⟨id,es,rfl,rfl⟩|⟨id,L,m,rfl,rfl⟩
 ·obtain⟨c,a,d⟩:=dA.1 b;rw[bdT];exact yL es (fun e f=>⟨by have:=(a e f).2.1;omega,by have:=(a e f).2.2;omega⟩)
 ·obtain⟨c,a,d,j⟩:=bq.1 b;rw[bdT,ct];cases L with
  |nil=>exact absurd rfl c
  |cons x L=>
   show IsB (iBd 0 ((x.1,fI x.2)::kdP L));rw[iBd];refine dC (ec _ _) (sq _ _ (fun u g=> ?_));have:u.1∈sgs (x::L):=by
    obtain⟨y,i,rfl⟩:=x7.1 g;exact x7.2 ⟨y,i,rfl⟩
   have:=d _ this;have k:u.1.size<=40:=this.2;omega
end
theorem yM(a):(1:Int)+(tk1 a).2.1.length+a.2=a.1.length+(tk1 a).2.2:=by
 obtain⟨b,u⟩:=a;cases b with
 |nil=>simp[tk1];omega
 |cons f b=>simp[tk1];omega
theorem pp:∀(t:Tr)(a:Tk),((plT t a).2.2.length:Int)+(plT t a).2.1.1.length+a.2=a.1.length+(plT t a).2.1.2
 | .leaf id es,a=>by
  have h:=yM a;rw[plT];split<;>simp only[w8,AO] <;>omega
 | .node id ks,a=>by
  have b:=pp ks a;have h:=yM (plT ks a).2.1;rw[plT];split<;>simp only[wb,w8,AO] <;>omega
 | .nil,a=>by rw[plT];simp
 | .cons s t ks,a=>by
  have b:=pp t a;have c:=pp ks (plT t a).2.1;rw[plT];simp only[wb];omega
theorem Hn:∀{n:Nat}{t:Tr}(a:Tk),wf n t->∀u∈(plT t a).2.2,∃m,wf m u:=by
 intro n;induction n with
 |zero=>
  intro t a h u b;have c:=rY a h;rcases aO h with⟨id,es,_,rfl⟩|⟨id,L,m,e,_⟩
  ·rw[plT]at b c;split at b
   ·rename_i d;rw[B4 d]at c;simp at b;subst b;exact⟨_,c⟩
   ·simp at b
  ·omega
 |succ n ih=>
  intro t a h u b;have c:=rY a h;rcases aO h with⟨id,es,e,_⟩|⟨id,L,m,e,rfl⟩
  ·omega
  ·have f:=(bq.1 h).2.1;have g:∀(M:List Kd)(a:Tk),(∀x∈M,wf n x.2)->∀u∈(plL M a).2.2,∃m,wf m u:=by
    intro M;induction M with
    |nil=>intro a _ u b;simp[plL]at b
    |cons y M j=>
     intro a i u b;rw[plL]at b;rcases w6.1 b with b|b
     ·exact ih a (i y vo) u b
     ·exact j _ (fun l k=>i l (by simp[k])) u b
   rw[plT,lr]at b c;split at b
   ·rename_i d;rw[B4 d]at c;rcases w6.1 b with b|b
    ·exact g L a f u b
    ·simp at b;subst b;exact⟨_,c⟩
   ·exact g L a f u b
def plO:OTr->Tk->OTr×Tk×List Tr
 |none,a=>(none,a,[])
 |some x,a=>(some (x.1,(plT x.2 a).1),(plT x.2 a).2.1,(plT x.2 a).2.2)
def rtZ:OTr->Int
 |none=>0
 |some x=>fI x.2
def kdT(t:Tr):Int:=if pn t then 2 else 3
def lsL:Nat->Tk->List Int->List Int->Tk×List Int×List Int
 |0,a,ids,ls=>(a,ids,ls)
 |f+1,a,ids,ls=>if 59*ls.length<ids.length then lsL f (tk1 a).2 (if lw a then wol (tk1 a).1 ids else ids) (ls++[(tk1 a).1])else(a,ids,ls)
theorem Ho{a b ls}(h:¬59*ls.length<b.length):∀f,lsL f a b ls=(a,b,ls)
 |0=>rfl
 |f+1=>by rw[lsL,CH h]
theorem Hp{c a b ls}(h:59*ls.length<b.length)(e:b.length<=c):lsL (c-ls.length) a b ls=lsL (c-(ls.length+1)) (tk1 a).2 (if lw a then wol (tk1 a).1 b else b) (ls++[(tk1 a).1]):=by
 obtain⟨f,d⟩:∃f,c-ls.length=f+1:=⟨c-ls.length-1,uA⟩;rw[d,show c-(ls.length+1)=f by omega,lsL,B4 h]
def noL(ts:List Tr):List OpK:=ts.flatMap fun t=>pwO (fI t) (kdT t) (bdT t)
theorem sw:∀a:List Tr,(noL a).length<=4*a.length
 |[]=>by simp[noL]
 |t::a=>by
  have:=sw a;have:=jK (fI t) (kdT t) (bdT t);simp only[noL,List.flatMap_cons,wb,w8]at*;omega
abbrev SupK:=Int×Int×Int×Int
def suO(s:SupK):List OpK:=pwL (kOf (bG s.1 s.2.1 s.2.2.1 s.2.2.2)) (s.1%2) (ip s.1 s.2.1 s.2.2.1 s.2.2.2)
def wrZ(np:Nat)(gen:Int)(o:OTr)(ts:List Tr)(z:Tk×List Int×List Int):List OpK×SupK×Int:=
 if(np:Int)<z.1.2 then([],(0,0,0,0),3)else(((noL ts++frO z.2.2 z.2.1)++[opS])++(suO (gen+1,rtZ o,z.1.2,z.2.2.headD 0)++[opS]),(gen+1,rtZ o,z.1.2,z.2.2.headD 0),0)
def idZ(r:OTr×Tk×List Tr)(old own:List Int):List Int:=mkd (idS r.2.1.1 old (pgZ r.1) own) (r.2.1.2+1).toNat
def wrY(np:Nat)(gen:Int)(old own:List Int)(r:OTr×Tk×List Tr):List OpK×SupK×Int:=wrZ np gen r.1 r.2.2 (lsL (idZ r old own).length r.2.1 (idZ r old own) [])
def wrR(np:Nat)(gen used:Int)(o:OTr)(old fs own:List Int):List OpK×SupK×Int:=wrY np gen old own (plO o (fs,used))
theorem Hq{sn N x}(h:x∈mkd sn N):0<=x/\x< (N:Int):=by
 unfold mkd at h;obtain⟨i,a,rfl⟩:=x7.1 h;have:=(List.mem_filter.1 a).1;simp at this;omega
theorem pq{M}:∀{ls sn:List Int},mOk M ls sn=true->∀x∈ls,2<=x/\x< (M:Int)
 |[],_,_,x,hx=>by simp at hx
 |y::ls,sn,h,x,hx=>by
  rw[mOk]at h;split at h
  ·cases h
  ·rename_i a;rcases w3.1 hx with rfl|hx
   ·omega
   ·exact pq h x hx
theorem Hr{M t f o}(h:mrk M t f o=true):(∀x∈t,2<=x/\x< (M:Int))/\(∀x∈f,2<=x/\x< (M:Int))/\∀x∈o,2<=x/\x< (M:Int):=by
 unfold mrk at h;simp only[wX]at h;exact⟨pq h.1.1.1,pq h.1.1.2,pq h.1.2⟩
theorem Hs{P:List Nat}{N}(c:P.Nodup)(b:∀p∈P,p<N):P.length<=N:=by
 have e:(Int.toNat∘fun p:Nat=>(p:Int))=id:=by funext p;simp
 have a:(P.map fun p:Nat=>(p:Int)).Nodup:=rH Int.toNat (by rw[List.map_map,e,List.map_id];exact c);have h:SeenOk (P.map fun p:Nat=>(p:Int)) N:=⟨a,fun x hx=>by
  obtain⟨p,d,rfl⟩:=x7.1 hx;have:=b p d;omega⟩
 simpa using h.le
theorem SRep.cntLe{ns t P b}(h:SRep ns t P b)(a:P.Nodup):bH t<=ns.length:=by
 rw[<-h.cnt];exact Hs a h.lt
section
variable {B0 g:Nat} {rest:List Value} {rt:Int} {nv:Nat->NdV} {na:Option Addr} {nc ab:Nat} {w1:World} {ns:List NdK}
structure WrS(B0 g:Nat)(rest:List Value)(rt:Int)(nv:Nat->NdV)(na:Option Addr)(nc ab:Nat)(w1:World)(a':Tk)(ms:List NdK)(qs:List Int)(oa:Option Addr)(oc:Nat)(fa:Option Addr)(fc:Nat)(u:World):Prop where
 fr:Below B0 w1 u
 kT:∀t,t≠208->t≠176->KeepT t w1 u
 nodes:ORow 176 6 B0 u na ms.length nc (cd nv ms)
 each:∀i,i<ms.length->RNd w1 (nv i) (ms.getD i nd0)
 tree:Blk w1 116 g (ucs na ms.length nc rt rest)
 tT:∃cs,Blk w1 208 ab cs
 hab:B0<=ab
 gB:B0<=w1.1.size
 tk:TkSt w1 u ab a' fa fc
 ord:Own1 3 w1.1.size u oa qs.length oc (on qs)
theorem WrS.st{a ms j e b f c u}(h:WrS B0 g rest rt nv na nc ab w1 a ms j e f b c u):USt B0 g rest rt u ms nv na nc:=
 ⟨h.tree.keepT (h.kT _ uB uB),h.nodes,fun i d=>(h.each i d).keep (h.kT _ uB uB) (h.kT _ uB uB),wg h.gB h.fr.size⟩
theorem WrS.step{s p ms c n v d o w f u a}(h:WrS B0 g rest rt nv na nc ab w1 s ms c n o v w u){Z}(m:OnlyS Z u a)(r:∀k,Z k->w1.1.size<=k\/k=ab)(z:KeepT 176 u a)(A:TkSt w1 a ab p d f)(or:Own1 3 w1.1.size a n c.length o (on c)):WrS B0 g rest rt nv na nc ab w1 p ms c n o d f a:=by
 refine⟨h.fr.trans (m.below (wg h.gB h.fr.size) (fun k y=>by rcases r k y with e|e;have:=h.gB;omega;rw[e];exact h.hab)),fun t q x=> ?_,cw h.nodes z,h.each,h.tree,h.tT,h.hab,h.gB,A,or⟩;have i:=h.kT t q x;refine⟨wg i.size m.size,fun j cs fr b=> ?_⟩;rw[m.block j (wy.1 (i.block j cs fr b)).1 (fun e=> ?_)]
 ·exact i.block j cs fr b
 ·rcases r j e with e|rfl
  ·have:=(wy.1 b).1;omega
  ·obtain⟨B,l⟩:=h.tT;unfold Blk at l;rw[b]at l;cases l;exact q rfl
theorem WrS.below{b ms i e c f d u j}(h:WrS B0 g rest rt nv na nc ab w1 b ms i e f c d u)(a:Below u.1.size u j):WrS B0 g rest rt nv na nc ab w1 b ms i e f c d j:=
 h.step (Z:=fun _=>False) (OnlyS.ofBelow a) (fun k l=>l.elim) (aV a) (h.tk.keep (aV a)) (h.ord.below a)
theorem WrS.onlyT{c ms m i e l f u n}(h:WrS B0 g rest rt nv na nc ab w1 c ms m i l e f u){k t:Nat}{d fr}(a:OnlyB k u n)(b:u.heap[k]?=some (.cells d t fr))(s:w1.1.size<=k)(o:t≠176)(p:t≠208)(q:t≠3):WrS B0 g rest rt nv na nc ab w1 c ms m i l e f n:=
 h.step (OnlyS.ofB a) (fun j r=>v7 uA) (cx a b o) (h.tk.keep (cx a b p)) (h.ord.keep (cx a b q))
theorem WrS.onlyA{l e ms k f m a i n b u d}(h:WrS B0 g rest rt nv na nc ab w1 l ms k f i m n u)(c:OnlyB ab u d)(p:TkSt w1 d ab e a b):WrS B0 g rest rt nv na nc ab w1 e ms k f i a b d:=
 h.step (OnlyS.ofB c) (fun j o=>v6 o) (aw c h.tk.blk uB) p (h.ord.keep (aw c h.tk.blk uB))
theorem yN{w w':World}{B e s:Nat}{v v':Value}{n xs}(h:w.ownsRow B e s v n xs)(a:w.grownBy w' v'.ownBlock)(c:∀k,v.ownBlock=some k->v'.ownBlock≠some k):w'.ownsRow B e s v n xs:=by
 refine World.ownsRow.kept h a ?_;cases b:v.ownBlock with
 |none=>exact v7 rfl
 |some k=>exact v6 fun e=>c k b e.symm
theorem WrS.grown{l ms j d m f o u p}(h:WrS B0 g rest rt nv na nc ab w1 l ms j d f m o u){b}{n c e s:Nat}{xs}(i:u.ownsRow w1.1.size e s (.slice b n c) n xs)(a:u.grownBy p (Value.slice b n c).ownBlock)(q:e≠176)(r:e≠208)(v:∀k,(Value.slice d j.length f).ownBlock=some k->(Value.slice b n c).ownBlock≠some k):WrS B0 g rest rt nv na nc ab w1 l ms j d f m o p:=
 h.step (OnlyS.ofGrown a) (fun k t=>v7 (Ct i k t).1) (bD i a q) (h.tk.keep (bD i a r)) (yN h.ord a v)
def WrP(B0 g:Nat)(rest:List Value)(rt:Int)(nv:Nat->NdV)(na:Option Addr)(nc ab:Nat)(w1:World)(ns:List NdK)(o:OTr)(a:Tk)(e:Ending)(u':World):Prop:=
 ∃ms qs oa oc fa fc P,e= .returned (.slice oa qs.length oc)/\WrS B0 g rest rt nv na nc ab w1 (plO o a).2.1 ms qs oa oc fa fc u'/\ms.length=ns.length/\UO ms rt (plO o a).1/\OrdR ms P qs (plO o a).2.2
structure PlOF(used:Int)(fs:List Int)(N:Nat)(r:OTr×Tk×List Tr):Prop where
 pgs:∀x∈pgZ r.1,2<=x/\x<r.2.1.2
 fr:∀x∈r.2.1.1,2<=x/\x<r.2.1.2
 lo:used<=r.2.1.2
 hi:r.2.1.2<=used+(N:Int)
 each:∀u∈r.2.2,(∃m,wf m u)/\∀x∈ar u,2<=x/\x<r.2.1.2
 cnt:(r.2.2.length:Int)+r.2.1.1.length+used=fs.length+r.2.1.2
 fl:r.2.1.1.length<=fs.length
theorem Ht{o a b N}(l:UO ns rt o)(j:∀x∈pgZ o,x=0\/(2<=x/\x<a))(d:∀x∈b,2<=x/\x<a)(g:2<=a)(m:ns.length<=N):PlOF a b N (plO o (b,a)):=by
 cases o with
 |none=>exact⟨fun x hx=>by simp[plO,pgZ]at hx,d,A4 _,(by show a<=_;omega),fun u c=>by simp[plO]at c,by simp[plO],t6⟩
 |some x=>
  obtain⟨n,t⟩:=x;obtain⟨f,P,k,i⟩:=l;have H:=ph t (b,a) j d g;have p:bH t<=ns.length:=k.cntLe i;exact⟨H.pgs,H.fr,H.lo,(by have:=H.hi;show(plT t (b,a)).2.1.2<=_;have e:((b,a):Tk).2=a:=rfl;rw[e]at this;omega),fun u c=>⟨Hn (b,a) f u c,H.each u c⟩,pp t (b,a),(mE t (b,a)).2.2.1⟩
theorem Hu(c:USt B0 g rest rt w1 ns nv na nc){o}(A:UO ns rt o)(T:ns.length<=600000)(a){i j}(m:TkSt w1 w1 ab a i j)(q:B0<=ab)(E:0<=a.2)(U:a.2<=1024)(V:a.1.length<=65536):
 Calls Tryz.prog 133 #[.pointer (some ⟨g,0,none⟩),.int .i64 rt,.pointer (some ⟨ab,0,none⟩),.slice (some ⟨w1.1.size,0,none⟩) 0 0] (w1.alloc (.cells #[] 3)) (WrP B0 g rest rt nv na nc ab w1 ns o a):=by
 have f:=bAl w1 (.cells #[] 3);have D:=fU 3 w1.1.size w1 t6;have s:TkSt w1 (w1.alloc (.cells #[] 3)) ab a i j:=m.keep (aV f);cases o with
 |none=>
  have e:rt= -1:=A;subst e;refine(GZ _ _ _ _).mono ?_;rintro e w' ⟨rfl,rfl⟩;exact⟨ns,[],_,_,i,j,[],rfl,⟨f.mono c.gB,fun t _ _=>aV f,(c.below f).nodes,c.each,c.blk,⟨_,m.blk⟩,q,c.gB,s,D⟩,rfl,rfl,trivial⟩
 |some x=>
  obtain⟨n,t⟩:=x;obtain⟨v,P,l,u⟩:=A;obtain⟨p,G,H,e0⟩:=l.root v;obtain⟨b,rfl⟩:∃b,na=some ⟨b,0,none⟩:=by
   have z:=l.lt p (by rw[H];simp);obtain⟨K,F⟩:∃K,ns[p]?=some K:=⟨_,wS z⟩;obtain⟨b,e,_⟩:=c.cells F;exact⟨b,e⟩
  have ps:=(c.pst (ab:=ab) ⟨_,m.blk⟩).below f;have L:=l.cntLe u;have S:bH t<=ns.length:=L;refine(GY n t v a ns ns _ P P rt [] _ 0 i j ⟨ps,rfl,fun _ _=>rfl,s,D⟩ l u (by simp only[AO];omega) E uA uA uA).mono ?_;rintro e w' ⟨ms,W,Q,N,O,w,y,rfl,r,d,J,I⟩;rw[xd]at r;subst r;have R:B0<=b:=(cE c.nodes b (by simp[rb])).1;exact⟨ms,Q,N,O,w,y,P,rfl,⟨d.st.fr.below c.gB (fun k M=>by rcases M with rfl|rfl<;>omega),fun t B C=>d.st.keepT B C,d.st.nodes,d.st.each,d.st.tree,⟨_,m.blk⟩,q,c.gB,d.tk,d.ord⟩,d.len,⟨rY a v,P,J,u⟩,I⟩
theorem Hv{ms w}(l:USt B0 g rest rt w ms nv na nc){o}(c:UO ms rt o)(m:ms.length<=600000){mb N}(f:N<=1048576)(b:Own1 4 0 w (some ⟨mb,0,none⟩) N N (mkB [] N))(i:∀x∈pgZ o,0<x/\x< (N:Int)):
 Calls Tryz.prog 106 #[.pointer (some ⟨g,0,none⟩),.int .i64 rt,.slice (some ⟨mb,0,none⟩) N N] w fun e w'=>e= .returned (.tuple #[])/\OnlyB mb w w'/\Own1 4 0 w' (some ⟨mb,0,none⟩) N N (mkB (pgZ o) N):=by
 cases o with
 |none=>
  have e:rt= -1:=c;subst e;refine(wW g mb N w).mono ?_;rintro e w' ⟨rfl,rfl⟩;exact⟨rfl,OnlyB.refl _ _,b⟩
 |some x=>
  obtain⟨n,t⟩:=x;obtain⟨k,P,j,p⟩:=c;refine(G0 (mb:=mb) uA f n t k rt P [] w l b j i).mono ?_;rintro e w' ⟨rfl,d,a⟩;rw[wP]at a;exact⟨rfl,d,a⟩
end
