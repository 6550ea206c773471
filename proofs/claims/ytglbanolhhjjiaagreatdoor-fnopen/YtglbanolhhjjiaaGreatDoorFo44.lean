import Derived.Test.YtglbanolhhjjiaaGreatDoorFo42
import Derived.Test.YtglbanolhhjjiaaGreatDoorFo35
namespace Go.Proofs.YtglbanolhhjjiaaGreatDoor
open Go.RowKit
set_option linter.unusedVariables false
set_option maxRecDepth 100000
set_option maxHeartbeats 32000000
section
variable {B0 g:Nat} {rest:List Value} {rt:Int} {w:World} {ns:List NdK} {nv:Nat->NdV} {na:Option Addr} {nc:Nat}
def pn:Tr->Bool
 | .leaf _ _=>true
 |_=>false
theorem SRep.top{n t P v}(b:SRep ns t P [(strOfNums [],v)])(c:wf n t):∃(q:Nat)(K:NdK),v=(q:Int)/\ns[q]?=some K/\K.page=fI t/\K.leaf=pn t:=by
 rcases aO c with⟨id,es,_,rfl⟩|⟨id,L,m,_,rfl⟩
 ·rw[SRep]at b;obtain⟨p,_,e,a⟩:=b;cases e;exact⟨p,_,rfl,a,rfl,rfl⟩
 ·rw[SRep]at b;obtain⟨p,us,G,_,e,a,_⟩:=b;cases e;exact⟨p,_,rfl,a,rfl,rfl⟩
theorem Hj{n t}(a:wf n t):fI t∈ar t:=by
 rcases aO a with⟨id,es,_,rfl⟩|⟨id,L,m,_,rfl⟩<;>simp[fI,ar]
theorem Hk(E:USt B0 g rest rt w ns nv na nc){n t P q}(A:wf n t)(l:SRep ns t P [(strOfNums [],q)])(R:∀x∈ar t,0<=x/\x<=1048576)(o:ns.length<=1048576):
 Calls Tryz.prog 137 #[.pointer (some ⟨g,0,none⟩),.int .i64 q] w fun e w'=> ∃a c,e= .returned (.slice a (bdT t).length c)/\Below w.1.size w w'/\Own w.1.size w' a (bdT t).length c (bdT t):=by
 rcases aO A with⟨id,es,rfl,rfl⟩|⟨id,L,m,rfl,rfl⟩
 ·rw[SRep]at l;obtain⟨p,_,e,y⟩:=l;cases e;obtain⟨J,f,B⟩:=dA.1 A;have N:=im es;exact yK E y es [] rfl rfl rfl rfl (fun e j=>⟨(f e j).2.1,(f e j).2.2⟩) (fun u z=>by simp at z) t7 uB [] rfl (fun m k=>by simp at k) o _ (by simp[bdT,iBd])
 ·rw[SRep]at l;obtain⟨p,us,G,_,e,y,h⟩:=l;cases e;obtain⟨J,f,B,K⟩:=bq.1 A;have D:=h.sgs;have Q:=h.len;rw[dm]at K;have N:=gQ (sgs L);have V:=gC L;refine yK E y [] us rfl rfl rfl rfl (fun e j=>by simp at j) (fun u z=> ?_) uB t7 (L.map fun x=>fI x.2) (by rw[x7,Q]) (fun i W=> ?_) o _ ?_
  ·have:u.1∈sgs L:=by rw[<-D];exact List.mem_map_of_mem z
   exact(B _ this).2
  ·have b:i<L.length:=t7;obtain⟨T,S,U,v,_,_,C,_,O,_⟩:=h.at b;have r:=f _ (bO (d:=t0) b);obtain⟨X,F,H,I,s,_⟩:=O.top r;have k:=R (fI (L.getD i t0).2) (by rw[ar,gF];exact zs _ (eT.2 ⟨_,bO b,Hj r⟩));refine⟨X,F,by rw[C];exact H,I,?_,by rw[s];exact k.1,by rw[s];exact k.2⟩;rw[s];simp[List.getD_eq_getElem?_getD,b]
  ·rw[bdT,ct,h.sg];have:∀M:List Kd,(M.map (·.1)).zip (M.map fun x=>fI x.2)=kdP M:=fun M=>by
    unfold kdP;induction M with
    |nil=>rfl
    |cons x M ih=>simp[ih]
   rw[this];simp[lfB]
theorem Hl{n t}(a:wf n t):(bdT t).length<=10000:=by
 rcases aO a with⟨id,es,rfl,rfl⟩|⟨id,L,m,rfl,rfl⟩
 ·obtain⟨b,c,d⟩:=dA.1 a;rw[bdT,pm];omega
 ·obtain⟨b,c,d,e⟩:=bq.1 a;rw[bdT,ct];rw[dm]at e;have j:=gQ (sgs L);have f:=gC L;cases L with
  |nil=>exact absurd rfl b
  |cons x L=>
   have g:(iBd 0 (kdP (x::L))).length<=4+(4*(kdP L).length+aH ((kdP L).map (·.1))):=by
    show(iBd 0 ((x.1,fI x.2)::kdP L)).length<=_;rw[iBd,u7,ew];have:=si (kdP L) 1;omega
   have h:(kdP L).map (·.1)=sgs (x::L):=by simp[kdP,sgs]
   have i:(kdP L).length=L.length:=by simp[kdP]
   rw[h,i]at g;simp only[wQ]at f;omega
theorem sq:∀(us:List Pl)(k:Nat),(∀u∈us,u.1.size<=255)->IsB (iBd k us)
 |[],k,_=>by rw[iBd];exact eX
 |x::us,0,b=>by rw[iBd];exact dC (ec _ _) (sq us 1 (fun u a=>b u (by simp[a])))
 |x::us,k+1,b=>by rw[iBd];exact dC (se (b x uB)) (dC (ec _ _) (sq us (k+2) (fun u a=>b u (by simp[a]))))
theorem yL:∀es:List En,(∀e∈es,e.1.size<=255/\e.2.size<=255)->IsB (lfB es)
 |[],_=>eX
 |e::es,a=>by
  show IsB (txB e.1++txB e.2++lfB es);exact dC (dC (se (a e uB).1) (se (a e uB).2)) (yL es (fun x hx=>a x (by simp[hx])))
theorem Hm{n t}(b:wf n t):IsB (bdT t):=by
 rcases aO b with⟨id,es,rfl,rfl⟩|⟨id,L,m,rfl,rfl⟩
 ·obtain⟨c,a,d⟩:=dA.1 b;rw[bdT];exact yL es (fun e f=>⟨by have:=(a e f).2.1;omega,by have:=(a e f).2.2;omega⟩)
 ·obtain⟨c,a,d,i⟩:=bq.1 b;rw[bdT,ct];cases L with
  |nil=>exact absurd rfl c
  |cons x L=>
   show IsB (iBd 0 ((x.1,fI x.2)::kdP L));rw[iBd];refine dC (ec _ _) (sq _ _ (fun u g=> ?_));have:u.1∈sgs (x::L):=by
    obtain⟨y,h,rfl⟩:=xC.1 g;exact xC.2 ⟨y,h,rfl⟩
   have:=d _ this;have j:u.1.size<=40:=this.2;omega
end
theorem yM(a):(1:Int)+(tk1 a).2.1.length+a.2=a.1.length+(tk1 a).2.2:=by
 obtain⟨b,u⟩:=a;cases b with
 |nil=>simp[tk1];omega
 |cons f b=>simp[tk1];omega
theorem pp:∀(t:Tr)(a:Tk),((plT t a).2.2.length:Int)+(plT t a).2.1.1.length+a.2=a.1.length+(plT t a).2.1.2
 | .leaf id es,a=>by
  have c:=yM a;rw[plT];split<;>simp only[wQ,zP] <;>omega
 | .node id ks,a=>by
  have b:=pp ks a;have c:=yM (plT ks a).2.1;rw[plT];split<;>simp only[u7,wQ,zP] <;>omega
 | .nil,a=>by rw[plT];simp
 | .cons s t ks,a=>by
  have b:=pp t a;have d:=pp ks (plT t a).2.1;rw[plT];simp only[u7];omega
theorem Hn:∀{n:Nat}{t:Tr}(a:Tk),wf n t->∀u∈(plT t a).2.2,∃m,wf m u:=by
 intro n;induction n with
 |zero=>
  intro t a f u b;have c:=rY a f;rcases aO f with⟨id,es,_,rfl⟩|⟨id,L,m,e,_⟩
  ·rw[plT]at b c;split at b
   ·rename_i d;rw[BC d]at c;simp at b;subst b;exact⟨_,c⟩
   ·simp at b
  ·omega
 |succ n ih=>
  intro t a f u b;have c:=rY a f;rcases aO f with⟨id,es,e,_⟩|⟨id,L,m,e,rfl⟩
  ·omega
  ·have g:=(bq.1 f).2.1;have h:∀(M:List Kd)(a:Tk),(∀x∈M,wf n x.2)->∀u∈(plL M a).2.2,∃m,wf m u:=by
    intro M;induction M with
    |nil=>intro a _ u b;simp[plL]at b
    |cons y M j=>
     intro a i u b;rw[plL]at b;rcases wE.1 b with b|b
     ·exact ih a (i y uB) u b
     ·exact j _ (fun l k=>i l (by simp[k])) u b
   rw[plT,lr]at b c;split at b
   ·rename_i d;rw[BC d]at c;rcases wE.1 b with b|b
    ·exact h L a g u b
    ·simp at b;subst b;exact⟨_,c⟩
   ·exact h L a g u b
def plO:OTr->Tk->OTr×Tk×List Tr
 |none,a=>(none,a,[])
 |some x,a=>(some (x.1,(plT x.2 a).1),(plT x.2 a).2.1,(plT x.2 a).2.2)
def rtZ:OTr->Int
 |none=>0
 |some x=>fI x.2
def kdT(t:Tr):Int:=if pn t then 2 else 3
def lsL:Nat->Tk->List Int->List Int->Tk×List Int×List Int
 |0,a,ids,ls=>(a,ids,ls)
 |f+1,a,ids,ls=>if 59*ls.length<ids.length then lsL f (tk1 a).2 (if lw a then wol (tk1 a).1 ids else ids) (ls++[(tk1 a).1])else(a,ids,ls)
theorem Ho{a b ls}(c:¬59*ls.length<b.length):∀f,lsL f a b ls=(a,b,ls)
 |0=>rfl
 |f+1=>by rw[lsL,BX c]
theorem Hp{c a b ls}(e:59*ls.length<b.length)(g:b.length<=c):lsL (c-ls.length) a b ls=lsL (c-(ls.length+1)) (tk1 a).2 (if lw a then wol (tk1 a).1 b else b) (ls++[(tk1 a).1]):=by
 obtain⟨f,d⟩:∃f,c-ls.length=f+1:=⟨c-ls.length-1,t7⟩;rw[d,show c-(ls.length+1)=f by omega,lsL,BC e]
def noL(ts:List Tr):List OpK:=ts.flatMap fun t=>pwO (fI t) (kdT t) (bdT t)
theorem sw:∀a:List Tr,(noL a).length<=4*a.length
 |[]=>by simp[noL]
 |t::a=>by
  have:=sw a;have:=jK (fI t) (kdT t) (bdT t);simp only[noL,List.flatMap_cons,u7,wQ]at*;omega
abbrev SupK:=Int×Int×Int×Int
def suO(s:SupK):List OpK:=pwL (kOf (bG s.1 s.2.1 s.2.2.1 s.2.2.2)) (s.1%2) (ip s.1 s.2.1 s.2.2.1 s.2.2.2)
def wrZ(np:Nat)(gen:Int)(o:OTr)(ts:List Tr)(z:Tk×List Int×List Int):List OpK×SupK×Int:=
 if(np:Int)<z.1.2 then([],(0,0,0,0),3)else(((noL ts++frO z.2.2 z.2.1)++[opS])++(suO (gen+1,rtZ o,z.1.2,z.2.2.headD 0)++[opS]),(gen+1,rtZ o,z.1.2,z.2.2.headD 0),0)
def idZ(r:OTr×Tk×List Tr)(old own:List Int):List Int:=mkd (idS r.2.1.1 old (pgZ r.1) own) (r.2.1.2+1).toNat
def wrY(np:Nat)(gen:Int)(old own:List Int)(r:OTr×Tk×List Tr):List OpK×SupK×Int:=wrZ np gen r.1 r.2.2 (lsL (idZ r old own).length r.2.1 (idZ r old own) [])
def wrR(np:Nat)(gen used:Int)(o:OTr)(old fs own:List Int):List OpK×SupK×Int:=wrY np gen old own (plO o (fs,used))
theorem Hq{sn N x}(b:x∈mkd sn N):0<=x/\x< (N:Int):=by
 unfold mkd at b;obtain⟨i,a,rfl⟩:=xC.1 b;have:=(List.mem_filter.1 a).1;simp at this;omega
theorem pq{M}:∀{ls sn:List Int},mOk M ls sn=true->∀x∈ls,2<=x/\x< (M:Int)
 |[],_,_,x,hx=>by simp at hx
 |y::ls,sn,a,x,hx=>by
  rw[mOk]at a;split at a
  ·cases a
  ·rename_i b;rcases wA.1 hx with rfl|hx
   ·omega
   ·exact pq a x hx
theorem Hr{M t f o}(a:mrk M t f o=true):(∀x∈t,2<=x/\x< (M:Int))/\(∀x∈f,2<=x/\x< (M:Int))/\∀x∈o,2<=x/\x< (M:Int):=by
 unfold mrk at a;simp only[wz]at a;exact⟨pq a.1.1.1,pq a.1.1.2,pq a.1.2⟩
theorem Hs{P:List Nat}{N}(c:P.Nodup)(b:∀p∈P,p<N):P.length<=N:=by
 have e:(Int.toNat∘fun p:Nat=>(p:Int))=id:=by funext p;simp
 have a:(P.map fun p:Nat=>(p:Int)).Nodup:=rH Int.toNat (by rw[List.map_map,e,List.map_id];exact c);have f:SeenOk (P.map fun p:Nat=>(p:Int)) N:=⟨a,fun x hx=>by
  obtain⟨p,d,rfl⟩:=xC.1 hx;have:=b p d;omega⟩
 simpa using f.le
theorem SRep.cntLe{ns t P b}(c:SRep ns t P b)(a:P.Nodup):bH t<=ns.length:=by
 rw[<-c.cnt];exact Hs a c.lt
section
variable {B0 g:Nat} {rest:List Value} {rt:Int} {nv:Nat->NdV} {na:Option Addr} {nc ab:Nat} {w1:World} {ns:List NdK}
structure WrS(B0 g:Nat)(rest:List Value)(rt:Int)(nv:Nat->NdV)(na:Option Addr)(nc ab:Nat)(w1:World)(a':Tk)(ms:List NdK)(qs:List Int)(oa:Option Addr)(oc:Nat)(fa:Option Addr)(fc:Nat)(u:World):Prop where
 fr:Below B0 w1 u
 kT:∀t,t≠208->t≠176->KeepT t w1 u
 nodes:ORow 176 6 B0 u na ms.length nc (cd nv ms)
 each:∀i,i<ms.length->RNd w1 (nv i) (ms.getD i nd0)
 tree:Blk w1 116 g (ucs na ms.length nc rt rest)
 tT:∃cs,Blk w1 208 ab cs
 hab:B0<=ab
 gB:B0<=w1.1.size
 tk:TkSt w1 u ab a' fa fc
 ord:Own1 3 w1.1.size u oa qs.length oc (on qs)
theorem WrS.st{b ms j f c h d u}(a:WrS B0 g rest rt nv na nc ab w1 b ms j f h c d u):USt B0 g rest rt u ms nv na nc:=
 ⟨a.tree.keepT (a.kT _ uv uv),a.nodes,fun i e=>(a.each i e).keep (a.kT _ uv uv) (a.kT _ uv uv),u9 a.gB a.fr.size⟩
theorem WrS.step{s p ms d n v f o w h u b}(a:WrS B0 g rest rt nv na nc ab w1 s ms d n o v w u){Z}(m:OnlyS Z u b)(r:∀k,Z k->w1.1.size<=k\/k=ab)(z:KeepT 176 u b)(A:TkSt w1 b ab p f h)(or:Own1 3 w1.1.size b n d.length o (on d)):WrS B0 g rest rt nv na nc ab w1 p ms d n o f h b:=by
 refine⟨a.fr.trans (m.below (u9 a.gB a.fr.size) (fun k y=>by rcases r k y with e|e;have:=a.gB;omega;rw[e];exact a.hab)),fun t q x=> ?_,cw a.nodes z,a.each,a.tree,a.tT,a.hab,a.gB,A,or⟩;have i:=a.kT t q x;refine⟨u9 i.size m.size,fun j cs fr c=> ?_⟩;rw[m.block j (vR.1 (i.block j cs fr c)).1 (fun e=> ?_)]
 ·exact i.block j cs fr c
 ·rcases r j e with e|rfl
  ·have:=(vR.1 c).1;omega
  ·obtain⟨B,l⟩:=a.tT;unfold Blk at l;rw[c]at l;cases l;exact q rfl
theorem WrS.below{b ms h e c f d u i}(j:WrS B0 g rest rt nv na nc ab w1 b ms h e f c d u)(a:Below u.1.size u i):WrS B0 g rest rt nv na nc ab w1 b ms h e f c d i:=
 j.step (Z:=fun _=>False) (OnlyS.ofBelow a) (fun k l=>l.elim) (aV a) (j.tk.keep (aV a)) (j.ord.below a)
theorem WrS.onlyT{c ms l h e i f u m}(n:WrS B0 g rest rt nv na nc ab w1 c ms l h i e f u){k t:Nat}{d fr}(a:OnlyB k u m)(b:u.heap[k]?=some (.cells d t fr))(s:w1.1.size<=k)(o:t≠176)(p:t≠208)(q:t≠3):WrS B0 g rest rt nv na nc ab w1 c ms l h i e f m:=
 n.step (OnlyS.ofB a) (fun j r=>u5 t7) (cx a b o) (n.tk.keep (cx a b p)) (n.ord.keep (cx a b q))
theorem WrS.onlyA{l e ms i f m a h n b u d}(k:WrS B0 g rest rt nv na nc ab w1 l ms i f h m n u)(c:OnlyB ab u d)(p:TkSt w1 d ab e a b):WrS B0 g rest rt nv na nc ab w1 e ms i f h a b d:=
 k.step (OnlyS.ofB c) (fun j o=>u4 o) (aw c k.tk.blk uv) p (k.ord.keep (aw c k.tk.blk uv))
theorem yN{w w':World}{B e s:Nat}{v v':Value}{n xs}(d:w.ownsRow B e s v n xs)(a:w.grownBy w' v'.ownBlock)(c:∀k,v.ownBlock=some k->v'.ownBlock≠some k):w'.ownsRow B e s v n xs:=by
 refine World.ownsRow.kept d a ?_;cases b:v.ownBlock with
 |none=>exact u5 rfl
 |some k=>exact u4 fun e=>c k b e.symm
theorem WrS.grown{j ms i d l f m u o}(p:WrS B0 g rest rt nv na nc ab w1 j ms i d f l m u){b}{n c e s:Nat}{xs}(h:u.ownsRow w1.1.size e s (.slice b n c) n xs)(a:u.grownBy o (Value.slice b n c).ownBlock)(q:e≠176)(r:e≠208)(v:∀k,(Value.slice d i.length f).ownBlock=some k->(Value.slice b n c).ownBlock≠some k):WrS B0 g rest rt nv na nc ab w1 j ms i d f l m o:=
 p.step (OnlyS.ofGrown a) (fun k t=>u5 (BS h k t).1) (bD h a q) (p.tk.keep (bD h a r)) (yN p.ord a v)
def WrP(B0 g:Nat)(rest:List Value)(rt:Int)(nv:Nat->NdV)(na:Option Addr)(nc ab:Nat)(w1:World)(ns:List NdK)(o:OTr)(a:Tk)(e:Ending)(u':World):Prop:=
 ∃ms qs oa oc fa fc P,e= .returned (.slice oa qs.length oc)/\WrS B0 g rest rt nv na nc ab w1 (plO o a).2.1 ms qs oa oc fa fc u'/\ms.length=ns.length/\UO ms rt (plO o a).1/\OrdR ms P qs (plO o a).2.2
structure PlOF(used:Int)(fs:List Int)(N:Nat)(r:OTr×Tk×List Tr):Prop where
 pgs:∀x∈pgZ r.1,2<=x/\x<r.2.1.2
 fr:∀x∈r.2.1.1,2<=x/\x<r.2.1.2
 lo:used<=r.2.1.2
 hi:r.2.1.2<=used+(N:Int)
 each:∀u∈r.2.2,(∃m,wf m u)/\∀x∈ar u,2<=x/\x<r.2.1.2
 cnt:(r.2.2.length:Int)+r.2.1.1.length+used=fs.length+r.2.1.2
 fl:r.2.1.1.length<=fs.length
theorem Ht{o a b N}(k:UO ns rt o)(i:∀x∈pgZ o,x=0\/(2<=x/\x<a))(d:∀x∈b,2<=x/\x<a)(g:2<=a)(l:ns.length<=N):PlOF a b N (plO o (b,a)):=by
 cases o with
 |none=>exact⟨fun x hx=>by simp[plO,pgZ]at hx,d,z7 _,(by show a<=_;omega),fun u c=>by simp[plO]at c,by simp[plO],t1⟩
 |some x=>
  obtain⟨n,t⟩:=x;obtain⟨f,P,j,h⟩:=k;have H:=ph t (b,a) i d g;have m:bH t<=ns.length:=j.cntLe h;exact⟨H.pgs,H.fr,H.lo,(by have:=H.hi;show(plT t (b,a)).2.1.2<=_;have e:((b,a):Tk).2=a:=rfl;rw[e]at this;omega),fun u c=>⟨Hn (b,a) f u c,H.each u c⟩,pp t (b,a),(mE t (b,a)).2.2.1⟩
theorem Hu(c:USt B0 g rest rt w1 ns nv na nc){o}(z:UO ns rt o)(S:ns.length<=600000)(a){h i}(l:TkSt w1 w1 ab a h i)(m:B0<=ab)(D:0<=a.2)(T:a.2<=1024)(U:a.1.length<=65536):
 Calls Tryz.prog 133 #[.pointer (some ⟨g,0,none⟩),.int .i64 rt,.pointer (some ⟨ab,0,none⟩),.slice (some ⟨w1.1.size,0,none⟩) 0 0] (w1.alloc (.cells #[] 3)) (WrP B0 g rest rt nv na nc ab w1 ns o a):=by
 have f:=bAl w1 (.cells #[] 3);have C:=fU 3 w1.1.size w1 t1;have r:TkSt w1 (w1.alloc (.cells #[] 3)) ab a h i:=l.keep (aV f);cases o with
 |none=>
  have e:rt= -1:=z;subst e;refine(GZ _ _ _ _).mono ?_;rintro e w' ⟨rfl,rfl⟩;exact⟨ns,[],_,_,h,i,[],rfl,⟨f.mono c.gB,fun t _ _=>aV f,(c.below f).nodes,c.each,c.blk,⟨_,l.blk⟩,m,c.gB,r,C⟩,rfl,rfl,trivial⟩
 |some x=>
  obtain⟨n,t⟩:=x;obtain⟨u,P,j,s⟩:=z;obtain⟨p,G,F,e0⟩:=j.root u;obtain⟨b,rfl⟩:∃b,na=some ⟨b,0,none⟩:=by
   have y:=j.lt p (by rw[F];simp);obtain⟨K,E⟩:∃K,ns[p]?=some K:=⟨_,wy y⟩;obtain⟨b,e,_⟩:=c.cells E;exact⟨b,e⟩
  have ps:=(c.pst (ab:=ab) ⟨_,l.blk⟩).below f;have J:=j.cntLe s;have R:bH t<=ns.length:=J;refine(GY n t u a ns ns _ P P rt [] _ 0 h i ⟨ps,rfl,fun _ _=>rfl,r,C⟩ j s (by simp only[zP];omega) D t7 t7 t7).mono ?_;rintro e w' ⟨ms,V,O,M,N,v,w,rfl,q,d,I,H⟩;rw[w4]at q;subst q;have Q:B0<=b:=(cE c.nodes b (by simp[rb])).1;exact⟨ms,O,M,N,v,w,P,rfl,⟨d.st.fr.below c.gB (fun k L=>by rcases L with rfl|rfl<;>omega),fun t A B=>d.st.keepT A B,d.st.nodes,d.st.each,d.st.tree,⟨_,l.blk⟩,m,c.gB,d.tk,d.ord⟩,d.len,⟨rY a u,P,I,s⟩,H⟩
theorem Hv{ms w}(k:USt B0 g rest rt w ms nv na nc){o}(c:UO ms rt o)(l:ms.length<=600000){mb N}(f:N<=1048576)(b:Own1 4 0 w (some ⟨mb,0,none⟩) N N (mkB [] N))(h:∀x∈pgZ o,0<x/\x< (N:Int)):
 Calls Tryz.prog 106 #[.pointer (some ⟨g,0,none⟩),.int .i64 rt,.slice (some ⟨mb,0,none⟩) N N] w fun e w'=>e= .returned (.tuple #[])/\OnlyB mb w w'/\Own1 4 0 w' (some ⟨mb,0,none⟩) N N (mkB (pgZ o) N):=by
 cases o with
 |none=>
  have e:rt= -1:=c;subst e;refine(wW g mb N w).mono ?_;rintro e w' ⟨rfl,rfl⟩;exact⟨rfl,OnlyB.refl _ _,b⟩
 |some x=>
  obtain⟨n,t⟩:=x;obtain⟨j,P,i,m⟩:=c;refine(G0 (mb:=mb) t7 f n t j rt P [] w k b i h).mono ?_;rintro e w' ⟨rfl,d,a⟩;rw[wi]at a;exact⟨rfl,d,a⟩
end
