import Derived.Test.YtglbanolhhjjiaaGreatDoorFo37
namespace Go.Proofs.YtglbanolhhjjiaaGreatDoor
open Go.Proofs.Tryz
open Go.RowKit
set_option linter.unusedVariables false
set_option maxRecDepth 100000
set_option maxHeartbeats 32000000
section
def UO(ns:List NdK)(rt:Int):OTr->Prop
 |none=>rt= -1
 |some x=>wf x.1 x.2/\∃P,SRep ns x.2 P [(strOfNums [],rt)]/\P.Nodup
def fH(k v:ByteArray)(d:Bool):Array Value:=#[.string k,.string v,.bool d]
variable {B0 g:Nat} {rest:List Value} {rt:Int} {w:World} {ns:List NdK} {nv:Nat->NdV} {na:Option Addr} {nc:Nat}
theorem GJ(f:USt B0 g rest rt w ns nv na nc){o:OTr}(b:UO ns rt o)(a:ns.length<=1048575)(k:ByteArray):Calls prog 130 #[.pointer (some ⟨g,0,none⟩),.int .i64 rt,.string k] w fun e w'=>e= .returned (.bool (match o with|none=>false|some x=>eP k x.1 x.2))/\Below w.1.size w w':=by
 cases o with
 |none=>
  have h:rt= -1:=b;subst h;refine(F0 k w).mono ?_;rintro e w' ⟨rfl,rfl⟩;exact⟨rfl,t7⟩
 |some x=>
  obtain⟨d,P,c,i⟩:=b;exact ye x.1 x.2 d w ns nv na nc P rt f c a
theorem yr(z:USt B0 g rest rt w ns nv na nc){o:OTr}(C:UO ns rt o)(t:ns.length<=1048575)(k v:ByteArray)(f:(match o with|none=>false|some x=>eP k x.1 x.2)=false):
 Calls prog 98 #[.pointer (some ⟨g,0,none⟩),.agg (fH k v true)] w fun e w'=>e= .returned (.bool false)/\Below w.1.size w w':=by
 obtain⟨b,a⟩:=aa (w.alloc (.cells (fH k v true) 161));have p:Below w.1.size w b:=by rw[a];exact bAl _ _
 have n:Blk b 161 w.1.size [.string k,.string v,.bool true]:=by rw[a];exact aq w _ _
 have B:b.cell? ⟨w.1.size,2,none⟩=some (.bool true):=n.cell 2;have r:Hid _:=z;unfold fH at*;go_enter func98,ntmps98;go_upto_region 1 with fail
 change Code.wp _ _ _ _ (w.alloc (.cells #[.string k,.string v,.bool true] 161));rw[<-a];clear a z;go_upto_region 2 with fail
 have m:=bDr b;have l:=p.trans (m.mono p.size);have d:=r.out.below l;have y:=n.below m;refine az (fun u=>u.cell? ⟨g,1,none⟩=some (.int .i64 rt)/\u.cell? ⟨w.1.size,0,none⟩=some (.string k)) (fun k=>decide (7<=k)) vk ?_;clear m n B p;generalize b.drew=D at*;have cs:D.cell? ⟨g,1,none⟩=some (.int .i64 rt)/\D.cell? ⟨w.1.size,0,none⟩=some (.string k):=⟨d.blk.cell 1,y.cell 0⟩;have i:=GJ d C t k;rw[f]at i;have q:Hid _:=l;clear d y l f;refine aj 0 cs ?_;refine aj 1 cs ?_;refine aj 2 cs ?_;refine aj 3 cs ?_;refine aj 4 cs ?_;refine aj 5 cs ?_;refine aj 6 cs ?_;refine ah 7 fun j c=> ?_;go_wp2_with fail;refine i.mono ?_;rintro e E ⟨rfl,s⟩;clear i;have A:Hid _:=q.out.trans (s.mono q.out.size);clear s cs;go_wp2_with fail;refine ao c ?_ (fun h=>absurd h uB);clear c j;refine ah 8 fun j c=> ?_;go_wp2_with fail;refine aU c ?_ (fun h=>absurd h uB);clear c j;go_wp2_with fail;go_ret;exact⟨rfl,A.out⟩
end
section
variable {ms:List NdK}
theorem GK:∀{l:Nat}{o:Nat}{s t:Tr}{w z:List Nat}{r:Int},wf l s->wf o t->SRep ms s w [(strOfNums [],r)]->SRep ms t z [(strOfNums [],r)]->l=o:=by
 intro l;induction l with
 |zero=>
  intro o s t w z r j k b c;rcases aO j with⟨id,es,_,rfl⟩|⟨id,L,m,e,_⟩
  ·rcases aO k with⟨g,C,rfl,rfl⟩|⟨g,u,F,rfl,rfl⟩
   ·rfl
   ·rw[SRep]at b;rw[SRep]at c;obtain⟨p,_,d,i⟩:=b;obtain⟨q,us,G,_,f,a,_⟩:=c;cases d;simp only[List.cons.injEq,Prod.mk.injEq,true_and,and_true]at f;have:q=p:=uA;subst this;rw[i]at a;simp[ndL,ndI]at a
  ·omega
 |succ n ih=>
  intro o s t w z r j k b c;rcases aO j with⟨id,es,e,_⟩|⟨id,L,m,e,rfl⟩
  ·omega
  ·rcases aO k with⟨g,C,rfl,rfl⟩|⟨g,u,F,rfl,rfl⟩
   ·rw[SRep]at b;rw[SRep]at c;obtain⟨q,us,G,_,f,a,_⟩:=b;obtain⟨p,_,d,i⟩:=c;cases d;simp only[List.cons.injEq,Prod.mk.injEq,true_and,and_true]at f;have:q=p:=uA;subst this;rw[i]at a;simp[ndL,ndI]at a
   ·rw[SRep]at b;rw[SRep]at c;obtain⟨p,u1,N,_,d,i,H⟩:=b;obtain⟨q,u2,O,_,f,a,I⟩:=c;cases d;simp only[List.cons.injEq,Prod.mk.injEq,true_and,and_true]at f;have:q=p:=uA;subst this;rw[i]at a;have D:u1.map (·.2)=u2.map (·.2):=by
     have:=C1 (fun x=>x.map NdK.kids) a;simpa [ndI]using this
    have A:=(bq.1 j);have B:=(bq.1 k);cases L with
    |nil=>exact absurd rfl A.1
    |cons x L=>
     cases u with
     |nil=>exact absurd rfl B.1
     |cons y u=>
      obtain⟨v,us,P,Q,_,rfl,J,_⟩:=er.1 H;obtain⟨v',M,R,S,_,rfl,K,_⟩:=er.1 I;simp only[ws,List.cons.injEq]at D;have E:=D.1;subst E;have:=ih (A.2.1 x vo) (B.2.1 y vo) J K;omega
noncomputable def dep(ms:List NdK)(r:Int):Nat:=Classical.epsilon fun n=> ∃t P,wf n t/\SRep ms t P [(strOfNums [],r)]
theorem GL{n t P r}(h:wf n t)(s:SRep ms t P [(strOfNums [],r)]):dep ms r=n:=by
 obtain⟨c,P',a,b⟩:=Classical.epsilon_spec (p:=fun n=> ∃t P,wf n t/\SRep ms t P [(strOfNums [],r)]) ⟨n,t,P,h,s⟩;exact GK a h b s
end
abbrev Tk:=List Int×Int
def tk1:Tk->Int×Tk
 |(f::fs,u)=>(f,fs,u)
 |([],u)=>(u,[],u+1)
def plT:Tr->Tk->Tr×Tk×List Tr
 | .leaf id es,a=>if id=0 then(.leaf (tk1 a).1 es,(tk1 a).2,[.leaf (tk1 a).1 es])else(.leaf id es,a,[])
 | .node id ks,a=>if id=0 then(.node (tk1 (plT ks a).2.1).1 (plT ks a).1,(tk1 (plT ks a).2.1).2,(plT ks a).2.2++[.node (tk1 (plT ks a).2.1).1 (plT ks a).1])else(.node id (plT ks a).1,(plT ks a).2.1,(plT ks a).2.2)
 | .nil,a=>(.nil,a,[])
 | .cons s t ks,a=>(.cons s (plT t a).1 (plT ks (plT t a).2.1).1,(plT ks (plT t a).2.1).2.1,(plT t a).2.2++(plT ks (plT t a).2.1).2.2)
def plL:List Kd->Tk->List Kd×Tk×List Tr
 |[],a=>([],a,[])
 |x::L,a=>((x.1,(plT x.2 a).1)::(plL L (plT x.2 a).2.1).1,(plL L (plT x.2 a).2.1).2.1,(plT x.2 a).2.2++(plL L (plT x.2 a).2.1).2.2)
theorem lr:∀(L:List Kd)(a:Tk),plT (kds L) a=(kds (plL L a).1,(plL L a).2.1,(plL L a).2.2)
 |[],a=>rfl
 |x::L,a=>by
  show plT (.cons x.1 x.2 (kds L)) a= _;rw[plT,lr L,plL]
  rfl
theorem yt:∀(b B:List Kd)(a:Tk),plL (b++B) a=((plL b a).1++(plL B (plL b a).2.1).1,(plL B (plL b a).2.1).2.1,(plL b a).2.2++(plL B (plL b a).2.1).2.2)
 |[],B,a=>rfl
 |x::b,B,a=>by
  rw[z1,plL,yt b B,plL];simp
theorem yu:∀(L:List Kd)(a:Tk),(plL L a).1.length=L.length
 |[],a=>rfl
 |x::L,a=>by rw[plL];simp[yu L]
theorem yw:∀(L:List Kd)(a:Tk),(plL L a).1.map (·.1)=L.map (·.1)
 |[],a=>rfl
 |x::L,a=>by rw[plL];simp[yw L]
theorem yx(L a):sgs (plL L a).1=sgs L:=by unfold sgs;rw[List.map_tail,yw,List.map_tail]
theorem GM{L:List Kd}{j}(b:j<L.length)(a):plL (L.take (j+1)) a=((plL (L.take j) a).1++[((L.getD j t0).1,(plT (L.getD j t0).2 (plL (L.take j) a).2.1).1)],(plT (L.getD j t0).2 (plL (L.take j) a).2.1).2.1,(plL (L.take j) a).2.2++(plT (L.getD j t0).2 (plL (L.take j) a).2.1).2.2):=by
 have e:L.take (j+1)=L.take j++[L.getD j t0]:=by rw[A6];simp[List.getD,List.getElem?_eq_getElem b]
 rw[e,yt];simp[plL]
theorem rV(a)(U:Int)(c:∀x∈a.1,2<=x/\x<a.2)(d:2<=a.2):(2<=(tk1 a).1/\(tk1 a).1< (tk1 a).2.2)/\(∀x∈(tk1 a).2.1,2<=x/\x< (tk1 a).2.2)/\a.2<=(tk1 a).2.2/\(tk1 a).2.2<=a.2+1:=by
 obtain⟨b,u⟩:=a;cases b with
 |nil=>simp only[tk1];exact⟨uA,vo,uA,uA⟩
 |cons f b=>simp only[tk1];exact⟨c f vo,fun x hx=>c x (by simp[hx]),uA,uA⟩
def bH:Tr->Nat
 | .leaf _ _=>1
 | .node _ ks=>bH ks+1
 | .nil=>0
 | .cons _ t ks=>bH t+bH ks
structure PlF(t:Tr)(a:Tk):Prop where
 pgs:∀x∈ar (plT t a).1,2<=x/\x< (plT t a).2.1.2
 fr:∀x∈(plT t a).2.1.1,2<=x/\x< (plT t a).2.1.2
 lo:a.2<=(plT t a).2.1.2
 hi:(plT t a).2.1.2<=a.2+bH t
 each:∀u∈(plT t a).2.2,∀x∈ar u,2<=x/\x< (plT t a).2.1.2
 len:(plT t a).2.2.length<=bH t
theorem ph:∀(t:Tr)(a:Tk),(∀x∈ar t,x=0\/(2<=x/\x<a.2))->(∀x∈a.1,2<=x/\x<a.2)->2<=a.2->PlF t a
 | .leaf id es,a,d,c,f=>by
  have h:=rV a 0 c f;by_cases g:id=0
  ·have e:plT (.leaf id es) a=(.leaf (tk1 a).1 es,(tk1 a).2,[.leaf (tk1 a).1 es]):=by rw[plT,B4 g]
   refine⟨?_,?_,?_,?_,?_,?_⟩<;>rw[e]
   ·intro x hx;simp[ar]at hx;subst hx;exact h.1
   ·exact h.2.1
   ·exact h.2.2.1
   ·simp only[bH];exact h.2.2.2
   ·intro u b x hx;simp at b;subst b;simp[ar]at hx;subst hx;exact h.1
   ·simp[bH]
  ·have e:plT (.leaf id es) a=(.leaf id es,a,[]):=by rw[plT,CH g]
   refine⟨?_,?_,?_,?_,?_,?_⟩<;>rw[e]
   ·intro x hx;rcases d x hx with rfl|h;simp[ar]at hx;omega;exact h
   ·exact c
   ·exact A4 _
   ·simp only[bH];omega
   ·intro u b;simp at b
   ·simp
 | .node id ks,a,d,c,f=>by
  have H:=ph ks a (fun x hx=>d x (by simp[ar,hx])) c f;have h:=rV (plT ks a).2.1 0 H.fr (by have:=H.lo;omega);have j:=H.lo;have l:=H.hi;by_cases g:id=0
  ·have e:plT (.node id ks) a=(.node (tk1 (plT ks a).2.1).1 (plT ks a).1,(tk1 (plT ks a).2.1).2,(plT ks a).2.2++[.node (tk1 (plT ks a).2.1).1 (plT ks a).1]):=by rw[plT,B4 g]
   have k:∀x∈ar (Tr.node (tk1 (plT ks a).2.1).1 (plT ks a).1),2<=x/\x< (tk1 (plT ks a).2.1).2.2:=by
    intro x hx;rw[ar]at hx;rcases w3.1 hx with rfl|hx
    ·exact h.1
    ·have:=H.pgs x hx;omega
   refine⟨?_,?_,?_,?_,?_,?_⟩<;>rw[e]
   ·exact k
   ·exact h.2.1
   ·show a.2<=(tk1 (plT ks a).2.1).2.2;omega
   ·show(tk1 (plT ks a).2.1).2.2<=_;simp only[bH];omega
   ·intro u b x hx;rcases w6.1 b with b|b
    ·have:=H.each u b x hx;show 2<=x/\x< (tk1 (plT ks a).2.1).2.2;omega
    ·simp at b;subst b;exact k x hx
   ·simp only[wb,w8,AO,bH];have:=H.len;omega
  ·have e:plT (.node id ks) a=(.node id (plT ks a).1,(plT ks a).2.1,(plT ks a).2.2):=by rw[plT,CH g]
   refine⟨?_,?_,?_,?_,?_,?_⟩<;>rw[e]
   ·intro x hx;rw[ar]at hx;rcases w3.1 hx with rfl|hx
    ·have:=d x (by simp[ar]);show 2<=x/\x< (plT ks a).2.1.2;omega
    ·exact H.pgs x hx
   ·exact H.fr
   ·exact j
   ·show(plT ks a).2.1.2<=_;simp only[bH];omega
   ·exact H.each
   ·show(plT ks a).2.2.length<=_;simp only[bH];have:=H.len;omega
 | .nil,a,d,c,f=>by
  refine⟨?_,?_,?_,?_,?_,?_⟩<;>rw[plT]
  ·intro x hx;simp[ar]at hx
  ·exact c
  ·exact A4 _
  ·simp only[bH];omega
  ·intro u b;simp at b
  ·simp
 | .cons s t ks,a,d,c,f=>by
  have H:=ph t a (fun x hx=>d x (by simp[ar,hx])) c f;have j:=H.lo;have l:=H.hi;have i:=ph ks (plT t a).2.1 (fun x hx=>by rcases d x (by simp[ar,hx])with h|h;exact v7 h;exact v6 uA) H.fr uA;have n:=i.lo;have m:=i.hi;refine⟨?_,?_,?_,?_,?_,?_⟩<;>rw[plT]
  ·intro x hx;rw[ar]at hx;rcases w6.1 hx with hx|hx
   ·have:=H.pgs x hx;show 2<=x/\x< (plT ks (plT t a).2.1).2.1.2;omega
   ·exact i.pgs x hx
  ·exact i.fr
  ·show a.2<=(plT ks (plT t a).2.1).2.1.2;omega
  ·show(plT ks (plT t a).2.1).2.1.2<=_;simp only[bH];omega
  ·intro u b x hx;rcases w6.1 b with b|b
   ·have:=H.each u b x hx;show 2<=x/\x< (plT ks (plT t a).2.1).2.1.2;omega
   ·exact i.each u b x hx
  ·simp only[wb,bH];have:=H.len;have:=i.len;omega
theorem lu(a):a.2<=(tk1 a).2.2/\(tk1 a).2.2<=a.2+1/\(tk1 a).2.1.length<=a.1.length:=by
 obtain⟨b,u⟩:=a;cases b with
 |nil=>simp only[tk1];exact⟨uA,uA,t6⟩
 |cons f b=>simp only[tk1,w8];exact⟨uA,uA,uA⟩
theorem mE:∀(t:Tr)(a:Tk),a.2<=(plT t a).2.1.2/\(plT t a).2.1.2<=a.2+bH t/\(plT t a).2.1.1.length<=a.1.length/\(plT t a).2.2.length<=bH t
 | .leaf id es,a=>by
  have h:=lu a;rw[plT];split<;>simp only[bH,w8,AO] <;>omega
 | .node id ks,a=>by
  have b:=mE ks a;have h:=lu (plT ks a).2.1;rw[plT];split<;>simp only[bH,wb,w8,AO] <;>omega
 | .nil,a=>by rw[plT];simp only[bH,AO];omega
 | .cons s t ks,a=>by
  have b:=mE t a;have c:=mE ks (plT t a).2.1;rw[plT];simp only[bH,wb];omega
def eG(L:List Kd):Nat:=bH (kds L)
theorem rX(x L):eG (x::L)=bH x.2+eG L:=rfl
theorem yy:∀a B:List Kd,eG (a++B)=eG a+eG B
 |[],B=>by simp[eG,kds,dw,bH]
 |x::a,B=>by rw[z1,rX,rX,yy a B];omega
theorem GN(L a):a.2<=(plL L a).2.1.2/\(plL L a).2.1.2<=a.2+eG L/\(plL L a).2.1.1.length<=a.1.length/\(plL L a).2.2.length<=eG L:=by
 have:=mE (kds L) a;rw[lr]at this;exact this
theorem rY:∀{n:Nat}{t:Tr}(a:Tk),wf n t->wf n (plT t a).1:=by
 intro n;induction n with
 |zero=>
  intro t a h;rcases aO h with⟨id,es,_,rfl⟩|⟨id,L,m,e,_⟩
  ·rw[plT];split
   ·exact dA.2 (dA.1 h)
   ·exact h
  ·omega
 |succ n ih=>
  intro t a h;rcases aO h with⟨id,es,e,_⟩|⟨id,L,m,e,rfl⟩
  ·omega
  ·obtain⟨f,g,i,j⟩:=bq.1 h;have k:∀(M:List Kd)(a:Tk),(∀x∈M,wf n x.2)->∀x∈(plL M a).1,wf n x.2:=by
    intro M;induction M with
    |nil=>intro a _ x hx;simp[plL]at hx
    |cons y M d=>
     intro a c x hx;rw[plL]at hx;rcases w3.1 hx with rfl|hx
     ·exact ih a (c y vo)
     ·exact d _ (fun p o=>c p (by simp[o])) x hx
   have l:∀b,wf (n+1) (.node b (kds (plL L a).1)):=fun b=>bq.2 ⟨(fun e=>f (y3 (by rw[<-yu L a,e];rfl))),k L a g,by rw[yx];exact i,by rw[yx];exact j⟩;rw[plT,lr];split<;>exact l _
theorem gF:∀L:List Kd,ar (kds L)=ci L
 |[]=>rfl
 |x::L=>by
  show ar (.cons x.1 x.2 (kds L))= _;rw[ar,gF L];simp[ci]
theorem eT{L:List Kd}{x}:x∈ci L↔∃y∈L,x∈ar y.2:=by simp[ci]
def pgS(A B:List Int):Prop:= ∀x∈A,x=0\/x∈B
theorem pi{L M:List Kd}(h:∀y∈L,pgS (ar y.2) (ci M)):pgS (ar (.node 0 (kds L))) (ci M):=by
 intro x hx;rw[ar,gF]at hx;rcases w3.1 hx with rfl|hx
 ·exact v7 rfl
 ·obtain⟨y,b,a⟩:=eT.1 hx;exact h y b x a
def lv:Option Kd->List Int
 |none=>[]
 |some y=>ar y.2
theorem GO{L M:List Kd}(h:∀y∈L,pgS (ar y.2) (ci M)):pgS (ar (ctN L).1) (ci M)/\pgS (lv (ctN L).2) (ci M):=by
 unfold ctN;simp only;split
 ·exact⟨pi (fun y a=>h y (List.mem_of_mem_take a)),pi (fun y a=>h y (List.mem_of_mem_drop a))⟩
 ·exact⟨pi h,fun x hx=>by simp[lv]at hx⟩
theorem GP(es B):pgS (ar (ctL es).1) B/\pgS (lv (ctL es).2) B:=by
 unfold ctL;split
 ·exact⟨fun x hx=>by simp[ar]at hx;exact v7 hx,fun x hx=>by simp[lv,ar]at hx;exact v7 hx⟩
 ·exact⟨fun x hx=>by simp[ar]at hx;exact v7 hx,fun x hx=>by simp[lv]at hx⟩
theorem GQ{k v}:∀{n:Nat}{t:Tr},wf n t->pgS (ar (dh k v n t).1) (ar t)/\pgS (lv (dh k v n t).2) (ar t):=by
 intro n;induction n with
 |zero=>
  intro t h;rcases aO h with⟨id,es,_,rfl⟩|⟨id,L,m,e,_⟩
  ·rw[dh];exact GP _ _
  ·omega
 |succ n ih=>
  intro t h;rcases aO h with⟨id,es,e,_⟩|⟨id,L,m,e,rfl⟩
  ·omega
  ·obtain⟨l,o,p,q⟩:=bq.1 h;have g:=jD (k:=k) l;have f:=ih (o _ (bO (d:=t0) g));have b:∀x,x∈ar (L.getD (kid k L) t0).2->x∈ci L:=fun x hx=>eT.2 ⟨_,bO g,hx⟩;have c:=GO (L:=L.take (kid k L)++((L.getD (kid k L) t0).1,(dh k v n (L.getD (kid k L) t0).2).1)::((dh k v n (L.getD (kid k L) t0).2).2.toList++L.drop (kid k L+1))) (M:=L) (fun y a x hx=>by
    rcases w6.1 a with a|a
    ·exact v6 (eT.2 ⟨y,List.mem_of_mem_take a,hx⟩)
    ·rcases w3.1 a with rfl|a
     ·rcases f.1 x hx with h|h
      ·exact v7 h
      ·exact v6 (b x h)
     ·rcases w6.1 a with a|a
      ·have e:(dh k v n (L.getD (kid k L) t0).2).2=some y:=by simpa using a
       rcases f.2 x (by rw[e];exact hx)with h|h
       ·exact v7 h
       ·exact v6 (b x h)
      ·exact v6 (eT.2 ⟨y,List.mem_of_mem_drop a,hx⟩))
   rw[dh];simp only[ct];have i:∀j,pgS j (ci L)->pgS j (ar (.node id (kds L))):=fun j hA x hx=>by
    rcases hA x hx with h|h
    ·exact v7 h
    ·exact v6 (by rw[ar,gF];simp[h])
   exact⟨i _ c.1,i _ c.2⟩
theorem GR{n a b s}(j:wf n a)(i:wf n b):∀x∈ar (dL a s b),x=0\/x∈ar a\/x∈ar b:=by
 rcases aO j with⟨id,es,rfl,rfl⟩|⟨id,L,m,rfl,rfl⟩
 ·rcases aO i with⟨d,g,_,rfl⟩|⟨d,L,m,e,_⟩
  ·intro x hx;simp[dL,ar]at hx;exact v7 hx
  ·omega
 ·rcases aO i with⟨d,g,e,_⟩|⟨d,M,l,e,rfl⟩
  ·omega
  ·intro x hx;rw[dL,ct,ct,ar,gF]at hx;rcases w3.1 hx with rfl|hx
   ·exact v7 rfl
   ·obtain⟨y,c,f⟩:=eT.1 hx;rcases w6.1 c with c|c
    ·exact v6 (v7 (by rw[ar,gF];exact AC _ (eT.2 ⟨y,c,f⟩)))
    ·obtain⟨o,k,e⟩:=ww c;exact v6 (v6 (by rw[ar,gF];exact AC _ (eT.2 ⟨o,k,by rw[<-e];exact f⟩)))
theorem GT{n L p}(i:∀x∈L,x.2=(L.getD p t0).2\/wf n x.2)(k:bare (L.getD p t0).2=false->wf n (L.getD p t0).2)(m:p<L.length):∀y∈fE L p,pgS (ar y.2) (ci L):=by
 intro y a;have b:∀y∈L,pgS (ar y.2) (ci L):=fun y a x hx=>v6 (eT.2 ⟨y,a,hx⟩);unfold fE at a;simp only at a;split at a
 ·exact b y ((jF _ _).subset a)
 ·rename_i j;have e:bare (L.getD p t0).2=false:=by simpa using j
  have g:∀x∈L,wf n x.2:=fun x hx=>by
   rcases i x hx with h|h
   ·rw[h];exact k e
   ·exact h
  split at a
  ·exact b y a
  ·rename_i l;split at a
   ·exact b y a
   ·have f:max p 1<L.length:=uA;have c:max p 1-1<L.length:=uA;rcases mz ((jF _ _).subset a)with rfl|a
    ·intro x hx;rcases GR (g _ (bO (d:=t0) c)) (g _ (bO (d:=t0) f)) x hx with h|h|h
     ·exact v7 h
     ·exact v6 (eT.2 ⟨_,bO c,h⟩)
     ·exact v6 (eT.2 ⟨_,bO f,h⟩)
    ·exact b y a
theorem GU{k}:∀{n:Nat}{t:Tr},wf n t->pgS (ar (bN k n t)) (ar t):=by
 intro n;induction n with
 |zero=>
  intro t h;rcases aO h with⟨id,es,_,rfl⟩|⟨id,L,m,e,_⟩
  ·rw[bN];intro x hx;simp[ar]at hx;exact v7 hx
  ·omega
 |succ n ih=>
  intro t h;rcases aO h with⟨id,es,e,_⟩|⟨id,L,m,e,rfl⟩
  ·omega
  ·obtain⟨o,i,u,v⟩:=bq.1 h;have b:=jD (k:=k) o;have c:=i _ (bO (d:=t0) b);have q:=ih c;rw[bN];simp only[ct];have l:((L.set (kid k L) ((L.getD (kid k L) t0).1,bN k n (L.getD (kid k L) t0).2)).getD (kid k L) t0).2=bN k n (L.getD (kid k L) t0).2:=by simp[List.getD_eq_getElem?_getD,b]
   have s:=GT (n:=n) (L:=L.set (kid k L) ((L.getD (kid k L) t0).1,bN k n (L.getD (kid k L) t0).2)) (p:=kid k L) (fun x hx=>by
    rcases mz hx with rfl|hx
    ·exact v7 l.symm
    ·exact v6 (i x hx)) (fun j=>by rw[l]at j ⊢;exact kM c j) (by simpa using b)
   have r:=pi (L:=fE (L.set (kid k L) ((L.getD (kid k L) t0).1,bN k n (L.getD (kid k L) t0).2)) (kid k L)) s;intro x hx;rcases r x hx with h|h
   ·exact v7 h
   ·obtain⟨y,g,f⟩:=eT.1 h;have a:∀x,x∈ci L->x∈ar (.node id (kds L)):=fun x hx=>by rw[ar,gF];exact AC _ hx
    rcases mz g with rfl|g
    ·rcases q x f with h|h
     ·exact v7 h
     ·exact v6 (a x (eT.2 ⟨_,bO b,h⟩))
    ·exact v6 (a x (eT.2 ⟨y,g,f⟩))
theorem GV:∀{n:Nat}{t:Tr},wf n t->∀x∈ar (dM n t).2,x∈ar t:=by
 intro n;induction n with
 |zero=>intro t h;rw[rp];exact fun x hx=>hx
 |succ n ih=>
  intro t h;rcases aO h with⟨id,es,e,_⟩|⟨id,L,m,e,rfl⟩
  ·omega
  ·rw[dM,ct];split
   ·intro x hx;rename_i y;have:=ih ((bq.1 h).2.1 y vo) x hx;rw[ar,gF];exact AC _ (eT.2 ⟨y,vo,this⟩)
   ·exact fun x hx=>hx
def pgZ:OTr->List Int
 |none=>[]
 |some x=>ar x.2
theorem GW{k v d}:∀{o:OTr},wfO o->pgS (pgZ (chg k v d o).1) (pgZ o)
 |none,_=>by
  rw[chg];cases d with
  |true=>intro x hx;simp[pgZ]at hx
  |false=>intro x hx;simp[pgZ,ar]at hx;exact v7 hx
 |some (n,t),h=>by
  rw[chg];cases d with
  |true=>
   simp only[if_true];split
   ·cases f:bare (bN k n t)with
    |true=>intro x hx;simp[pgZ]at hx
    |false=>
     intro x hx;exact GU h x (GV (kM h f) x hx)
   ·exact fun x hx=>v6 hx
  |false=>
   have c:=GQ (k:=k) (v:=v) h;generalize dh k v n t=r at*;obtain⟨u,o⟩:=r;cases o with
   |none=>exact c.1
   |some y=>
    intro x hx;have a:x∈ar (.node 0 (kds [(strOfNums [],u),y])):=hx;rw[ar,gF]at a;rcases w3.1 a with rfl|a
    ·exact v7 rfl
    ·obtain⟨g,e,b⟩:=eT.1 a;simp at e;rcases e with rfl|rfl
     ·exact c.1 x b
     ·exact c.2 x b
structure TkSt(w1 w:World)(ab:Nat)(a:Tk)(fa:Option Addr)(fc:Nat):Prop where
 blk:Blk w 208 ab [.slice fa a.1.length fc,.int .i64 a.2]
 row:R1 3 w1 fa a.1.length fc (on a.1)
theorem TkSt.keep{w1 w w' ab a b c}(h:TkSt w1 w ab a b c)(d:KeepT 208 w w'):TkSt w1 w' ab a b c:=⟨h.blk.keepT d,h.row⟩
def lw(a:Tk):Bool:= !a.1.isEmpty
theorem yz{w1 w ab a k j}(h:TkSt w1 w ab a k j)(y:KeepT 3 w1 w)(z:a.1.length<=1048576)(A:0<=a.2)(B:a.2<=1048576):
 Calls prog 135 #[.pointer (some ⟨ab,0,none⟩)] w fun e w'=>e= .returned (.tuple #[.int .i64 (tk1 a).1,.bool (lw a)])/\OnlyB ab w w'/\∃v x,TkSt w1 w' ab (tk1 a).2 v x:=by
 obtain⟨l,u⟩:=a;have s:w.cell? ⟨ab,0,none⟩=some (.slice k l.length j):=h.blk.cell 0;have I:w.cell? ⟨ab,1,none⟩=some (.int .i64 u):=h.blk.cell 1;have J:=h.blk.free 0;have f1:=h.blk.free 1;have F:0<=u:=A;have G:u<=1048576:=B;cases l with
 |nil=>
  have o:=ax w ab 1 (.int .i64 (u+1));have g:=uv o (TkSt.mk (a:=([],u+1)) (h.blk.set 1 (.int .i64 (u+1))) h.row);clear h o;go_enter func135,ntmps135;go_wp2_with fail
  go_ret2
  exact⟨by simp[tk1,lw],g.out.1,k,j,g.out.2⟩
 |cons f c=>
  have q:R1 3 w1 k (c.length+1) j (on (f::c)):=h.row;obtain⟨n,p,d,r⟩:=R1.cutFrom co q (i:=1) uA;obtain⟨b,m,rfl,t⟩:=(q.keep y).get (i:=0) uA;have E:w.cell? ⟨b,m,none⟩=some (.int .i64 f):=t;have D:w.cell? ⟨ab,0,none⟩=some (.slice (some ⟨b,m,none⟩) (c.length+1) j):=s;have H:c.length<=1048576:=by have:(f::c).length<=1048576:=z;simp at this;omega
  rw[show c.length+1-1=c.length by omega]at r d;have o:=ax w ab 0 (.slice n c.length p);have g:=uv o (TkSt.mk (w1:=w1) (a:=(c,u)) (h.blk.set 0 (.slice n c.length p)) r);have C:Hid _:=d;clear h s t z r o q d y;go_enter func135,ntmps135;go_wp2_with (refine nh rfl rfl (C.out w) ?_)
  go_ret2
  exact⟨rfl,g.out.1,n,p,g.out.2⟩
section
abbrev PZ(b ab:Nat)(k:Nat):Prop:=k=b\/k=ab
structure PSt(B0 g:Nat)(rest:List Value)(rt:Int)(b nc ab:Nat)(nv:Nat->NdV)(w1:World)(ns:List NdK)(u:World):Prop where
 fr:OnlyS (PZ b ab) w1 u
 nodes:ORow 176 6 B0 u (some ⟨b,0,none⟩) ns.length nc (cd nv ns)
 each:∀i,i<ns.length->RNd w1 (nv i) (ns.getD i nd0)
 tree:Blk w1 116 g (ucs (some ⟨b,0,none⟩) ns.length nc rt rest)
 tT:∃cs,Blk w1 208 ab cs
 nT:∃cur,w1.heap[b]?=some (.cells cur 176 (0,0))
 gB:B0<=w1.1.size
variable {B0 g:Nat} {rest:List Value} {rt:Int} {b nc ab:Nat} {nv:Nat->NdV} {w1:World} {ns:List NdK} {u u':World}
theorem PSt.keepT(h:PSt B0 g rest rt b nc ab nv w1 ns u){t}(d:t≠208)(e:t≠176):KeepT t w1 u:=
 ⟨h.fr.size,fun k cs fr c=>by
  rw[h.fr.block k (wy.1 c).1 ?_]
  ·exact c
  ·rintro(rfl|rfl)
   ·obtain⟨i,a⟩:=h.nT;rw[c]at a;cases a;exact e rfl
   ·obtain⟨f,a⟩:=h.tT;unfold Blk at a;rw[c]at a;cases a;exact d rfl⟩
theorem PSt.ust(h:PSt B0 g rest rt b nc ab nv w1 ns u):USt B0 g rest rt u ns nv (some ⟨b,0,none⟩) nc:=
 ⟨h.tree.keepT (h.keepT uB uB),h.nodes,fun i a=>(h.each i a).keep (h.keepT uB uB) (h.keepT uB uB),wg h.gB h.fr.size⟩
theorem USt.pst(h:USt B0 g rest rt w1 ns nv (some ⟨b,0,none⟩) nc)(c:∃cs,Blk w1 208 ab cs):PSt B0 g rest rt b nc ab nv w1 ns w1:=by
 obtain⟨_,a,d⟩:=h.nodes.blk;exact⟨OnlyS.refl _ _,h.nodes,h.each,h.blk,c,⟨a,d⟩,h.gB⟩
theorem PSt.below(h:PSt B0 g rest rt b nc ab nv w1 ns u)(a:Below u.1.size u u'):PSt B0 g rest rt b nc ab nv w1 ns u':=
 ⟨h.fr.trans (OnlyS.ofBelow a),h.nodes.below a,h.each,h.tree,h.tT,h.nT,h.gB⟩
theorem PSt.onlyA(h:PSt B0 g rest rt b nc ab nv w1 ns u){cs}(hA:Blk u 208 ab cs)(o:OnlyB ab u u'):PSt B0 g rest rt b nc ab nv w1 ns u':=
 ⟨h.fr.trans ((OnlyS.ofB o).mono (fun k _ e=>v6 e)),cw h.nodes (aw o hA uB),h.each,h.tree,h.tT,h.nT,h.gB⟩
theorem PSt.grown(h:PSt B0 g rest rt b nc ab nv w1 ns u){a n c xs}(f:Own1 3 w1.1.size u a n c xs)(d:u.grownBy u' (Value.slice a n c).ownBlock):PSt B0 g rest rt b nc ab nv w1 ns u':=
 ⟨h.fr.transN (OnlyS.ofGrown d) (fun k i e=>by have:=(Ct f k e).1;omega),cw h.nodes (bD f d uB),h.each,h.tree,h.tT,h.nT,h.gB⟩
def lx(K:NdK)(i:Int):NdK:=⟨i,K.leaf,K.keys,K.vals,K.kids,K.signs⟩
theorem GX(v K i):(ndc v K).set 0 (.int .i64 i)=ndc v (lx K i):=rfl
theorem yA{a:Type}(l:List a)(p x d)(h:p<l.length):(l.set p x).getD p d=x:=by simp[List.getD_eq_getElem?_getD,h]
theorem yB{a:Type}(l:List a){p i}(x d)(h:i≠p):(l.set p x).getD i d=l.getD i d:=by simp[List.getD_eq_getElem?_getD,List.getElem?_set_ne (Ne.symm h)]
theorem PSt.setPg(h:PSt B0 g rest rt b nc ab nv w1 ns u){p K}(d:ns[p]?=some K)(i):PSt B0 g rest rt b nc ab nv w1 (ns.set p (lx K i)) (u.setCell ⟨b,p*6,none⟩ (.int .i64 i)):=by
 have f:=(wC.1 d).1;have c:ns.getD p nd0=K:=by rw[List.getD,d];rfl
 have o:=(AQ h.nodes (ot nv ns _) p 0 f uA (.int .i64 i)).1;refine⟨h.fr.trans ((OnlyS.ofB (ax u b (p*6) _)).mono (fun k _ e=>v7 e)),?_,fun j a=> ?_,by rw[BD];exact h.tree,h.tT,h.nT,h.gB⟩
 ·rw[BD];refine ORow.congr o (fun j a=> ?_);by_cases e:j=p
  ·subst e;rw[iJ];unfold cd;rw[yA _ _ _ _ a,c,GX]
  ·unfold cH cd;rw[CH e,yB _ _ _ e]
 ·rw[BD]at a;by_cases e:j=p
  ·subst e;rw[yA _ _ _ _ a];have:=h.each j a;rw[c]at this;exact⟨this.keys,this.vals,this.kids,this.signs⟩
  ·rw[yB _ _ _ e];exact h.each j a
def OrdR(ms:List NdK)(P:List Nat):List Int->List Tr->Prop
 |[],[]=>True
 |q::qs,t::ts=>(∃G,SRep ms t G [(strOfNums [],q)]/\∀x∈G,x∈P)/\OrdR ms P qs ts
 |_,_=>False
theorem OrdR.len{ms P}:∀{a:List Int}{b:List Tr},OrdR ms P a b->a.length=b.length
 |[],[],_=>rfl
 |q::a,t::b,h=>by rw[OrdR]at h;simp[OrdR.len h.2]
 |[],_::_,h=>by simp[OrdR]at h
 |_::_,[],h=>by simp[OrdR]at h
theorem OrdR.keep{ms a P P'}(f:∀p∈P,a[p]?=ms[p]?)(e:∀p∈P,p∈P'):∀{b:List Int}{c:List Tr},OrdR ms P b c->OrdR a P' b c
 |[],[],_=>trivial
 |q::b,t::c,h=>by
  rw[OrdR]at h ⊢;obtain⟨⟨G,g,d⟩,i⟩:=h;exact⟨⟨G,g.keep (fun p j=>f p (d p j)),fun x hx=>e x (d x hx)⟩,OrdR.keep f e i⟩
 |[],_::_,h=>by simp[OrdR]at h
 |_::_,[],h=>by simp[OrdR]at h
theorem OrdR.cat{ms P a b}(e:OrdR ms P a b):∀{c:List Int}{d:List Tr},OrdR ms P c d->OrdR ms P (c++a) (d++b)
 |[],[],_=>e
 |q::c,t::d,h=>by
  rw[OrdR]at h;show OrdR ms P (q::(c++a)) (t::(d++b));rw[OrdR];exact⟨h.1,OrdR.cat e h.2⟩
 |[],_::_,h=>by simp[OrdR]at h
 |_::_,[],h=>by simp[OrdR]at h
theorem OrdR.get{ms P}:∀{c:List Int}{b:List Tr},OrdR ms P c b->∀i,i<b.length->∃G,SRep ms (b.getD i .nil) G [(strOfNums [],c.getD i 0)]/\∀x∈G,x∈P
 |[],[],_,i,a=>by simp at a
 |q::c,t::b,h,i,a=>by
  rw[OrdR]at h;cases i with
  |zero=>simpa using h.1
  |succ i=>simpa using OrdR.get h.2 i (by simpa using a)
 |[],_::_,h,i,a=>by simp[OrdR]at h
 |_::_,[],h,i,a=>by simp[OrdR]at h
theorem SRep.cnt:∀{t:Tr}{P:List Nat}{a:List Pl},SRep ns t P a->P.length=bH t
 | .leaf id es,P,a,h=>by
  rw[SRep]at h;obtain⟨p,rfl,_⟩:=h
  rfl
 | .node id ks,P,a,h=>by
  rw[SRep]at h;obtain⟨p,us,G,rfl,_,_,b⟩:=h;simp[bH,b.cnt]
 | .nil,P,a,h=>by rw[SRep]at h;rw[h.1];rfl
 | .cons s t ks,P,a,h=>by
  rw[SRep]at h;obtain⟨v,us,d,e,rfl,_,c,b⟩:=h;simp[bH,c.cnt,b.cnt]
end
section
theorem PSt.free{B0 g rest rt b nc ab nv w1 ns u}(h:PSt B0 g rest rt b nc ab nv w1 ns u)(i):u.frozen? ⟨b,i,none⟩=false:=by
 obtain⟨_,a,c⟩:=h.nodes.blk;exact frozen_of_row u b i a _ c
theorem pj{a:Type}{l:List a}{j}(d)(h:j<l.length):l.drop j=l.getD j d::l.drop (j+1):=by
 rw[yv h];simp[List.getD,List.getElem?_eq_getElem h]
def pgE(K:NdK)(a:Tk):Int×Tk:=if K.page=0 then tk1 a else(K.page,a)
def exP(K:NdK)(p:Nat):List Int:=if K.page=0 then [(p:Int)]else []
structure PlS(B0 g:Nat)(rest:List Value)(rt:Int)(b nc ab:Nat)(nv:Nat->NdV)(w1:World)(ns:List NdK)(P:List Nat)(a':Tk)(ms:List NdK)(ol:List Int)(oa:Option Addr)(oc:Nat)(fa:Option Addr)(fc:Nat)(u:World):Prop where
 st:PSt B0 g rest rt b nc ab nv w1 ms u
 len:ms.length=ns.length
 out:∀q,q∉P->ms[q]?=ns[q]?
 tk:TkSt w1 u ab a' fa fc
 ord:Own1 3 w1.1.size u oa ol.length oc (on ol)
variable {B0 g:Nat} {rest:List Value} {rt:Int} {b nc ab:Nat} {nv:Nat->NdV} {w1:World}
def PlP(B0 g:Nat)(rest:List Value)(rt:Int)(b nc ab:Nat)(nv:Nat->NdV)(w1:World)(ns:List NdK)(t':Tr)(a':Tk)(ts:List Tr)(P:List Nat)(p:Int)(order:List Int)(e:Ending)(u':World):Prop:=
 ∃ms qs ol oa oc fa fc,e= .returned (.slice oa ol.length oc)/\ol=order++qs/\PlS B0 g rest rt b nc ab nv w1 ns P a' ms ol oa oc fa fc u'/\SRep ms t' P [(strOfNums [],p)]/\OrdR ms P qs ts
def PlC(B0 g:Nat)(rest:List Value)(rt:Int)(b nc ab:Nat)(nv:Nat->NdV)(w1:World)(t:Tr):Prop:= ∀(a:Tk)(ns ms:List NdK)(u:World)(Q P:List Nat)(p:Int)(order:List Int)(oa:Option Addr)(oc:Nat)(fa:Option Addr)(fc:Nat),PlS B0 g rest rt b nc ab nv w1 ns Q a ms order oa oc fa fc u->SRep ms t P [(strOfNums [],p)]->P.Nodup->order.length+bH t<=1048575->0<=a.2->a.2+bH t<=1048575->a.1.length<=1048575->ms.length<=1048575->
 Calls prog 133 #[.pointer (some ⟨g,0,none⟩),.int .i64 p,.pointer (some ⟨ab,0,none⟩),.slice oa order.length oc] u fun e u'=>PlP B0 g rest rt b nc ab nv w1 ms (plT t a).1 (plT t a).2.1 (plT t a).2.2 P p order e u'
def StP(B0 g:Nat)(rest:List Value)(rt:Int)(b nc ab:Nat)(nv:Nat->NdV)(w1:World)(ns:List NdK)(K:NdK)(p:Nat)(L:List Kd)(us:List Pl)(G:List Nat)(a:Tk)(order:List Int)(e:Ending)(u':World):Prop:=
 ∃ms qs ol oa oc fa fc,e= .returned (.slice oa ol.length oc)/\ol=order++(qs++exP K p)/\PlS B0 g rest rt b nc ab nv w1 ns (p::G) (pgE K (plL L a).2.1).2 ms ol oa oc fa fc u'/\SRep ms (kds (plL L a).1) G us/\ms[p]?=some (lx K (pgE K (plL L a).2.1).1)/\OrdR ms G qs (plL L a).2.2
theorem yC(a ns u p K)(cb:ns[p]?=some K)(L us G)(bC:SRep ns (kds L) G us)(an:K.kids=us.map (·.2))(ap:(p::G).Nodup)(c5:L.length<=1000)(b0:∀x∈L,PlC B0 g rest rt b nc ab nv w1 x.2)(c s w I J)(cP:PSt B0 g rest rt b nc ab nv w1 ns u)(cS:TkSt w1 u ab a I J)(cc:Own1 3 w1.1.size u s c.length w (on c))(c7:c.length+eG L<=1048574)(da:0<=a.2)(db:a.2+eG L<=1048574)(c6:a.1.length<=1048575)(cl:ns.length<=1048575):
 Calls prog 133 #[.pointer (some ⟨g,0,none⟩),.int .i64 (p:Nat),.pointer (some ⟨ab,0,none⟩),.slice s c.length w] u fun e c3=>StP B0 g rest rt b nc ab nv w1 ns K p L us G a c e c3:=by
 have c8:¬(p:Int)<0:=uA;have ba:p∉G:=(zz.1 ap).1;have a5:G.Nodup:=(zz.1 ap).2;have bf:=bC.len;have cj:K.kids.length=L.length:=by rw[an,y2,bf]
 have Y:=uv cP (vJ cS (vJ cc (vJ bC a5)));have bW:Hid _:=b0;have bX:Hid (K.kids=us.map (·.2)):=an;have cW:Hid _:=cb;clear cP cS cc bC b0 an ap a5 bf cb;go_enter func133,ntmps133;go_wp2_with fail;go_loopw [3,9] (fun o x wr=> ∃(j:Nat)(ms:List NdK)(y m:List Int)(s:Option Addr)(w:Nat)(I:Option Addr)(J:Nat)(r bs:List Nat)(W bS:List Pl),x= .int .i64 (j:Nat)/\o= .slice s m.length w/\m=c++y/\j<=L.length/\PlS B0 g rest rt b nc ab nv w1 ns G (plL (L.take j) a).2.1 ms m s w I J wr/\G=r++bs/\us=W++bS/\W.length=j/\SRep ms (kds (plL (L.take j) a).1) r W/\SRep ms (kds (L.drop j)) bs bS/\OrdR ms r y (plL (L.take j) a).2.2) (fun _ x _=>L.length-(intOf x).toNat)
 case atStart=>exact⟨0,ns,[],c,s,w,I,J,[],G,[],us,rfl,rfl,vo,wa _,⟨Y.out.1,rfl,fun _ _=>rfl,Y.out.2.1,Y.out.2.2.1⟩,rfl,rfl,rfl,gE.2 ⟨rfl,rfl⟩,Y.out.2.2.2.1,trivial⟩
 case round=>
  obtain⟨j,ms,y,m,s,w,I,J,r,bs,W,bS,rfl,rfl,l,dc,k,ak,aT,A,hA,U,C⟩:=hrel;obtain⟨a1,cp⟩:=aa wr;subst cp;have z:ms[p]?=some K:=by rw[k.out p ba];exact cW.out
  have T:=k.st.ust;obtain⟨_,bA,f,am,cm⟩:=T.cells z;cases bA;have a2:a1.cell? ⟨g,0,none⟩=some (.slice (some ⟨b,0,none⟩) ms.length nc):=T.blk.cell 0;have bx:a1.cell? ⟨b,p*6+4,none⟩=some (.slice (nv p).da L.length (nv p).dc):=by rw[<-cj];exact f 4 _ rfl
  have ae:a1.cell? ⟨b,p*6,none⟩=some (.int .i64 K.page):=f 0 _ rfl;have ck:ms.length<=1048575:=by rw[k.len];exact cl
  have sz:=GN (L.take j) a;have bn:eG (L.take j)+eG (L.drop j)=eG L:=by rw[<-yy,A5]
  have bb:=C.len;have O:m.length=c.length+y.length:=by rw[l,wb]
  by_cases Q:j<L.length
  ·have bE:(j:Int)< (L.length:Int):=uA;obtain⟨dd,dk,b9,bz⟩:=am.kids.get (i:=j) uA;rw[cF _ _ uA]at bz;rw[b9]at bx;rw[pj t0 Q]at U;obtain⟨v,cT,E,br,rfl,rfl,cL,cM⟩:=er.1 U;have cn:K.kids.getD j 0=v:=by
    rw[bX.out,aT,AF,yc,xb (by simp[A])];simp[A]
   rw[cn]at bz;have aA:(r++(E++br)).Nodup:=by rw[<-ak];exact Y.out.2.2.2.2
   have bF:=z8.1 aA;have bP:=z8.1 bF.2.1;have cg:eG (L.drop j)=bH (L.getD j t0).2+eG (L.drop (j+1)):=by rw[pj t0 Q,rX]
   have bZ:=bW.out (L.getD j t0) (bO Q) (plL (L.take j) a).2.1 ns ms a1 G E v m s w I J k cL bP.1 uA uA uA uA ck;have bd:=GM Q a;have d:=uv k (vJ hA (vJ C (vJ cM (vJ bF bP))));have Z:Hid _:=bd;have ac:=uv aT (vJ A (vJ ak l));clear bd f am T z U hA C k b9 cn aA ak aT A l cL cM bF bP ae bb O sz bn cg;go_wp2_with fail;refine bZ.mono ?_;rintro e c4 ⟨B,a0,S,bk,bl,a3,a4,rfl,aB,n,bc,a6⟩;clear bZ a2 bx bz;have D:∀x,x∈r->B[x]?=ms[x]?:=fun x hx=>n.out x (fun h=>d.out.2.2.2.2.1.2.2 x hx x (by simp[h]) rfl);have R:∀x,x∈br->B[x]?=ms[x]?:=fun x hx=>n.out x (fun h=>d.out.2.2.2.2.2.2.2 x h x hx rfl);have cA:=(d.out.2.1.keep D);have cB:=(d.out.2.2.2.1.keep R);have cv:=OrdR.keep (P':=r++E) D (fun x hx=>by simp[hx]) d.out.2.2.1;have cz:=OrdR.keep (P':=r++E) (fun _ _=>rfl) (fun x hx=>by simp[hx]) a6;have rel:PlS B0 g rest rt b nc ab nv w1 ns G (plL (L.take (j+1)) a).2.1 B S bk bl a3 a4 c4:=by
    rw[Z.out];exact⟨n.st,n.len.trans d.out.1.len,fun q P=>(n.out q (fun h=>P (by rw[ac.out.2.2.1];simp[h]))).trans (d.out.1.out q P),n.tk,n.ord⟩
   have bm:SRep B (kds (plL (L.take (j+1)) a).1) (r++E) (W++[((L.getD j t0).1,v)]):=by
    rw[Z.out];exact SRep.cat (er.2 ⟨v,[],E,[],vo,rfl,bc,gE.2 ⟨rfl,rfl⟩⟩) cA
   have cD:OrdR B (r++E) (y++a0) (plL (L.take (j+1)) a).2.2:=by
    rw[Z.out];exact OrdR.cat cz cv
   have F:=uv rel (vJ bm (vJ cB cD));have H:Hid (S=c++(y++a0)):=by show S= _;rw[aB,ac.out.2.2.2,wv]
   clear n bc a6 D R cA cB cv cz rel bm cD aB d;go_wp2_with fail;go_roundw
   case rel=>exact⟨j+1,B,y++a0,S,bk,bl,a3,a4,r++E,br,W++[((L.getD j t0).1,v)],cT,by go_num,rfl,H.out,uA,F.out.1,by rw[ac.out.2.2.1];simp,by rw[ac.out.1];simp,by simp[ac.out.2.1],F.out.2.1,F.out.2.2.1,F.out.2.2.2⟩
   case measure=>simp[intOf];omega
  ·have a8:j=L.length:=uA;have bE:¬(j:Int)< (L.length:Int):=uA;have ce:L.take j=L:=w5 uA;have ca:L.drop j=[]:=A0 uA;rw[ce]at k hA C sz;rw[ca]at U;obtain⟨rfl,rfl⟩:=gE.1 U;rw[wP]at ak aT;subst ak;subst aT;have aS:=C.len;clear U ce ca f am T bn bb;by_cases V:K.page=0
   ·rw[V]at ae;have b3:=yz k.tk (k.st.keepT uB uB) uA uA uA;have d:=uv k (vJ hA (vJ C z));have N:Hid (K.page=0):=V;have H:Hid (m=c++y):=l;have cf:m.length<=1048576:=uA;generalize ch:(tk1 (plL L a).2.1).1=id at*;have bT:Hid _:=ch;clear k hA C z V l aS O a8 A;go_wp2_with fail;refine b3.mono ?_;rintro e M ⟨rfl,bR,af,ag,cR⟩;clear b3 a2 bx ae;have ad:=d.out.1.st.onlyA d.out.1.tk.blk bR;have b1:=d.out.1.ord.keep (aw bR d.out.1.tk.blk uB);have bv:=ad.ust;have a2:M.cell? ⟨g,0,none⟩=some (.slice (some ⟨b,0,none⟩) ms.length nc):=bv.blk.cell 0;have c1:=ad.free (p*6);obtain⟨_,bA,f,_,_⟩:=bv.cells d.out.2.2.2;cases bA;have ae:M.cell? ⟨b,p*6,none⟩=some (.int .i64 K.page):=f 0 _ rfl;obtain⟨_,c0,a7⟩:=ad.nodes.blk;have cs:=ax M b (p*6) (.int .i64 id);have kW:∀t,176≠t->KeepT t M (M.setCell ⟨b,p*6,none⟩ (.int .i64 id)):=fun t c2=>cx cs a7 c2;have bu:=ad.setPg d.out.2.2.2 id;have b5:TkSt w1 (M.setCell ⟨b,p*6,none⟩ (.int .i64 id)) ab (tk1 (plL L a).2.1).2 af ag:=cR.keep (kW _ uB);have b2:=b1.keep (kW _ uB);have cq:w1.1.size<=(M.setCell ⟨b,p*6,none⟩ (.int .i64 id)).1.size:=bu.fr.size;have X:=uv bu (vJ b5 b2);clear f a7 cs kW bu b5 b2 ad b1 bv cR bR;go_upto_region 10 with fail
    generalize M.setCell ⟨b,p*6,none⟩ (.int .i64 id)=b6 at*;clear a2 ae c1;go_wp2_with (at_builtin;refine lN rfl _ _ co rfl w1.1.size s m.length w (on m) rfl X.out.2.2 (.int .i64 (p:Nat)) rfl rfl cf uA cq ?_);intro b7 b8 cV cr cX bB;have aX:=bAl b6 (.cells #[.int .i64 (p:Nat)] 3);have b4:=(X.out.1.below aX).grown (X.out.2.2.below aX) bB;have bg:KeepT 208 b6 cV:=(aV aX).trans (bD (X.out.2.2.below aX) bB uB);have F:Hid (PlS B0 g rest rt b nc ab nv w1 ns (p::G) (tk1 (plL L a).2.1).2 (ms.set p (lx K id)) (m++[(p:Int)]) b7 b8 af ag cV):=⟨b4,by rw[BD];exact d.out.1.len,fun q P=>by
     rw[BV (fun e=>P (by simp[e]))];exact d.out.1.out q (fun h=>P (by simp[h])),X.out.2.1.keep bg,by rw[wb,<-fv];exact cr⟩
    have a9:∀x∈G,(ms.set p (lx K id))[x]?=ms[x]?:=fun x hx=>BV (fun e=>ba (by rw[e];exact hx));have bY:=uv (d.out.2.1.keep a9) (OrdR.keep a9 (fun _ h=>h) d.out.2.2.1);clear b4 bg cr cX bB aX;go_wp2_with fail;go_ret;refine⟨ms.set p (lx K id),y,m++[(p:Int)],b7,b8,af,ag,vo,?_,?_,bY.out.1,?_,bY.out.2⟩
    ·rw[exP,B4 N.out,H.out,wv]
    ·rw[pgE,B4 N.out];exact F.out
    ·rw[pgE,B4 N.out,bT.out,List.getElem?_set_self cm]
   ·have d:=uv k (vJ hA (vJ C z));have N:Hid (¬K.page=0):=V;have H:Hid (m=c++y):=l;have c9:(K.page==0)=false:=by rw[D2];exact V
    have F:Hid (PlS B0 g rest rt b nc ab nv w1 ns (p::G) (plL L a).2.1 ms m s w I J a1):=⟨k.st,k.len,fun q P=>k.out q (fun h=>P (by simp[h])),k.tk,k.ord⟩;clear k hA C z l aS O a8 A V;go_wp2_with fail;go_ret;refine⟨ms,y,m,s,w,I,J,rfl,?_,?_,d.out.2.1,?_,d.out.2.2.1⟩
    ·rw[exP,CH N.out,H.out,wP]
    ·rw[pgE,CH N.out];exact F.out
    ·rw[pgE,CH N.out];exact d.out.2.2.2
theorem GY:∀(n:Nat)(t:Tr),wf n t->PlC B0 g rest rt b nc ab nv w1 t:=by
 intro n;induction n with
 |zero=>
  intro t D a ns ms u ad P p l T U H I w z y S J j Q R;rcases aO D with⟨id,es,_,rfl⟩|⟨id,L,m,e,_⟩
  ·rw[SRep]at z;obtain⟨q,rfl,F,N⟩:=z;cases F;simp only[bH]at S j;have h:=yC a ms u q (ndL id es) N [] [] [] (gE.2 ⟨rfl,rfl⟩) rfl y vo (fun x hx=>by simp at hx) l T U H I w.st w.tk w.ord (by simp[eG,kds,dw,bH];omega) J (by simp[eG,kds,dw,bH];omega) Q R;refine h.mono ?_;rintro e w' ⟨i,E,B,s,v,o,r,j,c,d,K,f,C⟩;have Z:E=[]:=by have:=C.len;simpa [plL]using this
   subst Z;have O:(pgE (ndL id es) (plL [] a).2.1)=(if id=0 then tk1 a else(id,a)):=rfl;have M:exP (ndL id es) q=if id=0 then [(q:Int)]else []:=rfl;rw[O]at d f;rw[M]at c;by_cases k:id=0
   ·rw[B4 k]at c d f;have e:plT (.leaf id es) a=(.leaf (tk1 a).1 es,(tk1 a).2,[.leaf (tk1 a).1 es]):=by rw[plT,B4 k]
    rw[e];have A:SRep i (.leaf (tk1 a).1 es) [q] [(strOfNums [],(q:Int))]:=by rw[SRep];exact⟨q,rfl,rfl,f⟩
    exact⟨i,[(q:Int)],B,s,v,o,r,j,c,d,A,by rw[OrdR];exact⟨⟨[q],A,fun x hx=>hx⟩,trivial⟩⟩
   ·rw[CH k]at c d f;have e:plT (.leaf id es) a=(.leaf id es,a,[]):=by rw[plT,CH k]
    rw[e];exact⟨i,[],B,s,v,o,r,j,c,d,by rw[SRep];exact⟨q,rfl,rfl,f⟩,trivial⟩
  ·omega
 |succ n ih=>
  intro t D a ns ms u ad P p l T U H I w z y S J j Q R;rcases aO D with⟨id,es,e,_⟩|⟨id,L,m,e,rfl⟩
  ·omega
  ·obtain⟨w0,W,ae,ac⟩:=bq.1 D;have V:L.length<=1000:=by
    rw[dm]at ac;have:=gQ (sgs L);have:=gC L;omega
   rw[SRep]at z;obtain⟨q,us,G,rfl,F,N,X⟩:=z;cases F;have Y:bH (.node id (kds L))=eG L+1:=rfl;rw[Y]at S j;have h:=yC a ms u q (ndI id us) N L us G X rfl y V (fun x hx=>ih x.2 (W x hx)) l T U H I w.st w.tk w.ord uA J uA Q R;refine h.mono ?_;rintro e w' ⟨i,E,B,s,v,o,r,j,c,d,K,f,C⟩;have O:(pgE (ndI id us) (plL L a).2.1)=(if id=0 then tk1 (plL L a).2.1 else(id,(plL L a).2.1)):=rfl;have M:exP (ndI id us) q=if id=0 then [(q:Int)]else []:=rfl;rw[O]at d f;rw[M]at c;by_cases k:id=0
   ·rw[B4 k]at c d f;have e:plT (.node id (kds L)) a=(.node (tk1 (plL L a).2.1).1 (kds (plL L a).1),(tk1 (plL L a).2.1).2,(plL L a).2.2++[.node (tk1 (plL L a).2.1).1 (kds (plL L a).1)]):=by rw[plT,B4 k,lr]
    rw[e];have A:SRep i (.node (tk1 (plL L a).2.1).1 (kds (plL L a).1)) (q::G) [(strOfNums [],(q:Int))]:=by rw[SRep];exact⟨q,us,G,rfl,rfl,f,K⟩
    refine⟨i,E++[(q:Int)],B,s,v,o,r,j,c,d,A,OrdR.cat ?_ (OrdR.keep (fun _ _=>rfl) (fun x hx=>by simp[hx]) C)⟩;rw[OrdR];exact⟨⟨q::G,A,fun x hx=>hx⟩,trivial⟩
   ·rw[CH k]at c d f;have e:plT (.node id (kds L)) a=(.node id (kds (plL L a).1),(plL L a).2.1,(plL L a).2.2):=by rw[plT,CH k,lr]
    rw[e];rw[wP]at c;exact⟨i,E,B,s,v,o,r,j,c,d,by rw[SRep];exact⟨q,us,G,rfl,rfl,f,K⟩,OrdR.keep (fun _ _=>rfl) (fun x hx=>by simp[hx]) C⟩
theorem GZ(a n b w):Calls prog 133 #[.pointer (some ⟨g,0,none⟩),.int .i64 (-1),.pointer (some ⟨ab,0,none⟩),.slice a n b] w fun e w'=>e= .returned (.slice a n b)/\w'=w:=by
 go_enter func133,ntmps133;go_wp2_with fail;go_ret;exact⟨rfl,rfl⟩
end
