import Derived.Test.YtglbanolhhjjiaaGreatDoorFo37
namespace Go.Proofs.YtglbanolhhjjiaaGreatDoor
open Go.Proofs.Tryz
open Go.RowKit
set_option linter.unusedVariables false
set_option maxRecDepth 100000
set_option maxHeartbeats 32000000
section
def UO(ns:List NdK)(rt:Int):OTr->Prop
 |none=>rt= -1
 |some x=>wf x.1 x.2/\∃P,SRep ns x.2 P [(strOfNums [],rt)]/\P.Nodup
def fH(k v:ByteArray)(d:Bool):Array Value:=#[.string k,.string v,.bool d]
variable {B0 g:Nat} {rest:List Value} {rt:Int} {w:World} {ns:List NdK} {nv:Nat->NdV} {na:Option Addr} {nc:Nat}
theorem GJ(f:USt B0 g rest rt w ns nv na nc){o:OTr}(b:UO ns rt o)(a:ns.length<=1048575)(k:ByteArray):Calls prog 130 #[.pointer (some ⟨g,0,none⟩),.int .i64 rt,.string k] w fun e w'=>e= .returned (.bool (match o with|none=>false|some x=>eP k x.1 x.2))/\Below w.1.size w w':=by
 cases o with
 |none=>
  have h:rt= -1:=b;subst h;refine(F0 k w).mono ?_;rintro e w' ⟨rfl,rfl⟩;exact⟨rfl,t2⟩
 |some x=>
  obtain⟨d,P,c,i⟩:=b;exact ye x.1 x.2 d w ns nv na nc P rt f c a
theorem yr(y:USt B0 g rest rt w ns nv na nc){o:OTr}(C:UO ns rt o)(s:ns.length<=1048575)(k v:ByteArray)(f:(match o with|none=>false|some x=>eP k x.1 x.2)=false):
 Calls prog 98 #[.pointer (some ⟨g,0,none⟩),.agg (fH k v true)] w fun e w'=>e= .returned (.bool false)/\Below w.1.size w w':=by
 obtain⟨b,a⟩:=aa (w.alloc (.cells (fH k v true) 161));have n:Below w.1.size w b:=by rw[a];exact bAl _ _
 have m:Blk b 161 w.1.size [.string k,.string v,.bool true]:=by rw[a];exact aq w _ _
 have A:b.cell? ⟨w.1.size,2,none⟩=some (.bool true):=m.cell 2;have q:Hid _:=y;unfold fH at*;go_enter func98,ntmps98;go_upto_region 1 with fail
 change Code.wp _ _ _ _ (w.alloc (.cells #[.string k,.string v,.bool true] 161));rw[<-a];clear a y;go_upto_region 2 with fail
 have l:=bDr b;have j:=n.trans (l.mono n.size);have d:=q.out.below j;have t:=m.below l;refine az (fun u=>u.cell? ⟨g,1,none⟩=some (.int .i64 rt)/\u.cell? ⟨w.1.size,0,none⟩=some (.string k)) (fun k=>decide (7<=k)) uA ?_;clear l m A n;generalize b.drew=D at*;have cs:D.cell? ⟨g,1,none⟩=some (.int .i64 rt)/\D.cell? ⟨w.1.size,0,none⟩=some (.string k):=⟨d.blk.cell 1,t.cell 0⟩;have h:=GJ d C s k;rw[f]at h;have p:Hid _:=j;clear d t j f;refine aj 0 cs ?_;refine aj 1 cs ?_;refine aj 2 cs ?_;refine aj 3 cs ?_;refine aj 4 cs ?_;refine aj 5 cs ?_;refine aj 6 cs ?_;refine ah 7 fun i c=> ?_;go_wp2_with fail;refine h.mono ?_;rintro e E ⟨rfl,r⟩;clear h;have z:Hid _:=p.out.trans (r.mono p.out.size);clear r cs;go_wp2_with fail;refine ao c ?_ (fun B=>absurd B uv);clear c i;refine ah 8 fun i c=> ?_;go_wp2_with fail;refine aU c ?_ (fun B=>absurd B uv);clear c i;go_wp2_with fail;go_ret;exact⟨rfl,z.out⟩
end
section
variable {ms:List NdK}
theorem GK:∀{k:Nat}{l:Nat}{o s:Tr}{u w:List Nat}{r:Int},wf k o->wf l s->SRep ms o u [(strOfNums [],r)]->SRep ms s w [(strOfNums [],r)]->k=l:=by
 intro k;induction k with
 |zero=>
  intro l o s u w r i j b c;rcases aO i with⟨id,es,_,rfl⟩|⟨id,L,m,e,_⟩
  ·rcases aO j with⟨g,B,rfl,rfl⟩|⟨g,t,E,rfl,rfl⟩
   ·rfl
   ·rw[SRep]at b;rw[SRep]at c;obtain⟨p,_,d,h⟩:=b;obtain⟨q,us,G,_,f,a,_⟩:=c;cases d;simp only[List.cons.injEq,Prod.mk.injEq,true_and,and_true]at f;have:q=p:=t7;subst this;rw[h]at a;simp[ndL,ndI]at a
  ·omega
 |succ n ih=>
  intro l o s u w r i j b c;rcases aO i with⟨id,es,e,_⟩|⟨id,L,m,e,rfl⟩
  ·omega
  ·rcases aO j with⟨g,B,rfl,rfl⟩|⟨g,t,E,rfl,rfl⟩
   ·rw[SRep]at b;rw[SRep]at c;obtain⟨q,us,G,_,f,a,_⟩:=b;obtain⟨p,_,d,h⟩:=c;cases d;simp only[List.cons.injEq,Prod.mk.injEq,true_and,and_true]at f;have:q=p:=t7;subst this;rw[h]at a;simp[ndL,ndI]at a
   ·rw[SRep]at b;rw[SRep]at c;obtain⟨p,u1,N,_,d,h,F⟩:=b;obtain⟨q,K,O,_,f,a,H⟩:=c;cases d;simp only[List.cons.injEq,Prod.mk.injEq,true_and,and_true]at f;have:q=p:=t7;subst this;rw[h]at a;have C:u1.map (·.2)=K.map (·.2):=by
     have:=B8 (fun x=>x.map NdK.kids) a;simpa [ndI]using this
    have z:=(bq.1 i);have A:=(bq.1 j);cases L with
    |nil=>exact absurd rfl z.1
    |cons x L=>
     cases t with
     |nil=>exact absurd rfl A.1
     |cons y t=>
      obtain⟨v,us,P,Q,_,rfl,I,_⟩:=er.1 F;obtain⟨v',M,R,S,_,rfl,J,_⟩:=er.1 H;simp only[vo,List.cons.injEq]at C;have D:=C.1;subst D;have:=ih (z.2.1 x uB) (A.2.1 y uB) I J;omega
noncomputable def dep(ms:List NdK)(r:Int):Nat:=Classical.epsilon fun n=> ∃t P,wf n t/\SRep ms t P [(strOfNums [],r)]
theorem GL{n t P r}(c:wf n t)(s:SRep ms t P [(strOfNums [],r)]):dep ms r=n:=by
 obtain⟨d,P',a,b⟩:=Classical.epsilon_spec (p:=fun n=> ∃t P,wf n t/\SRep ms t P [(strOfNums [],r)]) ⟨n,t,P,c,s⟩;exact GK a c b s
end
abbrev Tk:=List Int×Int
def tk1:Tk->Int×Tk
 |(f::fs,u)=>(f,fs,u)
 |([],u)=>(u,[],u+1)
def plT:Tr->Tk->Tr×Tk×List Tr
 | .leaf id es,a=>if id=0 then(.leaf (tk1 a).1 es,(tk1 a).2,[.leaf (tk1 a).1 es])else(.leaf id es,a,[])
 | .node id ks,a=>if id=0 then(.node (tk1 (plT ks a).2.1).1 (plT ks a).1,(tk1 (plT ks a).2.1).2,(plT ks a).2.2++[.node (tk1 (plT ks a).2.1).1 (plT ks a).1])else(.node id (plT ks a).1,(plT ks a).2.1,(plT ks a).2.2)
 | .nil,a=>(.nil,a,[])
 | .cons s t ks,a=>(.cons s (plT t a).1 (plT ks (plT t a).2.1).1,(plT ks (plT t a).2.1).2.1,(plT t a).2.2++(plT ks (plT t a).2.1).2.2)
def plL:List Kd->Tk->List Kd×Tk×List Tr
 |[],a=>([],a,[])
 |x::L,a=>((x.1,(plT x.2 a).1)::(plL L (plT x.2 a).2.1).1,(plL L (plT x.2 a).2.1).2.1,(plT x.2 a).2.2++(plL L (plT x.2 a).2.1).2.2)
theorem lr:∀(L:List Kd)(a:Tk),plT (kds L) a=(kds (plL L a).1,(plL L a).2.1,(plL L a).2.2)
 |[],a=>rfl
 |x::L,a=>by
  show plT (.cons x.1 x.2 (kds L)) a= _;rw[plT,lr L,plL]
  rfl
theorem yt:∀(b B:List Kd)(a:Tk),plL (b++B) a=((plL b a).1++(plL B (plL b a).2.1).1,(plL B (plL b a).2.1).2.1,(plL b a).2.2++(plL B (plL b a).2.1).2.2)
 |[],B,a=>rfl
 |x::b,B,a=>by
  rw[y4,plL,yt b B,plL];simp
theorem yu:∀(L:List Kd)(a:Tk),(plL L a).1.length=L.length
 |[],a=>rfl
 |x::L,a=>by rw[plL];simp[yu L]
theorem yw:∀(L:List Kd)(a:Tk),(plL L a).1.map (·.1)=L.map (·.1)
 |[],a=>rfl
 |x::L,a=>by rw[plL];simp[yw L]
theorem yx(L a):sgs (plL L a).1=sgs L:=by unfold sgs;rw[List.map_tail,yw,List.map_tail]
theorem GM{L:List Kd}{j}(b:j<L.length)(a):plL (L.take (j+1)) a=((plL (L.take j) a).1++[((L.getD j t0).1,(plT (L.getD j t0).2 (plL (L.take j) a).2.1).1)],(plT (L.getD j t0).2 (plL (L.take j) a).2.1).2.1,(plL (L.take j) a).2.2++(plT (L.getD j t0).2 (plL (L.take j) a).2.1).2.2):=by
 have e:L.take (j+1)=L.take j++[L.getD j t0]:=by rw[AC];simp[List.getD,List.getElem?_eq_getElem b]
 rw[e,yt];simp[plL]
theorem rV(a)(U:Int)(c:∀x∈a.1,2<=x/\x<a.2)(d:2<=a.2):(2<=(tk1 a).1/\(tk1 a).1< (tk1 a).2.2)/\(∀x∈(tk1 a).2.1,2<=x/\x< (tk1 a).2.2)/\a.2<=(tk1 a).2.2/\(tk1 a).2.2<=a.2+1:=by
 obtain⟨b,u⟩:=a;cases b with
 |nil=>simp only[tk1];exact⟨t7,uB,t7,t7⟩
 |cons f b=>simp only[tk1];exact⟨c f uB,fun x hx=>c x (by simp[hx]),t7,t7⟩
def bH:Tr->Nat
 | .leaf _ _=>1
 | .node _ ks=>bH ks+1
 | .nil=>0
 | .cons _ t ks=>bH t+bH ks
structure PlF(t:Tr)(a:Tk):Prop where
 pgs:∀x∈ar (plT t a).1,2<=x/\x< (plT t a).2.1.2
 fr:∀x∈(plT t a).2.1.1,2<=x/\x< (plT t a).2.1.2
 lo:a.2<=(plT t a).2.1.2
 hi:(plT t a).2.1.2<=a.2+bH t
 each:∀u∈(plT t a).2.2,∀x∈ar u,2<=x/\x< (plT t a).2.1.2
 len:(plT t a).2.2.length<=bH t
theorem ph:∀(t:Tr)(a:Tk),(∀x∈ar t,x=0\/(2<=x/\x<a.2))->(∀x∈a.1,2<=x/\x<a.2)->2<=a.2->PlF t a
 | .leaf id es,a,d,c,g=>by
  have f:=rV a 0 c g;by_cases h:id=0
  ·have e:plT (.leaf id es) a=(.leaf (tk1 a).1 es,(tk1 a).2,[.leaf (tk1 a).1 es]):=by rw[plT,BC h]
   refine⟨?_,?_,?_,?_,?_,?_⟩<;>rw[e]
   ·intro x hx;simp[ar]at hx;subst hx;exact f.1
   ·exact f.2.1
   ·exact f.2.2.1
   ·simp only[bH];exact f.2.2.2
   ·intro u b x hx;simp at b;subst b;simp[ar]at hx;subst hx;exact f.1
   ·simp[bH]
  ·have e:plT (.leaf id es) a=(.leaf id es,a,[]):=by rw[plT,BX h]
   refine⟨?_,?_,?_,?_,?_,?_⟩<;>rw[e]
   ·intro x hx;rcases d x hx with rfl|f;simp[ar]at hx;omega;exact f
   ·exact c
   ·exact z7 _
   ·simp only[bH];omega
   ·intro u b;simp at b
   ·simp
 | .node id ks,a,d,c,g=>by
  have H:=ph ks a (fun x hx=>d x (by simp[ar,hx])) c g;have f:=rV (plT ks a).2.1 0 H.fr (by have:=H.lo;omega);have j:=H.lo;have l:=H.hi;by_cases h:id=0
  ·have e:plT (.node id ks) a=(.node (tk1 (plT ks a).2.1).1 (plT ks a).1,(tk1 (plT ks a).2.1).2,(plT ks a).2.2++[.node (tk1 (plT ks a).2.1).1 (plT ks a).1]):=by rw[plT,BC h]
   have k:∀x∈ar (Tr.node (tk1 (plT ks a).2.1).1 (plT ks a).1),2<=x/\x< (tk1 (plT ks a).2.1).2.2:=by
    intro x hx;rw[ar]at hx;rcases wA.1 hx with rfl|hx
    ·exact f.1
    ·have:=H.pgs x hx;omega
   refine⟨?_,?_,?_,?_,?_,?_⟩<;>rw[e]
   ·exact k
   ·exact f.2.1
   ·show a.2<=(tk1 (plT ks a).2.1).2.2;omega
   ·show(tk1 (plT ks a).2.1).2.2<=_;simp only[bH];omega
   ·intro u b x hx;rcases wE.1 b with b|b
    ·have:=H.each u b x hx;show 2<=x/\x< (tk1 (plT ks a).2.1).2.2;omega
    ·simp at b;subst b;exact k x hx
   ·simp only[u7,wQ,zP,bH];have:=H.len;omega
  ·have e:plT (.node id ks) a=(.node id (plT ks a).1,(plT ks a).2.1,(plT ks a).2.2):=by rw[plT,BX h]
   refine⟨?_,?_,?_,?_,?_,?_⟩<;>rw[e]
   ·intro x hx;rw[ar]at hx;rcases wA.1 hx with rfl|hx
    ·have:=d x (by simp[ar]);show 2<=x/\x< (plT ks a).2.1.2;omega
    ·exact H.pgs x hx
   ·exact H.fr
   ·exact j
   ·show(plT ks a).2.1.2<=_;simp only[bH];omega
   ·exact H.each
   ·show(plT ks a).2.2.length<=_;simp only[bH];have:=H.len;omega
 | .nil,a,d,c,g=>by
  refine⟨?_,?_,?_,?_,?_,?_⟩<;>rw[plT]
  ·intro x hx;simp[ar]at hx
  ·exact c
  ·exact z7 _
  ·simp only[bH];omega
  ·intro u b;simp at b
  ·simp
 | .cons s t ks,a,d,c,g=>by
  have H:=ph t a (fun x hx=>d x (by simp[ar,hx])) c g;have j:=H.lo;have l:=H.hi;have i:=ph ks (plT t a).2.1 (fun x hx=>by rcases d x (by simp[ar,hx])with f|f;exact u5 f;exact u4 t7) H.fr t7;have n:=i.lo;have m:=i.hi;refine⟨?_,?_,?_,?_,?_,?_⟩<;>rw[plT]
  ·intro x hx;rw[ar]at hx;rcases wE.1 hx with hx|hx
   ·have:=H.pgs x hx;show 2<=x/\x< (plT ks (plT t a).2.1).2.1.2;omega
   ·exact i.pgs x hx
  ·exact i.fr
  ·show a.2<=(plT ks (plT t a).2.1).2.1.2;omega
  ·show(plT ks (plT t a).2.1).2.1.2<=_;simp only[bH];omega
  ·intro u b x hx;rcases wE.1 b with b|b
   ·have:=H.each u b x hx;show 2<=x/\x< (plT ks (plT t a).2.1).2.1.2;omega
   ·exact i.each u b x hx
  ·simp only[u7,bH];have:=H.len;have:=i.len;omega
theorem lu(a):a.2<=(tk1 a).2.2/\(tk1 a).2.2<=a.2+1/\(tk1 a).2.1.length<=a.1.length:=by
 obtain⟨b,u⟩:=a;cases b with
 |nil=>simp only[tk1];exact⟨t7,t7,t1⟩
 |cons f b=>simp only[tk1,wQ];exact⟨t7,t7,t7⟩
theorem mE:∀(t:Tr)(a:Tk),a.2<=(plT t a).2.1.2/\(plT t a).2.1.2<=a.2+bH t/\(plT t a).2.1.1.length<=a.1.length/\(plT t a).2.2.length<=bH t
 | .leaf id es,a=>by
  have c:=lu a;rw[plT];split<;>simp only[bH,wQ,zP] <;>omega
 | .node id ks,a=>by
  have b:=mE ks a;have c:=lu (plT ks a).2.1;rw[plT];split<;>simp only[bH,u7,wQ,zP] <;>omega
 | .nil,a=>by rw[plT];simp only[bH,zP];omega
 | .cons s t ks,a=>by
  have b:=mE t a;have d:=mE ks (plT t a).2.1;rw[plT];simp only[bH,u7];omega
def eG(L:List Kd):Nat:=bH (kds L)
theorem rX(x L):eG (x::L)=bH x.2+eG L:=rfl
theorem yy:∀a B:List Kd,eG (a++B)=eG a+eG B
 |[],B=>by simp[eG,kds,dw,bH]
 |x::a,B=>by rw[y4,rX,rX,yy a B];omega
theorem GN(L a):a.2<=(plL L a).2.1.2/\(plL L a).2.1.2<=a.2+eG L/\(plL L a).2.1.1.length<=a.1.length/\(plL L a).2.2.length<=eG L:=by
 have:=mE (kds L) a;rw[lr]at this;exact this
theorem rY:∀{n:Nat}{t:Tr}(a:Tk),wf n t->wf n (plT t a).1:=by
 intro n;induction n with
 |zero=>
  intro t a c;rcases aO c with⟨id,es,_,rfl⟩|⟨id,L,m,e,_⟩
  ·rw[plT];split
   ·exact dA.2 (dA.1 c)
   ·exact c
  ·omega
 |succ n ih=>
  intro t a c;rcases aO c with⟨id,es,e,_⟩|⟨id,L,m,e,rfl⟩
  ·omega
  ·obtain⟨g,h,i,j⟩:=bq.1 c;have k:∀(M:List Kd)(a:Tk),(∀x∈M,wf n x.2)->∀x∈(plL M a).1,wf n x.2:=by
    intro M;induction M with
    |nil=>intro a _ x hx;simp[plL]at hx
    |cons y M f=>
     intro a d x hx;rw[plL]at hx;rcases wA.1 hx with rfl|hx
     ·exact ih a (d y uB)
     ·exact f _ (fun p o=>d p (by simp[o])) x hx
   have l:∀b,wf (n+1) (.node b (kds (plL L a).1)):=fun b=>bq.2 ⟨(fun e=>g (x8 (by rw[<-yu L a,e];rfl))),k L a h,by rw[yx];exact i,by rw[yx];exact j⟩;rw[plT,lr];split<;>exact l _
theorem gF:∀L:List Kd,ar (kds L)=ci L
 |[]=>rfl
 |x::L=>by
  show ar (.cons x.1 x.2 (kds L))= _;rw[ar,gF L];simp[ci]
theorem eT{L:List Kd}{x}:x∈ci L↔∃y∈L,x∈ar y.2:=by simp[ci]
def pgS(A B:List Int):Prop:= ∀x∈A,x=0\/x∈B
theorem pi{L M:List Kd}(c:∀y∈L,pgS (ar y.2) (ci M)):pgS (ar (.node 0 (kds L))) (ci M):=by
 intro x hx;rw[ar,gF]at hx;rcases wA.1 hx with rfl|hx
 ·exact u5 rfl
 ·obtain⟨y,b,a⟩:=eT.1 hx;exact c y b x a
def lv:Option Kd->List Int
 |none=>[]
 |some y=>ar y.2
theorem GO{L M:List Kd}(b:∀y∈L,pgS (ar y.2) (ci M)):pgS (ar (ctN L).1) (ci M)/\pgS (lv (ctN L).2) (ci M):=by
 unfold ctN;simp only;split
 ·exact⟨pi (fun y a=>b y (List.mem_of_mem_take a)),pi (fun y a=>b y (List.mem_of_mem_drop a))⟩
 ·exact⟨pi b,fun x hx=>by simp[lv]at hx⟩
theorem GP(es B):pgS (ar (ctL es).1) B/\pgS (lv (ctL es).2) B:=by
 unfold ctL;split
 ·exact⟨fun x hx=>by simp[ar]at hx;exact u5 hx,fun x hx=>by simp[lv,ar]at hx;exact u5 hx⟩
 ·exact⟨fun x hx=>by simp[ar]at hx;exact u5 hx,fun x hx=>by simp[lv]at hx⟩
theorem GQ{k v}:∀{n:Nat}{t:Tr},wf n t->pgS (ar (dh k v n t).1) (ar t)/\pgS (lv (dh k v n t).2) (ar t):=by
 intro n;induction n with
 |zero=>
  intro t b;rcases aO b with⟨id,es,_,rfl⟩|⟨id,L,m,e,_⟩
  ·rw[dh];exact GP _ _
  ·omega
 |succ n ih=>
  intro t b;rcases aO b with⟨id,es,e,_⟩|⟨id,L,m,e,rfl⟩
  ·omega
  ·obtain⟨l,o,p,q⟩:=bq.1 b;have h:=jD (k:=k) l;have g:=ih (o _ (bO (d:=t0) h));have c:∀x,x∈ar (L.getD (kid k L) t0).2->x∈ci L:=fun x hx=>eT.2 ⟨_,bO h,hx⟩;have f:=GO (L:=L.take (kid k L)++((L.getD (kid k L) t0).1,(dh k v n (L.getD (kid k L) t0).2).1)::((dh k v n (L.getD (kid k L) t0).2).2.toList++L.drop (kid k L+1))) (M:=L) (fun y a x hx=>by
    rcases wE.1 a with a|a
    ·exact u4 (eT.2 ⟨y,List.mem_of_mem_take a,hx⟩)
    ·rcases wA.1 a with rfl|a
     ·rcases g.1 x hx with b|b
      ·exact u5 b
      ·exact u4 (c x b)
     ·rcases wE.1 a with a|a
      ·have e:(dh k v n (L.getD (kid k L) t0).2).2=some y:=by simpa using a
       rcases g.2 x (by rw[e];exact hx)with b|b
       ·exact u5 b
       ·exact u4 (c x b)
      ·exact u4 (eT.2 ⟨y,List.mem_of_mem_drop a,hx⟩))
   rw[dh];simp only[ct];have i:∀j,pgS j (ci L)->pgS j (ar (.node id (kds L))):=fun j hA x hx=>by
    rcases hA x hx with b|b
    ·exact u5 b
    ·exact u4 (by rw[ar,gF];simp[b])
   exact⟨i _ f.1,i _ f.2⟩
theorem GR{n a b s}(i:wf n a)(h:wf n b):∀x∈ar (dL a s b),x=0\/x∈ar a\/x∈ar b:=by
 rcases aO i with⟨id,es,rfl,rfl⟩|⟨id,L,m,rfl,rfl⟩
 ·rcases aO h with⟨d,g,_,rfl⟩|⟨d,L,m,e,_⟩
  ·intro x hx;simp[dL,ar]at hx;exact u5 hx
  ·omega
 ·rcases aO h with⟨d,g,e,_⟩|⟨d,M,k,e,rfl⟩
  ·omega
  ·intro x hx;rw[dL,ct,ct,ar,gF]at hx;rcases wA.1 hx with rfl|hx
   ·exact u5 rfl
   ·obtain⟨y,c,f⟩:=eT.1 hx;rcases wE.1 c with c|c
    ·exact u4 (u5 (by rw[ar,gF];exact zs _ (eT.2 ⟨y,c,f⟩)))
    ·obtain⟨l,j,e⟩:=ww c;exact u4 (u4 (by rw[ar,gF];exact zs _ (eT.2 ⟨l,j,by rw[<-e];exact f⟩)))
theorem GT{n L p}(i:∀x∈L,x.2=(L.getD p t0).2\/wf n x.2)(k:bare (L.getD p t0).2=false->wf n (L.getD p t0).2)(m:p<L.length):∀y∈fE L p,pgS (ar y.2) (ci L):=by
 intro y a;have b:∀y∈L,pgS (ar y.2) (ci L):=fun y a x hx=>u4 (eT.2 ⟨y,a,hx⟩);unfold fE at a;simp only at a;split at a
 ·exact b y ((jF _ _).subset a)
 ·rename_i j;have e:bare (L.getD p t0).2=false:=by simpa using j
  have g:∀x∈L,wf n x.2:=fun x hx=>by
   rcases i x hx with h|h
   ·rw[h];exact k e
   ·exact h
  split at a
  ·exact b y a
  ·rename_i l;split at a
   ·exact b y a
   ·have f:max p 1<L.length:=t7;have c:max p 1-1<L.length:=t7;rcases mz ((jF _ _).subset a)with rfl|a
    ·intro x hx;rcases GR (g _ (bO (d:=t0) c)) (g _ (bO (d:=t0) f)) x hx with h|h|h
     ·exact u5 h
     ·exact u4 (eT.2 ⟨_,bO c,h⟩)
     ·exact u4 (eT.2 ⟨_,bO f,h⟩)
    ·exact b y a
theorem GU{k}:∀{n:Nat}{t:Tr},wf n t->pgS (ar (bN k n t)) (ar t):=by
 intro n;induction n with
 |zero=>
  intro t a;rcases aO a with⟨id,es,_,rfl⟩|⟨id,L,m,e,_⟩
  ·rw[bN];intro x hx;simp[ar]at hx;exact u5 hx
  ·omega
 |succ n ih=>
  intro t a;rcases aO a with⟨id,es,e,_⟩|⟨id,L,m,e,rfl⟩
  ·omega
  ·obtain⟨o,i,u,v⟩:=bq.1 a;have c:=jD (k:=k) o;have f:=i _ (bO (d:=t0) c);have q:=ih f;rw[bN];simp only[ct];have l:((L.set (kid k L) ((L.getD (kid k L) t0).1,bN k n (L.getD (kid k L) t0).2)).getD (kid k L) t0).2=bN k n (L.getD (kid k L) t0).2:=by simp[List.getD_eq_getElem?_getD,c]
   have s:=GT (n:=n) (L:=L.set (kid k L) ((L.getD (kid k L) t0).1,bN k n (L.getD (kid k L) t0).2)) (p:=kid k L) (fun x hx=>by
    rcases mz hx with rfl|hx
    ·exact u5 l.symm
    ·exact u4 (i x hx)) (fun j=>by rw[l]at j ⊢;exact kM f j) (by simpa using c)
   have r:=pi (L:=fE (L.set (kid k L) ((L.getD (kid k L) t0).1,bN k n (L.getD (kid k L) t0).2)) (kid k L)) s;intro x hx;rcases r x hx with a|a
   ·exact u5 a
   ·obtain⟨y,h,g⟩:=eT.1 a;have b:∀x,x∈ci L->x∈ar (.node id (kds L)):=fun x hx=>by rw[ar,gF];exact zs _ hx
    rcases mz h with rfl|h
    ·rcases q x g with a|a
     ·exact u5 a
     ·exact u4 (b x (eT.2 ⟨_,bO c,a⟩))
    ·exact u4 (b x (eT.2 ⟨y,h,g⟩))
theorem GV:∀{n:Nat}{t:Tr},wf n t->∀x∈ar (dM n t).2,x∈ar t:=by
 intro n;induction n with
 |zero=>intro t a;rw[rp];exact fun x hx=>hx
 |succ n ih=>
  intro t a;rcases aO a with⟨id,es,e,_⟩|⟨id,L,m,e,rfl⟩
  ·omega
  ·rw[dM,ct];split
   ·intro x hx;rename_i y;have:=ih ((bq.1 a).2.1 y uB) x hx;rw[ar,gF];exact zs _ (eT.2 ⟨y,uB,this⟩)
   ·exact fun x hx=>hx
def pgZ:OTr->List Int
 |none=>[]
 |some x=>ar x.2
theorem GW{k v d}:∀{o:OTr},wfO o->pgS (pgZ (chg k v d o).1) (pgZ o)
 |none,_=>by
  rw[chg];cases d with
  |true=>intro x hx;simp[pgZ]at hx
  |false=>intro x hx;simp[pgZ,ar]at hx;exact u5 hx
 |some (n,t),f=>by
  rw[chg];cases d with
  |true=>
   simp only[if_true];split
   ·cases g:bare (bN k n t)with
    |true=>intro x hx;simp[pgZ]at hx
    |false=>
     intro x hx;exact GU f x (GV (kM f g) x hx)
   ·exact fun x hx=>u4 hx
  |false=>
   have c:=GQ (k:=k) (v:=v) f;generalize dh k v n t=r at*;obtain⟨u,o⟩:=r;cases o with
   |none=>exact c.1
   |some y=>
    intro x hx;have a:x∈ar (.node 0 (kds [(strOfNums [],u),y])):=hx;rw[ar,gF]at a;rcases wA.1 a with rfl|a
    ·exact u5 rfl
    ·obtain⟨h,e,b⟩:=eT.1 a;simp at e;rcases e with rfl|rfl
     ·exact c.1 x b
     ·exact c.2 x b
structure TkSt(w1 w:World)(ab:Nat)(a:Tk)(fa:Option Addr)(fc:Nat):Prop where
 blk:Blk w 208 ab [.slice fa a.1.length fc,.int .i64 a.2]
 row:R1 3 w1 fa a.1.length fc (on a.1)
theorem TkSt.keep{w1 w w' ab a b c}(e:TkSt w1 w ab a b c)(d:KeepT 208 w w'):TkSt w1 w' ab a b c:=⟨e.blk.keepT d,e.row⟩
def lw(a:Tk):Bool:= !a.1.isEmpty
theorem yz{w1 w ab a k h}(j:TkSt w1 w ab a k h)(y:KeepT 3 w1 w)(z:a.1.length<=1048576)(A:0<=a.2)(B:a.2<=1048576):
 Calls prog 135 #[.pointer (some ⟨ab,0,none⟩)] w fun e w'=>e= .returned (.tuple #[.int .i64 (tk1 a).1,.bool (lw a)])/\OnlyB ab w w'/\∃v x,TkSt w1 w' ab (tk1 a).2 v x:=by
 obtain⟨l,u⟩:=a;have s:w.cell? ⟨ab,0,none⟩=some (.slice k l.length h):=j.blk.cell 0;have I:w.cell? ⟨ab,1,none⟩=some (.int .i64 u):=j.blk.cell 1;have J:=j.blk.free 0;have f1:=j.blk.free 1;have F:0<=u:=A;have G:u<=1048576:=B;cases l with
 |nil=>
  have o:=ax w ab 1 (.int .i64 (u+1));have g:=t6 o (TkSt.mk (a:=([],u+1)) (j.blk.set 1 (.int .i64 (u+1))) j.row);clear j o;go_enter func135,ntmps135;go_wp2_with fail
  go_ret2
  exact⟨by simp[tk1,lw],g.out.1,k,h,g.out.2⟩
 |cons f c=>
  have q:R1 3 w1 k (c.length+1) h (on (f::c)):=j.row;obtain⟨n,p,d,r⟩:=R1.cutFrom co q (i:=1) t7;obtain⟨b,m,rfl,t⟩:=(q.keep y).get (i:=0) t7;have E:w.cell? ⟨b,m,none⟩=some (.int .i64 f):=t;have D:w.cell? ⟨ab,0,none⟩=some (.slice (some ⟨b,m,none⟩) (c.length+1) h):=s;have H:c.length<=1048576:=by have:(f::c).length<=1048576:=z;simp at this;omega
  rw[show c.length+1-1=c.length by omega]at r d;have o:=ax w ab 0 (.slice n c.length p);have g:=t6 o (TkSt.mk (w1:=w1) (a:=(c,u)) (j.blk.set 0 (.slice n c.length p)) r);have C:Hid _:=d;clear j s t z r o q d y;go_enter func135,ntmps135;go_wp2_with (refine nh rfl rfl (C.out w) ?_)
  go_ret2
  exact⟨rfl,g.out.1,n,p,g.out.2⟩
section
abbrev PZ(b ab:Nat)(k:Nat):Prop:=k=b\/k=ab
structure PSt(B0 g:Nat)(rest:List Value)(rt:Int)(b nc ab:Nat)(nv:Nat->NdV)(w1:World)(ns:List NdK)(u:World):Prop where
 fr:OnlyS (PZ b ab) w1 u
 nodes:ORow 176 6 B0 u (some ⟨b,0,none⟩) ns.length nc (cd nv ns)
 each:∀i,i<ns.length->RNd w1 (nv i) (ns.getD i nd0)
 tree:Blk w1 116 g (ucs (some ⟨b,0,none⟩) ns.length nc rt rest)
 tT:∃cs,Blk w1 208 ab cs
 nT:∃cur,w1.heap[b]?=some (.cells cur 176 (0,0))
 gB:B0<=w1.1.size
variable {B0 g:Nat} {rest:List Value} {rt:Int} {b nc ab:Nat} {nv:Nat->NdV} {w1:World} {ns:List NdK} {u u':World}
theorem PSt.keepT(d:PSt B0 g rest rt b nc ab nv w1 ns u){t}(e:t≠208)(f:t≠176):KeepT t w1 u:=
 ⟨d.fr.size,fun k cs fr c=>by
  rw[d.fr.block k (vR.1 c).1 ?_]
  ·exact c
  ·rintro(rfl|rfl)
   ·obtain⟨i,a⟩:=d.nT;rw[c]at a;cases a;exact f rfl
   ·obtain⟨h,a⟩:=d.tT;unfold Blk at a;rw[c]at a;cases a;exact e rfl⟩
theorem PSt.ust(a:PSt B0 g rest rt b nc ab nv w1 ns u):USt B0 g rest rt u ns nv (some ⟨b,0,none⟩) nc:=
 ⟨a.tree.keepT (a.keepT uv uv),a.nodes,fun i c=>(a.each i c).keep (a.keepT uv uv) (a.keepT uv uv),u9 a.gB a.fr.size⟩
theorem USt.pst(c:USt B0 g rest rt w1 ns nv (some ⟨b,0,none⟩) nc)(d:∃cs,Blk w1 208 ab cs):PSt B0 g rest rt b nc ab nv w1 ns w1:=by
 obtain⟨_,a,e⟩:=c.nodes.blk;exact⟨OnlyS.refl _ _,c.nodes,c.each,c.blk,d,⟨a,e⟩,c.gB⟩
theorem PSt.below(a:PSt B0 g rest rt b nc ab nv w1 ns u)(c:Below u.1.size u u'):PSt B0 g rest rt b nc ab nv w1 ns u':=
 ⟨a.fr.trans (OnlyS.ofBelow c),a.nodes.below c,a.each,a.tree,a.tT,a.nT,a.gB⟩
theorem PSt.onlyA(a:PSt B0 g rest rt b nc ab nv w1 ns u){cs}(hA:Blk u 208 ab cs)(o:OnlyB ab u u'):PSt B0 g rest rt b nc ab nv w1 ns u':=
 ⟨a.fr.trans ((OnlyS.ofB o).mono (fun k _ e=>u4 e)),cw a.nodes (aw o hA uv),a.each,a.tree,a.tT,a.nT,a.gB⟩
theorem PSt.grown(d:PSt B0 g rest rt b nc ab nv w1 ns u){a n c xs}(h:Own1 3 w1.1.size u a n c xs)(f:u.grownBy u' (Value.slice a n c).ownBlock):PSt B0 g rest rt b nc ab nv w1 ns u':=
 ⟨d.fr.transN (OnlyS.ofGrown f) (fun k i e=>by have:=(BS h k e).1;omega),cw d.nodes (bD h f uv),d.each,d.tree,d.tT,d.nT,d.gB⟩
def lx(K:NdK)(i:Int):NdK:=⟨i,K.leaf,K.keys,K.vals,K.kids,K.signs⟩
theorem GX(v K i):(ndc v K).set 0 (.int .i64 i)=ndc v (lx K i):=rfl
theorem yA{b:Type}(l:List b)(p x d)(a:p<l.length):(l.set p x).getD p d=x:=by simp[List.getD_eq_getElem?_getD,a]
theorem yB{b:Type}(l:List b){p i}(x d)(a:i≠p):(l.set p x).getD i d=l.getD i d:=by simp[List.getD_eq_getElem?_getD,List.getElem?_set_ne (Ne.symm a)]
theorem PSt.setPg(c:PSt B0 g rest rt b nc ab nv w1 ns u){p K}(f:ns[p]?=some K)(i):PSt B0 g rest rt b nc ab nv w1 (ns.set p (lx K i)) (u.setCell ⟨b,p*6,none⟩ (.int .i64 i)):=by
 have h:=(wb.1 f).1;have d:ns.getD p nd0=K:=by rw[List.getD,f];rfl
 have o:=(AQ c.nodes (ot nv ns _) p 0 h t7 (.int .i64 i)).1;refine⟨c.fr.trans ((OnlyS.ofB (ax u b (p*6) _)).mono (fun k _ e=>u5 e)),?_,fun j a=> ?_,by rw[A1];exact c.tree,c.tT,c.nT,c.gB⟩
 ·rw[A1];refine ORow.congr o (fun j a=> ?_);by_cases e:j=p
  ·subst e;rw[iJ];unfold cd;rw[yA _ _ _ _ a,d,GX]
  ·unfold cH cd;rw[BX e,yB _ _ _ e]
 ·rw[A1]at a;by_cases e:j=p
  ·subst e;rw[yA _ _ _ _ a];have:=c.each j a;rw[d]at this;exact⟨this.keys,this.vals,this.kids,this.signs⟩
  ·rw[yB _ _ _ e];exact c.each j a
def OrdR(ms:List NdK)(P:List Nat):List Int->List Tr->Prop
 |[],[]=>True
 |q::qs,t::ts=>(∃G,SRep ms t G [(strOfNums [],q)]/\∀x∈G,x∈P)/\OrdR ms P qs ts
 |_,_=>False
theorem OrdR.len{ms P}:∀{a:List Int}{b:List Tr},OrdR ms P a b->a.length=b.length
 |[],[],_=>rfl
 |q::a,t::b,c=>by rw[OrdR]at c;simp[OrdR.len c.2]
 |[],_::_,c=>by simp[OrdR]at c
 |_::_,[],c=>by simp[OrdR]at c
theorem OrdR.keep{ms a P P'}(g:∀p∈P,a[p]?=ms[p]?)(f:∀p∈P,p∈P'):∀{b:List Int}{c:List Tr},OrdR ms P b c->OrdR a P' b c
 |[],[],_=>trivial
 |q::b,t::c,d=>by
  rw[OrdR]at d ⊢;obtain⟨⟨G,h,e⟩,i⟩:=d;exact⟨⟨G,h.keep (fun p j=>g p (e p j)),fun x hx=>f x (e x hx)⟩,OrdR.keep g f i⟩
 |[],_::_,d=>by simp[OrdR]at d
 |_::_,[],d=>by simp[OrdR]at d
theorem OrdR.cat{ms P a b}(f:OrdR ms P a b):∀{c:List Int}{d:List Tr},OrdR ms P c d->OrdR ms P (c++a) (d++b)
 |[],[],_=>f
 |q::c,t::d,e=>by
  rw[OrdR]at e;show OrdR ms P (q::(c++a)) (t::(d++b));rw[OrdR];exact⟨e.1,OrdR.cat f e.2⟩
 |[],_::_,e=>by simp[OrdR]at e
 |_::_,[],e=>by simp[OrdR]at e
theorem OrdR.get{ms P}:∀{d:List Int}{b:List Tr},OrdR ms P d b->∀i,i<b.length->∃G,SRep ms (b.getD i .nil) G [(strOfNums [],d.getD i 0)]/\∀x∈G,x∈P
 |[],[],_,i,a=>by simp at a
 |q::d,t::b,c,i,a=>by
  rw[OrdR]at c;cases i with
  |zero=>simpa using c.1
  |succ i=>simpa using OrdR.get c.2 i (by simpa using a)
 |[],_::_,c,i,a=>by simp[OrdR]at c
 |_::_,[],c,i,a=>by simp[OrdR]at c
theorem SRep.cnt:∀{t:Tr}{P:List Nat}{b:List Pl},SRep ns t P b->P.length=bH t
 | .leaf id es,P,b,a=>by
  rw[SRep]at a;obtain⟨p,rfl,_⟩:=a
  rfl
 | .node id ks,P,b,a=>by
  rw[SRep]at a;obtain⟨p,us,G,rfl,_,_,c⟩:=a;simp[bH,c.cnt]
 | .nil,P,b,a=>by rw[SRep]at a;rw[a.1];rfl
 | .cons s t ks,P,b,a=>by
  rw[SRep]at a;obtain⟨v,us,e,f,rfl,_,d,c⟩:=a;simp[bH,d.cnt,c.cnt]
end
section
theorem PSt.free{B0 g rest rt b nc ab nv w1 ns u}(d:PSt B0 g rest rt b nc ab nv w1 ns u)(i):u.frozen? ⟨b,i,none⟩=false:=by
 obtain⟨_,a,c⟩:=d.nodes.blk;exact frozen_of_row u b i a _ c
theorem pj{b:Type}{l:List b}{j}(d)(a:j<l.length):l.drop j=l.getD j d::l.drop (j+1):=by
 rw[x4 a];simp[List.getD,List.getElem?_eq_getElem a]
def pgE(K:NdK)(a:Tk):Int×Tk:=if K.page=0 then tk1 a else(K.page,a)
def exP(K:NdK)(p:Nat):List Int:=if K.page=0 then [(p:Int)]else []
structure PlS(B0 g:Nat)(rest:List Value)(rt:Int)(b nc ab:Nat)(nv:Nat->NdV)(w1:World)(ns:List NdK)(P:List Nat)(a':Tk)(ms:List NdK)(ol:List Int)(oa:Option Addr)(oc:Nat)(fa:Option Addr)(fc:Nat)(u:World):Prop where
 st:PSt B0 g rest rt b nc ab nv w1 ms u
 len:ms.length=ns.length
 out:∀q,q∉P->ms[q]?=ns[q]?
 tk:TkSt w1 u ab a' fa fc
 ord:Own1 3 w1.1.size u oa ol.length oc (on ol)
variable {B0 g:Nat} {rest:List Value} {rt:Int} {b nc ab:Nat} {nv:Nat->NdV} {w1:World}
def PlP(B0 g:Nat)(rest:List Value)(rt:Int)(b nc ab:Nat)(nv:Nat->NdV)(w1:World)(ns:List NdK)(t':Tr)(a':Tk)(ts:List Tr)(P:List Nat)(p:Int)(order:List Int)(e:Ending)(u':World):Prop:=
 ∃ms qs ol oa oc fa fc,e= .returned (.slice oa ol.length oc)/\ol=order++qs/\PlS B0 g rest rt b nc ab nv w1 ns P a' ms ol oa oc fa fc u'/\SRep ms t' P [(strOfNums [],p)]/\OrdR ms P qs ts
def PlC(B0 g:Nat)(rest:List Value)(rt:Int)(b nc ab:Nat)(nv:Nat->NdV)(w1:World)(t:Tr):Prop:= ∀(a:Tk)(ns ms:List NdK)(u:World)(Q P:List Nat)(p:Int)(order:List Int)(oa:Option Addr)(oc:Nat)(fa:Option Addr)(fc:Nat),PlS B0 g rest rt b nc ab nv w1 ns Q a ms order oa oc fa fc u->SRep ms t P [(strOfNums [],p)]->P.Nodup->order.length+bH t<=1048575->0<=a.2->a.2+bH t<=1048575->a.1.length<=1048575->ms.length<=1048575->
 Calls prog 133 #[.pointer (some ⟨g,0,none⟩),.int .i64 p,.pointer (some ⟨ab,0,none⟩),.slice oa order.length oc] u fun e u'=>PlP B0 g rest rt b nc ab nv w1 ms (plT t a).1 (plT t a).2.1 (plT t a).2.2 P p order e u'
def StP(B0 g:Nat)(rest:List Value)(rt:Int)(b nc ab:Nat)(nv:Nat->NdV)(w1:World)(ns:List NdK)(K:NdK)(p:Nat)(L:List Kd)(us:List Pl)(G:List Nat)(a:Tk)(order:List Int)(e:Ending)(u':World):Prop:=
 ∃ms qs ol oa oc fa fc,e= .returned (.slice oa ol.length oc)/\ol=order++(qs++exP K p)/\PlS B0 g rest rt b nc ab nv w1 ns (p::G) (pgE K (plL L a).2.1).2 ms ol oa oc fa fc u'/\SRep ms (kds (plL L a).1) G us/\ms[p]?=some (lx K (pgE K (plL L a).2.1).1)/\OrdR ms G qs (plL L a).2.2
theorem yC(a ns u p K)(cb:ns[p]?=some K)(L us G)(bC:SRep ns (kds L) G us)(an:K.kids=us.map (·.2))(ap:(p::G).Nodup)(c5:L.length<=1000)(b0:∀x∈L,PlC B0 g rest rt b nc ab nv w1 x.2)(c r s H I)(cP:PSt B0 g rest rt b nc ab nv w1 ns u)(cS:TkSt w1 u ab a H I)(cc:Own1 3 w1.1.size u r c.length s (on c))(c7:c.length+eG L<=1048574)(da:0<=a.2)(db:a.2+eG L<=1048574)(c6:a.1.length<=1048575)(cl:ns.length<=1048575):
 Calls prog 133 #[.pointer (some ⟨g,0,none⟩),.int .i64 (p:Nat),.pointer (some ⟨ab,0,none⟩),.slice r c.length s] u fun e c3=>StP B0 g rest rt b nc ab nv w1 ns K p L us G a c e c3:=by
 have c8:¬(p:Int)<0:=t7;have ba:p∉G:=(y1.1 ap).1;have a5:G.Nodup:=(y1.1 ap).2;have bf:=bC.len;have cj:K.kids.length=L.length:=by rw[an,x7,bf]
 have X:=t6 cP (u2 cS (u2 cc (u2 bC a5)));have bW:Hid _:=b0;have bX:Hid (K.kids=us.map (·.2)):=an;have cW:Hid _:=cb;clear cP cS cc bC b0 an ap a5 bf cb;go_enter func133,ntmps133;go_wp2_with fail;go_loopw [3,9] (fun o x wr=> ∃(j:Nat)(ms:List NdK)(w l:List Int)(r:Option Addr)(s:Nat)(H:Option Addr)(I:Nat)(n bs:List Nat)(V bS:List Pl),x= .int .i64 (j:Nat)/\o= .slice r l.length s/\l=c++w/\j<=L.length/\PlS B0 g rest rt b nc ab nv w1 ns G (plL (L.take j) a).2.1 ms l r s H I wr/\G=n++bs/\us=V++bS/\V.length=j/\SRep ms (kds (plL (L.take j) a).1) n V/\SRep ms (kds (L.drop j)) bs bS/\OrdR ms n w (plL (L.take j) a).2.2) (fun _ x _=>L.length-(intOf x).toNat)
 case atStart=>exact⟨0,ns,[],c,r,s,H,I,[],G,[],us,rfl,rfl,uB,u6 _,⟨X.out.1,rfl,fun _ _=>rfl,X.out.2.1,X.out.2.2.1⟩,rfl,rfl,rfl,gE.2 ⟨rfl,rfl⟩,X.out.2.2.2.1,trivial⟩
 case round=>
  obtain⟨j,ms,w,l,r,s,H,I,n,bs,V,bS,rfl,rfl,k,dc,h,ak,aT,z,hA,T,B⟩:=hrel;obtain⟨a1,cp⟩:=aa wr;subst cp;have y:ms[p]?=some K:=by rw[h.out p ba];exact cW.out
  have S:=h.st.ust;obtain⟨_,bA,f,am,cm⟩:=S.cells y;cases bA;have a2:a1.cell? ⟨g,0,none⟩=some (.slice (some ⟨b,0,none⟩) ms.length nc):=S.blk.cell 0;have bx:a1.cell? ⟨b,p*6+4,none⟩=some (.slice (nv p).da L.length (nv p).dc):=by rw[<-cj];exact f 4 _ rfl
  have ad:a1.cell? ⟨b,p*6,none⟩=some (.int .i64 K.page):=f 0 _ rfl;have ck:ms.length<=1048575:=by rw[h.len];exact cl
  have sz:=GN (L.take j) a;have bn:eG (L.take j)+eG (L.drop j)=eG L:=by rw[<-yy,z8]
  have bb:=B.len;have N:l.length=c.length+w.length:=by rw[k,u7]
  by_cases P:j<L.length
  ·have bE:(j:Int)< (L.length:Int):=t7;obtain⟨dd,dk,b9,bz⟩:=am.kids.get (i:=j) t7;rw[cF _ _ t7]at bz;rw[b9]at bx;rw[pj t0 P]at T;obtain⟨v,cT,D,br,rfl,rfl,cL,cM⟩:=er.1 T;have cn:K.kids.getD j 0=v:=by
    rw[bX.out,aT,zz,x3,wX (by simp[z])];simp[z]
   rw[cn]at bz;have aA:(n++(D++br)).Nodup:=by rw[<-ak];exact X.out.2.2.2.2
   have bF:=zd.1 aA;have bP:=zd.1 bF.2.1;have cg:eG (L.drop j)=bH (L.getD j t0).2+eG (L.drop (j+1)):=by rw[pj t0 P,rX]
   have bZ:=bW.out (L.getD j t0) (bO P) (plL (L.take j) a).2.1 ns ms a1 G D v l r s H I h cL bP.1 t7 t7 t7 t7 ck;have bd:=GM P a;have d:=t6 h (u2 hA (u2 B (u2 cM (u2 bF bP))));have Y:Hid _:=bd;have Z:=t6 aT (u2 z (u2 ak k));clear bd f am S y T hA B h b9 cn aA ak aT z k cL cM bF bP ad bb N sz bn cg;go_wp2_with fail;refine bZ.mono ?_;rintro e c4 ⟨A,a0,R,bk,bl,a3,a4,rfl,aB,m,bc,a6⟩;clear bZ a2 bx bz;have C:∀x,x∈n->A[x]?=ms[x]?:=fun x hx=>m.out x (fun ag=>d.out.2.2.2.2.1.2.2 x hx x (by simp[ag]) rfl);have Q:∀x,x∈br->A[x]?=ms[x]?:=fun x hx=>m.out x (fun ag=>d.out.2.2.2.2.2.2.2 x ag x hx rfl);have cA:=(d.out.2.1.keep C);have cB:=(d.out.2.2.2.1.keep Q);have cv:=OrdR.keep (P':=n++D) C (fun x hx=>by simp[hx]) d.out.2.2.1;have cz:=OrdR.keep (P':=n++D) (fun _ _=>rfl) (fun x hx=>by simp[hx]) a6;have rel:PlS B0 g rest rt b nc ab nv w1 ns G (plL (L.take (j+1)) a).2.1 A R bk bl a3 a4 c4:=by
    rw[Y.out];exact⟨m.st,m.len.trans d.out.1.len,fun q O=>(m.out q (fun ag=>O (by rw[Z.out.2.2.1];simp[ag]))).trans (d.out.1.out q O),m.tk,m.ord⟩
   have bm:SRep A (kds (plL (L.take (j+1)) a).1) (n++D) (V++[((L.getD j t0).1,v)]):=by
    rw[Y.out];exact SRep.cat (er.2 ⟨v,[],D,[],uB,rfl,bc,gE.2 ⟨rfl,rfl⟩⟩) cA
   have cD:OrdR A (n++D) (w++a0) (plL (L.take (j+1)) a).2.2:=by
    rw[Y.out];exact OrdR.cat cz cv
   have E:=t6 rel (u2 bm (u2 cB cD));have F:Hid (R=c++(w++a0)):=by show R= _;rw[aB,Z.out.2.2.2,vJ]
   clear m bc a6 C Q cA cB cv cz rel bm cD aB d;go_wp2_with fail;go_roundw
   case rel=>exact⟨j+1,A,w++a0,R,bk,bl,a3,a4,n++D,br,V++[((L.getD j t0).1,v)],cT,by go_num,rfl,F.out,t7,E.out.1,by rw[Z.out.2.2.1];simp,by rw[Z.out.1];simp,by simp[Z.out.2.1],E.out.2.1,E.out.2.2.1,E.out.2.2.2⟩
   case measure=>simp[intOf];omega
  ·have a8:j=L.length:=t7;have bE:¬(j:Int)< (L.length:Int):=t7;have ce:L.take j=L:=wC t7;have ca:L.drop j=[]:=zW t7;rw[ce]at h hA B sz;rw[ca]at T;obtain⟨rfl,rfl⟩:=gE.1 T;rw[wi]at ak aT;subst ak;subst aT;have aS:=B.len;clear T ce ca f am S bn bb;by_cases U:K.page=0
   ·rw[U]at ad;have b3:=yz h.tk (h.st.keepT uv uv) t7 t7 t7;have d:=t6 h (u2 hA (u2 B y));have M:Hid (K.page=0):=U;have F:Hid (l=c++w):=k;have cf:l.length<=1048576:=t7;generalize ch:(tk1 (plL L a).2.1).1=id at*;have bT:Hid _:=ch;clear h hA B y U k aS N a8 z;go_wp2_with fail;refine b3.mono ?_;rintro e J ⟨rfl,bR,ae,af,cR⟩;clear b3 a2 bx ad;have ac:=d.out.1.st.onlyA d.out.1.tk.blk bR;have b1:=d.out.1.ord.keep (aw bR d.out.1.tk.blk uv);have bv:=ac.ust;have a2:J.cell? ⟨g,0,none⟩=some (.slice (some ⟨b,0,none⟩) ms.length nc):=bv.blk.cell 0;have c1:=ac.free (p*6);obtain⟨_,bA,f,_,_⟩:=bv.cells d.out.2.2.2;cases bA;have ad:J.cell? ⟨b,p*6,none⟩=some (.int .i64 K.page):=f 0 _ rfl;obtain⟨_,c0,a7⟩:=ac.nodes.blk;have cs:=ax J b (p*6) (.int .i64 id);have kW:∀t,176≠t->KeepT t J (J.setCell ⟨b,p*6,none⟩ (.int .i64 id)):=fun t c2=>cx cs a7 c2;have bu:=ac.setPg d.out.2.2.2 id;have b5:TkSt w1 (J.setCell ⟨b,p*6,none⟩ (.int .i64 id)) ab (tk1 (plL L a).2.1).2 ae af:=cR.keep (kW _ uv);have b2:=b1.keep (kW _ uv);have cq:w1.1.size<=(J.setCell ⟨b,p*6,none⟩ (.int .i64 id)).1.size:=bu.fr.size;have W:=t6 bu (u2 b5 b2);clear f a7 cs kW bu b5 b2 ac b1 bv cR bR;go_upto_region 10 with fail
    generalize J.setCell ⟨b,p*6,none⟩ (.int .i64 id)=b6 at*;clear a2 ad c1;go_wp2_with (at_builtin;refine lN rfl _ _ co rfl w1.1.size r l.length s (on l) rfl W.out.2.2 (.int .i64 (p:Nat)) rfl rfl cf t7 cq ?_);intro b7 b8 cV cr cX bB;have aX:=bAl b6 (.cells #[.int .i64 (p:Nat)] 3);have b4:=(W.out.1.below aX).grown (W.out.2.2.below aX) bB;have bg:KeepT 208 b6 cV:=(aV aX).trans (bD (W.out.2.2.below aX) bB uv);have E:Hid (PlS B0 g rest rt b nc ab nv w1 ns (p::G) (tk1 (plL L a).2.1).2 (ms.set p (lx K id)) (l++[(p:Int)]) b7 b8 ae af cV):=⟨b4,by rw[A1];exact d.out.1.len,fun q O=>by
     rw[A4 (fun e=>O (by simp[e]))];exact d.out.1.out q (fun ag=>O (by simp[ag])),W.out.2.1.keep bg,by rw[u7,<-fv];exact cr⟩
    have a9:∀x∈G,(ms.set p (lx K id))[x]?=ms[x]?:=fun x hx=>A4 (fun e=>ba (by rw[e];exact hx));have bY:=t6 (d.out.2.1.keep a9) (OrdR.keep a9 (fun _ ag=>ag) d.out.2.2.1);clear b4 bg cr cX bB aX;go_wp2_with fail;go_ret;refine⟨ms.set p (lx K id),w,l++[(p:Int)],b7,b8,ae,af,uB,?_,?_,bY.out.1,?_,bY.out.2⟩
    ·rw[exP,BC M.out,F.out,vJ]
    ·rw[pgE,BC M.out];exact E.out
    ·rw[pgE,BC M.out,bT.out,List.getElem?_set_self cm]
   ·have d:=t6 h (u2 hA (u2 B y));have M:Hid (¬K.page=0):=U;have F:Hid (l=c++w):=k;have c9:(K.page==0)=false:=by rw[C8];exact U
    have E:Hid (PlS B0 g rest rt b nc ab nv w1 ns (p::G) (plL L a).2.1 ms l r s H I a1):=⟨h.st,h.len,fun q O=>h.out q (fun ag=>O (by simp[ag])),h.tk,h.ord⟩;clear h hA B y k aS N a8 z U;go_wp2_with fail;go_ret;refine⟨ms,w,l,r,s,H,I,rfl,?_,?_,d.out.2.1,?_,d.out.2.2.1⟩
    ·rw[exP,BX M.out,F.out,wi]
    ·rw[pgE,BX M.out];exact E.out
    ·rw[pgE,BX M.out];exact d.out.2.2.2
theorem GY:∀(n:Nat)(t:Tr),wf n t->PlC B0 g rest rt b nc ab nv w1 t:=by
 intro n;induction n with
 |zero=>
  intro t C a ns ms u ad P p k S T F H v y w R I i O Q;rcases aO C with⟨id,es,_,rfl⟩|⟨id,L,m,e,_⟩
  ·rw[SRep]at y;obtain⟨q,rfl,E,M⟩:=y;cases E;simp only[bH]at R i;have W:=yC a ms u q (ndL id es) M [] [] [] (gE.2 ⟨rfl,rfl⟩) rfl w uB (fun x hx=>by simp at hx) k S T F H v.st v.tk v.ord (by simp[eG,kds,dw,bH];omega) I (by simp[eG,kds,dw,bH];omega) O Q;refine W.mono ?_;rintro e w' ⟨h,D,A,r,s,l,o,i,c,d,J,f,B⟩;have Z:D=[]:=by have:=B.len;simpa [plL]using this
   subst Z;have N:(pgE (ndL id es) (plL [] a).2.1)=(if id=0 then tk1 a else(id,a)):=rfl;have K:exP (ndL id es) q=if id=0 then [(q:Int)]else []:=rfl;rw[N]at d f;rw[K]at c;by_cases j:id=0
   ·rw[BC j]at c d f;have e:plT (.leaf id es) a=(.leaf (tk1 a).1 es,(tk1 a).2,[.leaf (tk1 a).1 es]):=by rw[plT,BC j]
    rw[e];have z:SRep h (.leaf (tk1 a).1 es) [q] [(strOfNums [],(q:Int))]:=by rw[SRep];exact⟨q,rfl,rfl,f⟩
    exact⟨h,[(q:Int)],A,r,s,l,o,i,c,d,z,by rw[OrdR];exact⟨⟨[q],z,fun x hx=>hx⟩,trivial⟩⟩
   ·rw[BX j]at c d f;have e:plT (.leaf id es) a=(.leaf id es,a,[]):=by rw[plT,BX j]
    rw[e];exact⟨h,[],A,r,s,l,o,i,c,d,by rw[SRep];exact⟨q,rfl,rfl,f⟩,trivial⟩
  ·omega
 |succ n ih=>
  intro t C a ns ms u ad P p k S T F H v y w R I i O Q;rcases aO C with⟨id,es,e,_⟩|⟨id,L,m,e,rfl⟩
  ·omega
  ·obtain⟨w0,V,ae,ac⟩:=bq.1 C;have U:L.length<=1000:=by
    rw[dm]at ac;have:=gQ (sgs L);have:=gC L;omega
   rw[SRep]at y;obtain⟨q,us,G,rfl,E,M,X⟩:=y;cases E;have Y:bH (.node id (kds L))=eG L+1:=rfl;rw[Y]at R i;have W:=yC a ms u q (ndI id us) M L us G X rfl w U (fun x hx=>ih x.2 (V x hx)) k S T F H v.st v.tk v.ord t7 I t7 O Q;refine W.mono ?_;rintro e w' ⟨h,D,A,r,s,l,o,i,c,d,J,f,B⟩;have N:(pgE (ndI id us) (plL L a).2.1)=(if id=0 then tk1 (plL L a).2.1 else(id,(plL L a).2.1)):=rfl;have K:exP (ndI id us) q=if id=0 then [(q:Int)]else []:=rfl;rw[N]at d f;rw[K]at c;by_cases j:id=0
   ·rw[BC j]at c d f;have e:plT (.node id (kds L)) a=(.node (tk1 (plL L a).2.1).1 (kds (plL L a).1),(tk1 (plL L a).2.1).2,(plL L a).2.2++[.node (tk1 (plL L a).2.1).1 (kds (plL L a).1)]):=by rw[plT,BC j,lr]
    rw[e];have z:SRep h (.node (tk1 (plL L a).2.1).1 (kds (plL L a).1)) (q::G) [(strOfNums [],(q:Int))]:=by rw[SRep];exact⟨q,us,G,rfl,rfl,f,J⟩
    refine⟨h,D++[(q:Int)],A,r,s,l,o,i,c,d,z,OrdR.cat ?_ (OrdR.keep (fun _ _=>rfl) (fun x hx=>by simp[hx]) B)⟩;rw[OrdR];exact⟨⟨q::G,z,fun x hx=>hx⟩,trivial⟩
   ·rw[BX j]at c d f;have e:plT (.node id (kds L)) a=(.node id (kds (plL L a).1),(plL L a).2.1,(plL L a).2.2):=by rw[plT,BX j,lr]
    rw[e];rw[wi]at c;exact⟨h,D,A,r,s,l,o,i,c,d,by rw[SRep];exact⟨q,us,G,rfl,rfl,f,J⟩,OrdR.keep (fun _ _=>rfl) (fun x hx=>by simp[hx]) B⟩
theorem GZ(a n b w):Calls prog 133 #[.pointer (some ⟨g,0,none⟩),.int .i64 (-1),.pointer (some ⟨ab,0,none⟩),.slice a n b] w fun e w'=>e= .returned (.slice a n b)/\w'=w:=by
 go_enter func133,ntmps133;go_wp2_with fail;go_ret;exact⟨rfl,rfl⟩
end
