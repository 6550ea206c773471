import Derived.Test.YtglbanolhhjjiaaGreatDoorFo29
namespace Go.Proofs.YtglbanolhhjjiaaGreatDoor
open Go.Proofs.Tryz
open Go.RowKit
set_option linter.unusedVariables false
set_option maxRecDepth 100000
set_option maxHeartbeats 32000000
section
variable {B0 g:Nat} {rest:List Value} {rt:Int}
def pd(B0 g:Nat)(rest:List Value)(rt:Int)(k:ByteArray)(n:Nat)(t:Tr):Prop:= ∀(w:World)(ns:List NdK)(nv:Nat->NdV)(na:Option Addr)(nc:Nat)(P:List Nat)(p:Int),USt B0 g rest rt w ns nv na nc->SRep ns t P [(strOfNums [],p)]->ns.length<=1048575->
 Calls prog 130 #[.pointer (some ⟨g,0,none⟩),.int .i64 p,.string k] w fun e w'=>e= .returned (.bool (eP k n t))/\Below w.1.size w w'
theorem F0(k w):Calls prog 130 #[.pointer (some ⟨g,0,none⟩),.int .i64 (-1),.string k] w fun e w'=>e= .returned (.bool false)/\w'=w:=by
 go_enter func130,ntmps130;go_wp2_with fail;go_ret;exact⟨rfl,rfl⟩
theorem F1(k id)(es:List En)(I:es.length<=1000):pd B0 g rest rt k 0 (.leaf id es):=by
 intro w ns nv na nc P O o D J;rw[SRep]at D;obtain⟨p,rfl,i,A⟩:=D;cases i;obtain⟨b,rfl,a,B,K⟩:=o.cells A;have y:w.cell? ⟨g,0,none⟩=some (.slice (some ⟨b,0,none⟩) ns.length nc):=o.blk.cell 0;have m:=bAl w (.cells (ndc (nv p) (ndL id es)).toArray 176);have E:=aq w 176 (ndc (nv p) (ndL id es)).toArray;have t:=B.below m;have F:(prog.info? 176).map (·.size)=some (ndc (nv p) (ndL id es)).length:=aD;have i:¬(p:Int)<0:=uA;have r:Hid (eP k 0 (.leaf id es)=(decide (plc k (es.map (·.1))<es.length)&&(((es.map (·.1)).getD (plc k (es.map (·.1))) (strOfNums [])).toList==k.toList))):=by show _= _;rw[eP,il,y2]
 generalize eP k 0 (.leaf id es)=d at*;have C:=qZ k (es.map (·.1));rw[y2]at C;go_enter func130,ntmps130;go_upto_region 4 with(first|(refine dG rfl 176 _ rfl b (p*6) rfl (ndc (nv p) (ndL id es)) _ a underlying176 rfl F ?_)|(refine bt rfl 176 _ _ rfl w (ndc aF nd0).toArray (ndc (nv p) (ndL id es)).toArray 176 rfl rfl aD rfl (cy _ _) ?_))
 change Code.wp _ _ _ _ (w.alloc (.cells (ndc (nv p) (ndL id es)).toArray 176));generalize w.alloc (.cells (ndc (nv p) (ndL id es)).toArray 176)=v at*;have f:Blk v 176 w.1.size (ndc (nv p) (ndL id es)):=E;have L:v.cell? ⟨w.1.size,1,none⟩=some (.bool true):=f.cell 1;have G:v.cell? ⟨w.1.size,2,none⟩=some (.slice (nv p).ka es.length (nv p).kc):=by have h:=f.cell 2;rw[show(ndc (nv p) (ndL id es))[2]?=some (.slice (nv p).ka (es.map (·.1)).length (nv p).kc)from rfl,y2]at h;exact h
 have n:R1 9 v (nv p).ka es.length (nv p).kc (os (es.map (·.1))):=by have:=t.keys;rwa [show(ndL id es).keys.length=es.length from y2 _]at this
 have s:=rg _ _ _ _ k v n vo uA;have q:Hid _:=m;clear E f y a B t o A F m;go_wp2_with fail;refine s.mono ?_;rintro e Q ⟨rfl,j⟩;obtain rfl:=j.symm;clear j s;generalize plc k (es.map (·.1))=u at*;by_cases c:u<es.length
 ·have l:(u:Int)< (es.length:Int):=uA;obtain⟨M,N,z,H⟩:=n.get c;rw[eh _ _ (by rw[y2];exact c)]at H;rw[z]at G;have hx:Hid (d=(((es.map (·.1)).getD u (strOfNums [])).toList==k.toList)):=by show d= _;rw[r.out,CR c,zd]
  generalize (es.map (·.1)).getD u (strOfNums [])=x at*;clear z n;go_wp2_with fail;go_ret;exact⟨by rw[hx.out];rfl,q.out⟩
 ·have l:¬(u:Int)< (es.length:Int):=uA;have hx:Hid (d=false):=by show d= _;rw[r.out,CP c,z6]
  go_wp2_with fail;go_ret;exact⟨by rw[hx.out];rfl,q.out⟩
theorem F2(k n id L)(ae:L≠[])(a3:L.length<=1000)(V:∀x∈L,pd B0 g rest rt k n x.2):pd B0 g rest rt k (n+1) (.node id (kds L)):=by
 intro w ns nv na nc P bc r an am;rw[SRep]at an;obtain⟨p,us,G,rfl,B,a,m⟩:=an;cases B;have K:=jD (k:=k) ae;have J:=m.len;have C:=m.sgs;obtain⟨a9,aX,ba,R,a4,ap,y,ag,v,ak⟩:=m.at K;have a1:Hid (eP k (n+1) (.node id (kds L))=eP k n (L.getD (kid k L) t0).2):=by show _= _;rw[eP,ct]
 have A:kid k L=iD k (us.tail.map (·.1)):=by rw[C];rfl
 have S:Hid _:=V _ (bO (d:=t0) K);have T:Hid _:=v;have z:(us.map (·.2)).getD (kid k L) 0=R:=by
  have:=eF (·.2) us (kid k L) ((strOfNums [],0):Pl);rw[y]at this;exact this
 have i:kid k L<us.length:=uA;have a8:us.length<=1000:=uA;generalize kid k L=q at*;obtain⟨b,rfl,c,af,a6⟩:=r.cells a;have ac:w.cell? ⟨g,0,none⟩=some (.slice (some ⟨b,0,none⟩) ns.length nc):=r.blk.cell 0;have o:=bAl w (.cells (ndc (nv p) (ndI id us)).toArray 176);have aA:=aq w 176 (ndc (nv p) (ndI id us)).toArray;have W:=af.below o;have aT:(prog.info? 176).map (·.size)=some (ndc (nv p) (ndI id us)).length:=aD;have B:¬(p:Int)<0:=uA;have U:Hid _:=r;clear m a4 ag ak y v ap V ae C J a3 K;go_enter func130,ntmps130;go_upto_region 4 with(first|(refine dG rfl 176 _ rfl b (p*6) rfl (ndc (nv p) (ndI id us)) _ c underlying176 rfl aT ?_)|(refine bt rfl 176 _ _ rfl w (ndc aF nd0).toArray (ndc (nv p) (ndI id us)).toArray 176 rfl rfl aD rfl (cy _ _) ?_))
 change Code.wp _ _ _ _ (w.alloc (.cells (ndc (nv p) (ndI id us)).toArray 176));generalize w.alloc (.cells (ndc (nv p) (ndI id us)).toArray 176)=t at*;have j:Blk t 176 w.1.size (ndc (nv p) (ndI id us)):=aA;have a2:t.cell? ⟨w.1.size,1,none⟩=some (.bool false):=j.cell 1;go_upto_region 5 with fail
 have l:=bDr t;have H:=o.trans (l.mono o.size);have M:=j.below l;have Q:=W.below l;have aB:R1 3 t.drew (nv p).da us.length (nv p).dc (on (us.map (·.2))):=by have:=Q.kids;rwa [show(ndI id us).kids.length=us.length from y2 _]at this
 have aS:R1 9 t.drew (nv p).sa (us.tail.map (·.1)).length (nv p).sc (os (us.tail.map (·.1))):=Q.signs;obtain⟨N,O,ad,I⟩:=aB.get i;rw[cF _ _ (by simpa using i),z]at I;have Z:t.drew.cell? ⟨w.1.size,4,none⟩=some (.slice (some ⟨N,O,none⟩) us.length (nv p).dc):=by rw[<-ad];have h:=M.cell 4;rw[show(ndc (nv p) (ndI id us))[4]?=some (.slice (nv p).da (us.map (·.2)).length (nv p).dc)from rfl,y2]at h;exact h
 have ab:t.drew.cell? ⟨w.1.size,5,none⟩=some (.slice (nv p).sa (us.tail.map (·.1)).length (nv p).sc):=M.cell 5;refine az (fun u=>u.cell? ⟨w.1.size,4,none⟩=some (.slice (some ⟨N,O,none⟩) us.length (nv p).dc)/\u.cell? ⟨w.1.size,5,none⟩=some (.slice (nv p).sa (us.tail.map (·.1)).length (nv p).sc)/\u.cell? ⟨N,O+q,none⟩=some (.int .i64 R)) (fun k=>decide (10<=k)) vk ?_;clear l aA j W a2 o aT c af ac;generalize t.drew=a5 at*;have cs:=vJ Z (vJ ab I);have a7:(us.tail.map (·.1)).length<=1000:=by simp;omega
 have F:=rh _ _ _ _ k a5 aS rfl uA;rw[<-A]at F;clear A z;have E:=U.out.below H;have X:=S.out a5 ns nv _ nc aX R E T.out am;have s:Hid _:=H;clear E H M Q aB aS ad Z ab r a;generalize (us.tail.map (·.1)).length=sl at*;refine au 0 cs ?_;refine au 1 cs ?_;refine au 2 cs ?_;refine au 3 cs ?_;refine au 4 cs ?_;refine au 5 cs ?_;refine au 9 cs ?_;refine ah 6 fun f a=> ?_;go_wp2_with fail;refine F.mono ?_;rintro e bd ⟨rfl,D⟩;obtain rfl:=D.symm;clear D F;go_wp2_with fail;refine ao a ?_ (fun _=>cs);clear a f;refine au 7 cs ?_;refine au 8 cs ?_;refine ah 10 fun f a=> ?_;go_wp2_with fail;refine X.mono ?_;rintro e bb ⟨rfl,Y⟩;clear X;go_wp2_with fail;refine ao a ?_ (fun h=>absurd h uB);clear a f;have a0:Hid _:=s.out.trans (Y.mono s.out.size);clear Y cs I;refine ah 11 fun f a=> ?_;go_wp2_with fail;refine aU a ?_ (fun h=>absurd h uB);clear a f;go_wp2_with fail;go_ret;rw[a1.out];exact⟨rfl,a0.out⟩
theorem ye{k}:∀(n:Nat)(t:Tr),wf n t->pd B0 g rest rt k n t:=by
 intro n;induction n with
 |zero=>
  intro t a;rcases aO a with⟨id,es,_,rfl⟩|⟨id,L,m,e,_⟩
  ·exact F1 k id es (by have:=im es;have:=(dA.1 a).2.2;omega)
  ·omega
 |succ n ih=>
  intro t a;rcases aO a with⟨id,es,e,_⟩|⟨id,L,m,e,rfl⟩
  ·omega
  ·obtain⟨b,c,i,d⟩:=bq.1 a;refine F2 k n id L b ?_ (fun x hx=>ih _ (c x hx));have f:=gQ (sgs L);rw[gC]at f;rw[dm]at d;omega
end
