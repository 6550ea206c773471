import Derived.Test.YtglbanolhhjjiaaGreatDoorFo29
namespace Go.Proofs.YtglbanolhhjjiaaGreatDoor
open Go.Proofs.Tryz
open Go.RowKit
set_option linter.unusedVariables false
set_option maxRecDepth 100000
set_option maxHeartbeats 32000000
section
variable {B0 g:Nat} {rest:List Value} {rt:Int}
def pd(B0 g:Nat)(rest:List Value)(rt:Int)(k:ByteArray)(n:Nat)(t:Tr):Prop:= ∀(w:World)(ns:List NdK)(nv:Nat->NdV)(na:Option Addr)(nc:Nat)(P:List Nat)(p:Int),USt B0 g rest rt w ns nv na nc->SRep ns t P [(strOfNums [],p)]->ns.length<=1048575->
 Calls prog 130 #[.pointer (some ⟨g,0,none⟩),.int .i64 p,.string k] w fun e w'=>e= .returned (.bool (eP k n t))/\Below w.1.size w w'
theorem F0(k w):Calls prog 130 #[.pointer (some ⟨g,0,none⟩),.int .i64 (-1),.string k] w fun e w'=>e= .returned (.bool false)/\w'=w:=by
 go_enter func130,ntmps130;go_wp2_with fail;go_ret;exact⟨rfl,rfl⟩
theorem F1(k id)(es:List En)(I:es.length<=1000):pd B0 g rest rt k 0 (.leaf id es):=by
 intro w ns nv na nc P O n C J;rw[SRep]at C;obtain⟨p,rfl,h,z⟩:=C;cases h;obtain⟨b,rfl,a,A,K⟩:=n.cells z;have v:w.cell? ⟨g,0,none⟩=some (.slice (some ⟨b,0,none⟩) ns.length nc):=n.blk.cell 0;have l:=bAl w (.cells (ndc (nv p) (ndL id es)).toArray 176);have D:=aq w 176 (ndc (nv p) (ndL id es)).toArray;have s:=A.below l;have E:(prog.info? 176).map (·.size)=some (ndc (nv p) (ndL id es)).length:=aD;have h:¬(p:Int)<0:=t7;have q:Hid (eP k 0 (.leaf id es)=(decide (plc k (es.map (·.1))<es.length)&&(((es.map (·.1)).getD (plc k (es.map (·.1))) (strOfNums [])).toList==k.toList))):=by show _= _;rw[eP,il,x7]
 generalize eP k 0 (.leaf id es)=d at*;have B:=qZ k (es.map (·.1));rw[x7]at B;go_enter func130,ntmps130;go_upto_region 4 with(first|(refine dG rfl 176 _ rfl b (p*6) rfl (ndc (nv p) (ndL id es)) _ a underlying176 rfl E ?_)|(refine bt rfl 176 _ _ rfl w (ndc aF nd0).toArray (ndc (nv p) (ndL id es)).toArray 176 rfl rfl aD rfl (cy _ _) ?_))
 change Code.wp _ _ _ _ (w.alloc (.cells (ndc (nv p) (ndL id es)).toArray 176));generalize w.alloc (.cells (ndc (nv p) (ndL id es)).toArray 176)=u at*;have f:Blk u 176 w.1.size (ndc (nv p) (ndL id es)):=D;have L:u.cell? ⟨w.1.size,1,none⟩=some (.bool true):=f.cell 1;have F:u.cell? ⟨w.1.size,2,none⟩=some (.slice (nv p).ka es.length (nv p).kc):=by have H:=f.cell 2;rw[show(ndc (nv p) (ndL id es))[2]?=some (.slice (nv p).ka (es.map (·.1)).length (nv p).kc)from rfl,x7]at H;exact H
 have m:R1 9 u (nv p).ka es.length (nv p).kc (os (es.map (·.1))):=by have:=s.keys;rwa [show(ndL id es).keys.length=es.length from x7 _]at this
 have r:=rg _ _ _ _ k u m uB t7;have o:Hid _:=l;clear D f v a A s n z E l;go_wp2_with fail;refine r.mono ?_;rintro e Q ⟨rfl,i⟩;obtain rfl:=i.symm;clear i r;generalize plc k (es.map (·.1))=t at*;by_cases c:t<es.length
 ·have j:(t:Int)< (es.length:Int):=t7;obtain⟨M,N,y,G⟩:=m.get c;rw[eh _ _ (by rw[x7];exact c)]at G;rw[y]at F;have hx:Hid (d=(((es.map (·.1)).getD t (strOfNums [])).toList==k.toList)):=by show d= _;rw[q.out,B2 c,yv]
  generalize (es.map (·.1)).getD t (strOfNums [])=x at*;clear y m;go_wp2_with fail;go_ret;exact⟨by rw[hx.out];rfl,o.out⟩
 ·have j:¬(t:Int)< (es.length:Int):=t7;have hx:Hid (d=false):=by show d= _;rw[q.out,B1 c,za]
  go_wp2_with fail;go_ret;exact⟨by rw[hx.out];rfl,o.out⟩
theorem F2(k n id L)(ae:L≠[])(a3:L.length<=1000)(V:∀x∈L,pd B0 g rest rt k n x.2):pd B0 g rest rt k (n+1) (.node id (kds L)):=by
 intro w ns nv na nc P bc o an am;rw[SRep]at an;obtain⟨p,us,G,rfl,A,a,l⟩:=an;cases A;have J:=jD (k:=k) ae;have I:=l.len;have B:=l.sgs;obtain⟨a9,aX,ba,Q,a4,ap,v,ag,t,ak⟩:=l.at J;have a1:Hid (eP k (n+1) (.node id (kds L))=eP k n (L.getD (kid k L) t0).2):=by show _= _;rw[eP,ct]
 have z:kid k L=iD k (us.tail.map (·.1)):=by rw[B];rfl
 have S:Hid _:=V _ (bO (d:=t0) J);have T:Hid _:=t;have y:(us.map (·.2)).getD (kid k L) 0=Q:=by
  have:=eF (·.2) us (kid k L) ((strOfNums [],0):Pl);rw[v]at this;exact this
 have h:kid k L<us.length:=t7;have a8:us.length<=1000:=t7;generalize kid k L=q at*;obtain⟨b,rfl,c,af,a6⟩:=o.cells a;have ac:w.cell? ⟨g,0,none⟩=some (.slice (some ⟨b,0,none⟩) ns.length nc):=o.blk.cell 0;have m:=bAl w (.cells (ndc (nv p) (ndI id us)).toArray 176);have aA:=aq w 176 (ndc (nv p) (ndI id us)).toArray;have W:=af.below m;have aT:(prog.info? 176).map (·.size)=some (ndc (nv p) (ndI id us)).length:=aD;have A:¬(p:Int)<0:=t7;have U:Hid _:=o;clear l a4 ag ak v t ap V ae B I a3 J;go_enter func130,ntmps130;go_upto_region 4 with(first|(refine dG rfl 176 _ rfl b (p*6) rfl (ndc (nv p) (ndI id us)) _ c underlying176 rfl aT ?_)|(refine bt rfl 176 _ _ rfl w (ndc aF nd0).toArray (ndc (nv p) (ndI id us)).toArray 176 rfl rfl aD rfl (cy _ _) ?_))
 change Code.wp _ _ _ _ (w.alloc (.cells (ndc (nv p) (ndI id us)).toArray 176));generalize w.alloc (.cells (ndc (nv p) (ndI id us)).toArray 176)=s at*;have i:Blk s 176 w.1.size (ndc (nv p) (ndI id us)):=aA;have a2:s.cell? ⟨w.1.size,1,none⟩=some (.bool false):=i.cell 1;go_upto_region 5 with fail
 have j:=bDr s;have F:=m.trans (j.mono m.size);have K:=i.below j;have O:=W.below j;have aB:R1 3 s.drew (nv p).da us.length (nv p).dc (on (us.map (·.2))):=by have:=O.kids;rwa [show(ndI id us).kids.length=us.length from x7 _]at this
 have aS:R1 9 s.drew (nv p).sa (us.tail.map (·.1)).length (nv p).sc (os (us.tail.map (·.1))):=O.signs;obtain⟨M,N,ad,H⟩:=aB.get h;rw[cF _ _ (by simpa using h),y]at H;have Z:s.drew.cell? ⟨w.1.size,4,none⟩=some (.slice (some ⟨M,N,none⟩) us.length (nv p).dc):=by rw[<-ad];have R:=K.cell 4;rw[show(ndc (nv p) (ndI id us))[4]?=some (.slice (nv p).da (us.map (·.2)).length (nv p).dc)from rfl,x7]at R;exact R
 have ab:s.drew.cell? ⟨w.1.size,5,none⟩=some (.slice (nv p).sa (us.tail.map (·.1)).length (nv p).sc):=K.cell 5;refine az (fun u=>u.cell? ⟨w.1.size,4,none⟩=some (.slice (some ⟨M,N,none⟩) us.length (nv p).dc)/\u.cell? ⟨w.1.size,5,none⟩=some (.slice (nv p).sa (us.tail.map (·.1)).length (nv p).sc)/\u.cell? ⟨M,N+q,none⟩=some (.int .i64 Q)) (fun k=>decide (10<=k)) uA ?_;clear j aA i W a2 m aT c af ac;generalize s.drew=a5 at*;have cs:=u2 Z (u2 ab H);have a7:(us.tail.map (·.1)).length<=1000:=by simp;omega
 have E:=rh _ _ _ _ k a5 aS rfl t7;rw[<-z]at E;clear z y;have D:=U.out.below F;have X:=S.out a5 ns nv _ nc aX Q D T.out am;have r:Hid _:=F;clear D F K O aB aS ad Z ab o a;generalize (us.tail.map (·.1)).length=sl at*;refine au 0 cs ?_;refine au 1 cs ?_;refine au 2 cs ?_;refine au 3 cs ?_;refine au 4 cs ?_;refine au 5 cs ?_;refine au 9 cs ?_;refine ah 6 fun f a=> ?_;go_wp2_with fail;refine E.mono ?_;rintro e bd ⟨rfl,C⟩;obtain rfl:=C.symm;clear C E;go_wp2_with fail;refine ao a ?_ (fun _=>cs);clear a f;refine au 7 cs ?_;refine au 8 cs ?_;refine ah 10 fun f a=> ?_;go_wp2_with fail;refine X.mono ?_;rintro e bb ⟨rfl,Y⟩;clear X;go_wp2_with fail;refine ao a ?_ (fun R=>absurd R uv);clear a f;have a0:Hid _:=r.out.trans (Y.mono r.out.size);clear Y cs H;refine ah 11 fun f a=> ?_;go_wp2_with fail;refine aU a ?_ (fun R=>absurd R uv);clear a f;go_wp2_with fail;go_ret;rw[a1.out];exact⟨rfl,a0.out⟩
theorem ye{k}:∀(n:Nat)(t:Tr),wf n t->pd B0 g rest rt k n t:=by
 intro n;induction n with
 |zero=>
  intro t a;rcases aO a with⟨id,es,_,rfl⟩|⟨id,L,m,e,_⟩
  ·exact F1 k id es (by have:=im es;have:=(dA.1 a).2.2;omega)
  ·omega
 |succ n ih=>
  intro t a;rcases aO a with⟨id,es,e,_⟩|⟨id,L,m,e,rfl⟩
  ·omega
  ·obtain⟨b,c,h,d⟩:=bq.1 a;refine F2 k n id L b ?_ (fun x hx=>ih _ (c x hx));have f:=gQ (sgs L);rw[gC]at f;rw[dm]at d;omega
end
