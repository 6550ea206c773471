import Derived.Test.YtglbanolhhjjiaaGreatDoorFo7
namespace Go.Proofs.YtglbanolhhjjiaaGreatDoor
open Go.Proofs.Tryz
open Go.RowKit
set_option linter.unusedVariables false
set_option maxRecDepth 100000
set_option maxHeartbeats 32000000
theorem Dr(o m r pc bn ac z br n ad K w)(a2:RRecs 0 w o K.n r zI bn z br K.S)(am:RRecs 1 w m K.m pc (aI K) ac n ad K.D)(cr:K.n<=1048576)(cq:K.m<=1048576)(bS:∀i,i<K.n->z i<=1048576)(bP:∀i,i<K.m->n i<=1048576):
 Calls prog 38 #[.agg #[.slice o K.n r,.slice m K.m pc]] w fun e w'=> ∃a1,e= .returned (av a1 K)/\Below w.1.size w w'/\ODisk w.1.size w' a1 K/\a1.sN=z/\a1.pN=n:=by
 have ca:Hid _:=bS;have b9:Hid _:=bP;clear bS bP;go_enter func38,ntmps38;go_wp2_with fail;have b1:Below w.1.size w (((((w.alloc (.cells #[.slice o K.n r,.slice m K.m pc] 35)).alloc (.cells #[.slice none 0 0,.slice none 0 0] 35)).alloc (.cells #[] 56)).alloc (.cells #[] 133)).alloc (.cells #[.slice (some ⟨w.1.size+1+1,0,none⟩) 0 0,.slice (some ⟨w.1.size+1+1+1,0,none⟩) 0 0] 35)):=(((((B2 w.1.size w).alloc vo _).alloc vo _).alloc (by simp;omega) _).alloc (by simp;omega) _).alloc (by simp;omega) _;have b4:(((((w.alloc (.cells #[.slice o K.n r,.slice m K.m pc] 35)).alloc (.cells #[.slice none 0 0,.slice none 0 0] 35)).alloc (.cells #[] 56)).alloc (.cells #[] 133)).alloc (.cells #[.slice (some ⟨w.1.size+1+1,0,none⟩) 0 0,.slice (some ⟨w.1.size+1+1+1,0,none⟩) 0 0] 35)).heap[w.1.size+1+1+1+1]?=some (.cells #[.slice (some ⟨w.1.size+1+1,0,none⟩) 0 0,.slice (some ⟨w.1.size+1+1+1,0,none⟩) 0 0] 35 (0,0)):=by
  have:=D6 ((((w.alloc (.cells #[.slice o K.n r,.slice m K.m pc] 35)).alloc (.cells #[.slice none 0 0,.slice none 0 0] 35)).alloc (.cells #[] 56)).alloc (.cells #[] 133)) (.cells #[.slice (some ⟨w.1.size+1+1,0,none⟩) 0 0,.slice (some ⟨w.1.size+1+1+1,0,none⟩) 0 0] 35);rwa [World.size_alloc,World.size_alloc,World.size_alloc,World.size_alloc]at this
 have a0:(((((w.alloc (.cells #[.slice o K.n r,.slice m K.m pc] 35)).alloc (.cells #[.slice none 0 0,.slice none 0 0] 35)).alloc (.cells #[] 56)).alloc (.cells #[] 133)).alloc (.cells #[.slice (some ⟨w.1.size+1+1,0,none⟩) 0 0,.slice (some ⟨w.1.size+1+1+1,0,none⟩) 0 0] 35)).cell? ⟨w.1.size,0,none⟩=some (.slice o K.n r):=by go_simp
 have M:(((((w.alloc (.cells #[.slice o K.n r,.slice m K.m pc] 35)).alloc (.cells #[.slice none 0 0,.slice none 0 0] 35)).alloc (.cells #[] 56)).alloc (.cells #[] 133)).alloc (.cells #[.slice (some ⟨w.1.size+1+1,0,none⟩) 0 0,.slice (some ⟨w.1.size+1+1+1,0,none⟩) 0 0] 35)).cell? ⟨w.1.size,1,none⟩=some (.slice m K.m pc):=by go_simp
 have b3:(((((w.alloc (.cells #[.slice o K.n r,.slice m K.m pc] 35)).alloc (.cells #[.slice none 0 0,.slice none 0 0] 35)).alloc (.cells #[] 56)).alloc (.cells #[] 133)).alloc (.cells #[.slice (some ⟨w.1.size+1+1,0,none⟩) 0 0,.slice (some ⟨w.1.size+1+1+1,0,none⟩) 0 0] 35)).heap[w.1.size+1]?=some (.cells #[.slice none 0 0,.slice none 0 0] 35 (0,0)):=by
  have N:=D6 (w.alloc (.cells #[.slice o K.n r,.slice m K.m pc] 35)) (.cells #[.slice none 0 0,.slice none 0 0] 35);rw[World.size_alloc]at N;rw[((((B2 (w.1.size+1+1) ((w.alloc (.cells #[.slice o K.n r,.slice m K.m pc] 35)).alloc (.cells #[.slice none 0 0,.slice none 0 0] 35))).alloc vo (.cells #[] 56)).alloc vo (.cells #[] 133)).alloc vo (.cells #[.slice (some ⟨w.1.size+1+1,0,none⟩) 0 0,.slice (some ⟨w.1.size+1+1+1,0,none⟩) 0 0] 35)).block _ (x3 _)];exact N
 have P:ORecs 0 56 (w.1.size+1+1) (((((w.alloc (.cells #[.slice o K.n r,.slice m K.m pc] 35)).alloc (.cells #[.slice none 0 0,.slice none 0 0] 35)).alloc (.cells #[] 56)).alloc (.cells #[] 133)).alloc (.cells #[.slice (some ⟨w.1.size+1+1,0,none⟩) 0 0,.slice (some ⟨w.1.size+1+1+1,0,none⟩) 0 0] 35)) (some ⟨w.1.size+1+1,0,none⟩) 0 0 zI (fun _=>none) z (fun _=>0) K.S:=by
  have N:=(io 0 56 (w.1.size+1+1) ((w.alloc (.cells #[.slice o K.n r,.slice m K.m pc] 35)).alloc (.cells #[.slice none 0 0,.slice none 0 0] 35)) vo zI (fun _=>none) z (fun _=>0) K.S).below (fK _ (.cells #[] 133) (.cells #[.slice (some ⟨w.1.size+1+1,0,none⟩) 0 0,.slice (some ⟨w.1.size+1+1+1,0,none⟩) 0 0] 35));rw[World.size_alloc,World.size_alloc]at N;exact N
 have t0:ORecs 1 133 (w.1.size+1+1) (((((w.alloc (.cells #[.slice o K.n r,.slice m K.m pc] 35)).alloc (.cells #[.slice none 0 0,.slice none 0 0] 35)).alloc (.cells #[] 56)).alloc (.cells #[] 133)).alloc (.cells #[.slice (some ⟨w.1.size+1+1,0,none⟩) 0 0,.slice (some ⟨w.1.size+1+1+1,0,none⟩) 0 0] 35)) (some ⟨w.1.size+1+1+1,0,none⟩) 0 0 (aI K) (fun _=>none) n (fun _=>0) K.D:=by
  have N:=(io 1 133 (w.1.size+1+1) (((w.alloc (.cells #[.slice o K.n r,.slice m K.m pc] 35)).alloc (.cells #[.slice none 0 0,.slice none 0 0] 35)).alloc (.cells #[] 56)) vo (aI K) (fun _=>none) n (fun _=>0) K.D).below (t7.alloc t6 (.cells #[.slice (some ⟨w.1.size+1+1,0,none⟩) 0 0,.slice (some ⟨w.1.size+1+1+1,0,none⟩) 0 0] 35));rw[World.size_alloc,World.size_alloc,World.size_alloc]at N;exact N
 generalize bW:(((((w.alloc (.cells #[.slice o K.n r,.slice m K.m pc] 35)).alloc (.cells #[.slice none 0 0,.slice none 0 0] 35)).alloc (.cells #[] 56)).alloc (.cells #[] 133)).alloc (.cells #[.slice (some ⟨w.1.size+1+1,0,none⟩) 0 0,.slice (some ⟨w.1.size+1+1+1,0,none⟩) 0 0] 35))=aX at*;clear bW;have bC:Hid _:=b1;have b8:Hid _:=a0;have bz:Hid _:=M;have cc:Hid _:=b3;clear a0 M b3 b1;go_loopw [4] (fun i wr=> ∃j a c bv bx,j<=K.n/\i= .int .i64 (j:Nat)/\Below (w.1.size+1+1) aX wr/\wr.heap[w.1.size+1+1+1+1]?=some (.cells #[.slice a j c,.slice (some ⟨w.1.size+1+1+1,0,none⟩) 0 0] 35 (0,0))/\ORecs 0 56 (w.1.size+1+1) wr a j c zI bv z bx K.S/\ORecs 1 133 (w.1.size+1+1) wr (some ⟨w.1.size+1+1+1,0,none⟩) 0 0 (aI K) (fun _=>none) n (fun _=>0) K.D) (fun i _=>K.n-(intOf i).toNat)
 case atStart=>exact⟨0,_,_,_,_,wa _,rfl,t7,b4,P,t0⟩
 case round=>
  clear b4 P t0;obtain⟨j,a,c,bv,bx,bg,rfl,y,hx,I,a3⟩:=hrel;have k0:wr.cell? ⟨w.1.size+1+1+1+1,0,none⟩=some (.slice a j c):=by rw[DC wr _ 0 _ _ _ hx];rfl
  have b6:w.1.size+1+1+1+1<wr.1.size:=(wy.1 hx).1;have bA:Hid (Below w.1.size w wr):=bC.out.trans (y.mono uA);have a0:wr.cell? ⟨w.1.size,0,none⟩=some (.slice o K.n r):=by rw[y.cell (p:=⟨w.1.size,0,none⟩) (by show w.1.size<_;omega)];exact b8.out
  by_cases D:j<K.n
  ·obtain⟨g,d,rfl,E,F⟩:=a2.at_ uA;have a4:wr.cell? ⟨g,d+j,none⟩=some (.slice (bn j) (z j) (br j)):=by rw[bA.out.cell (p:=⟨g,d+j,none⟩) E];have:=(F j D).2;simpa using this
   have P:=(a2.data j D).below bA.out;have bT:=ca.out j D;have bX:(0:Int)<=(j:Int):=uA;have bY:(j:Int)< (K.n:Int):=uA;have bd:Hid _:=hx;have bb:Hid _:=y;have Q:Hid _:=I;have cb:Hid _:=a3;have bE:Hid _:=P;clear hx y I a3 F a2 am P;go_wp2_with fail
   go_region_law (first
    |(refine jS (w0:=wr) rfl _ _ 22 rfl 0 56 (w.1.size+1+1) underlying22 qm uB a j c zI bv z bx K.S rfl Q.out ?_ (fun _=>0) ak (z j) ag (K.S j) ?_ bE.out.byte ?_ _ rfl ?_ ?_ ?_;exact f;exact O;omega;rfl;omega;intro t u s aA R an S;have C:=kl f Q.out.row bd.out uB S;have ap:s.cell? ⟨w.1.size+1+1+1+1,0,none⟩=some (.slice a j c):=(by rw[DC s _ 0 _ _ _ C];rfl);have bm:s.frozen? ⟨w.1.size+1+1+1+1,0,none⟩=false:=frozen_of_row s _ 0 _ _ C;have aB:=cb.out.keptT f Q.out.row uB uB S;clear an S)
    |(rw[B4 (show Region.wanted _ _=true from rfl)];go_wp2_with (go_at_call 78;refine(jV (bn j) (z j) (br j) (K.S j) _ (bE.out.below t7.drew) bT).mono ?_;rintro e U ⟨ak,ag,rfl,f,O⟩;simp only[EB]at f O;replace f:=l4 f;have b2:U.cell? ⟨w.1.size+1+1+1+1,0,none⟩=some (.slice a j c):=(by rw[f.cell (p:=⟨w.1.size+1+1+1+1,0,none⟩) b6];exact k0);have cg:(U.alloc (.cells #[.slice ak (z j) ag] 56)).cell? ⟨w.1.size+1+1+1+1,0,none⟩=some (.slice a j c):=(by rw[((B2 U.1.size U).alloc t6 _).cell (p:=⟨w.1.size+1+1+1+1,0,none⟩) (wQ b6 f.size)];exact b2))))
   all_goals
    have bf:Below (w.1.size+1+1) aX (s.setCell ⟨w.1.size+1+1+1+1,0,none⟩ (.slice t (j+1) u)):=
     ((bb.out.trans (f.mono uA)).trans (R.mono uA)).setCell (p:=⟨w.1.size+1+1+1+1,0,none⟩) (by show _<=w.1.size+1+1+1+1;omega) _
    have bu:(s.setCell ⟨w.1.size+1+1+1+1,0,none⟩ (.slice t (j+1) u)).heap[w.1.size+1+1+1+1]?=some (.cells #[.slice t (j+1) u,.slice (some ⟨w.1.size+1+1+1,0,none⟩) 0 0] 35 (0,0)):=heap_setCell_same s _ 0 _ _ _ C;have ae:=aA.setOther C uB uB 0 (.slice t (j+1) u);have bs:=aB.setOther C uB uB 0 (.slice t (j+1) u);rw[ig,ig]at ae;have ch:=ae.congr' (I':=zI) (L':=K.S) (fun i Z q ce=>absurd ce uA) (fun i Z=>rfl);clear ap bm C aA R k0 a4 b2 cg f O ae aB;go_wp2;go_roundw
    case rel=>exact⟨j+1,t,u,_,_,uA,by go_num,bf,bu,ch,bs⟩
    case measure=>simp[intOf];omega
  ·have e:j=K.n:=uA;subst e;have M:wr.cell? ⟨w.1.size,1,none⟩=some (.slice m K.m pc):=by rw[y.cell (p:=⟨w.1.size,1,none⟩) (by show w.1.size<_;omega)];exact bz.out
   obtain⟨aS,b0⟩:=aa wr;subst b0;have bB:Hid (ORecs 0 56 (w.1.size+1+1) aS a K.n c zI bv z bx K.S):=I;have a6:Hid _:=a3;have a5:Hid _:=y;have a9:=hx;clear I y hx a2 k0 a3;go_wp2_with fail;go_loopw [5] (fun i wr=> ∃j A B X Y,j<=K.m/\i= .int .i64 (j:Nat)/\Below (w.1.size+1+1) aX wr/\aS.1.size<=wr.1.size/\wr.heap[w.1.size+1+1+1+1]?=some (.cells #[.slice a K.n c,.slice A j B] 35 (0,0))/\ORecs 0 56 (w.1.size+1+1) wr a K.n c zI bv z bx K.S/\ORecs 1 133 (w.1.size+1+1) wr A j B (aI K) X n Y K.D/\∀i,i<j->∀k,(Value.slice (X i) (n i) (Y i)).ownBlock=some k->aS.1.size<=k) (fun i _=>K.m-(intOf i).toNat)
   case atStart=>exact⟨0,_,_,_,_,wa _,rfl,a5.out,t6,a9,bB.out,a6.out,fun i Z=>absurd Z uA⟩
   case round=>
    clear a9 a5 M a6 a0;obtain⟨j,A,B,X,Y,bg,rfl,y,cn,hx,I,W,G⟩:=hrel;have a4:wr.cell? ⟨w.1.size+1+1+1+1,1,none⟩=some (.slice A j B):=by rw[DC wr _ 1 _ _ _ hx];rfl
    have b7:w.1.size+1+1+1+1<wr.1.size:=(wy.1 hx).1;have af:Hid (Below w.1.size w wr):=bC.out.trans (y.mono uA);have M:wr.cell? ⟨w.1.size,1,none⟩=some (.slice m K.m pc):=by rw[y.cell (p:=⟨w.1.size,1,none⟩) (by show w.1.size<_;omega)];exact bz.out
    by_cases D:j<K.m
    ·obtain⟨g,d,rfl,E,F⟩:=am.at_ uA;have bk:wr.cell? ⟨g,d+j*2,none⟩=some (.int .i64 (K.At j)):=by rw[af.out.cell (p:=⟨g,d+j*2,none⟩) E];exact(F j D).1 0 uA
     have bl:wr.cell? ⟨g,d+j*2+1,none⟩=some (.slice (ac j) (n j) (ad j)):=by rw[af.out.cell (p:=⟨g,d+j*2+1,none⟩) E];exact(F j D).2
     have P:=(am.data j D).below af.out;have bR:=b9.out j D;have bX:(0:Int)<=(j:Int):=uA;have bY:(j:Int)< (K.m:Int):=uA;have b5:g<wr.1.size:=wQ E af.out.size;have ba:∀v:World,Below wr.1.size wr v->v.cell? ⟨w.1.size,1,none⟩=some (.slice (some ⟨g,d,none⟩) K.m pc)/\v.cell? ⟨g,d+j*2,none⟩=some (.int .i64 (K.At j))/\v.cell? ⟨g,d+j*2+1,none⟩=some (.slice (ac j) (n j) (ad j))/\v.cell? ⟨w.1.size+1+1+1+1,1,none⟩=some (.slice A j B):=fun v L=>by
      refine⟨?_,?_,?_,?_⟩
      ·rw[L.cell (p:=⟨w.1.size,1,none⟩) (by show w.1.size<_;omega)];exact M
      ·rw[L.cell (p:=⟨g,d+j*2,none⟩) b5];exact bk
      ·rw[L.cell (p:=⟨g,d+j*2+1,none⟩) b5];exact bl
      ·rw[L.cell (p:=⟨w.1.size+1+1+1+1,1,none⟩) b7];exact a4
     have a7:∀v:World,Below (w.1.size+1) wr v->v.cell? ⟨w.1.size,1,none⟩=some (.slice (some ⟨g,d,none⟩) K.m pc)/\v.cell? ⟨g,d+j*2,none⟩=some (.int .i64 (K.At j))/\v.cell? ⟨g,d+j*2+1,none⟩=some (.slice (ac j) (n j) (ad j)):=fun v L=>⟨by rw[L.cell (p:=⟨w.1.size,1,none⟩) (x3 _)];exact M,by rw[L.cell (p:=⟨g,d+j*2,none⟩) (by show g<_;omega)];exact bk,by rw[L.cell (p:=⟨g,d+j*2+1,none⟩) (by show g<_;omega)];exact bl⟩;have V:Hid _:=ba;have bb:Hid _:=y;have bd:Hid _:=hx;have Q:Hid _:=I;have J:Hid _:=W;have bF:Hid _:=P;have bc:Hid _:=G;clear F am P hx I W ba y G;go_wp2_with fail;refine az (fun v=>v.cell? ⟨w.1.size,1,none⟩=some (.slice (some ⟨g,d,none⟩) K.m pc)/\v.cell? ⟨g,d+j*2,none⟩=some (.int .i64 (K.At j))/\v.cell? ⟨g,d+j*2+1,none⟩=some (.slice (ac j) (n j) (ad j))/\v.cell? ⟨w.1.size+1+1+1+1,1,none⟩=some (.slice A j B)) (fun j=>j==19) vk ?_;have l:=V.out wr.drew t7.drew;refine cY 0 (v:= ?vv0) rfl vk vk vk vk (fun _ _ _ h=>h) (v7 ⟨by rfl,?hy0⟩) l ?rest0
     case hy0=>(intro w b;(try dsimp only at b);go_simp;try with_reducible rfl)
     refine cY 1 (v:= ?vv1) rfl vk vk vk vk (fun _ _ _ h=>h) (v7 ⟨by rfl,?hy1⟩) l ?rest1
     case hy1=>(intro w b;(try dsimp only at b);go_simp;try with_reducible rfl)
     refine cY 2 (v:= ?vv2) rfl vk vk vk vk (fun _ _ _ h=>h) (v7 ⟨by rfl,?hy2⟩) l ?rest2
     case hy2=>(intro w b;(try dsimp only at b);go_simp;try with_reducible rfl)
     refine cY 3 (v:= ?vv3) rfl vk vk vk vk (fun _ _ _ h=>h) (v7 ⟨by rfl,?hy3⟩) l ?rest3
     case hy3=>(intro w b;(try dsimp only at b);go_simp;try with_reducible rfl)
     refine cY 4 (v:= ?vv4) rfl vk vk vk vk (fun _ _ _ h=>h) (v7 ⟨by rfl,?hy4⟩) l ?rest4
     case hy4=>(intro w b;(try dsimp only at b);go_simp;try with_reducible rfl)
     refine cY 5 (v:= ?vv5) rfl vk vk vk vk (fun _ _ _ h=>h) (v7 ⟨by rfl,?hy5⟩) l ?rest5
     case hy5=>(intro w b;(try dsimp only at b);go_simp;try with_reducible rfl)
     refine cY 6 (v:= ?vv6) rfl vk vk vk vk (fun _ _ _ h=>h) (v7 ⟨by rfl,?hy6⟩) l ?rest6
     case hy6=>(intro w b;(try dsimp only at b);go_simp;try with_reducible rfl)
     refine cY 7 (v:= ?vv7) rfl vk vk vk vk (fun _ _ _ h=>h) (v7 ⟨by rfl,?hy7⟩) l ?rest7
     case hy7=>(intro w b;(try dsimp only at b);go_simp;try with_reducible rfl)
     refine cY 8 (v:= ?vv8) rfl vk vk vk vk (fun _ _ _ h=>h) (v7 ⟨by rfl,?hy8⟩) l ?rest8
     case hy8=>(intro w b;(try dsimp only at b);go_simp;try with_reducible rfl)
     refine cY 9 (v:= ?vv9) rfl vk vk vk vk (fun _ _ _ h=>h) (v7 ⟨by rfl,?hy9⟩) l ?rest9
     case hy9=>(intro w b;(try dsimp only at b);go_simp;try with_reducible rfl)
     refine cY 10 (v:= ?vv10) rfl vk vk vk vk (fun _ _ _ h=>h) (v7 ⟨by rfl,?hy10⟩) l ?rest10
     case hy10=>(intro w b;(try dsimp only at b);go_simp;try with_reducible rfl)
     refine cY 11 (v:= ?vv11) rfl vk vk vk vk (fun _ _ _ h=>h) (v7 ⟨by rfl,?hy11⟩) l ?rest11
     case hy11=>(intro w b;(try dsimp only at b);go_simp;try with_reducible rfl)
     refine cY 12 (v:= ?vv12) rfl vk vk vk vk (fun _ _ _ h=>h) (v7 ⟨by rfl,?hy12⟩) l ?rest12
     case hy12=>(intro w b;(try dsimp only at b);go_simp;try with_reducible rfl)
     refine cY 13 (v:= ?vv13) rfl vk vk vk vk (fun _ _ _ h=>h) (v7 ⟨by rfl,?hy13⟩) l ?rest13
     case hy13=>(intro w b;(try dsimp only at b);go_simp;try with_reducible rfl)
     refine on1 14 fun H x=> ?_;go_wp2_with fail;refine(jV (ac j) (n j) (ad j) (K.D j) _ (bF.out.below t7.drew) bR).mono ?_;rintro e U ⟨ak,ag,rfl,f,O⟩;simp only[EB]at f O;replace f:=l4 f;go_wp2_with fail;refine x.out _ _ (fun _=>V.out U f) ?_;clear x H;have a8:=V.out U f;refine cY 15 (v:= ?vv15) rfl vk vk vk vk (fun _ _ _ h=>h) (v7 ⟨by rfl,?hy15⟩) a8 ?rest15
     case hy15=>(intro w b;(try dsimp only at b);go_simp;try with_reducible rfl)
     refine cJ 16 vk rfl (fun H x=> ?_);go_simp;refine x.out _ _ (fun _=>V.out _ (f.alloc f.size _)) ?_;clear x H;refine cJ 17 vk rfl (fun H x=> ?_);refine jS (w0:=wr) rfl _ _ 33 rfl 1 133 (w.1.size+1+1) underlying33 qB uB A j B (aI K) X n Y K.D rfl J.out ?_ (aI K j) ak (n j) ag (K.D j) ?_ bF.out.byte ?_ _ rfl ?_ ?_ ?_
     ·exact f
     ·exact O
     ·omega
     ·rfl
     ·omega
     intro t u s aA R an S;have C:=kl f J.out.row bd.out uB S;have ap:s.cell? ⟨w.1.size+1+1+1+1,1,none⟩=some (.slice A j B):=by rw[DC s _ 1 _ _ _ C];rfl
     have bm:s.frozen? ⟨w.1.size+1+1+1+1,1,none⟩=false:=frozen_of_row s _ 1 _ _ C;have aB:=Q.out.keptT f J.out.row uB uB S;have T:=a7 s ((f.mono uA).trans (R.mono uA));clear an S;refine x.out _ _ (fun _=>⟨T.1,T.2.1,T.2.2,ap⟩) ?_;clear x H;refine cJ 18 vk rfl (fun H x=> ?_);go_simp;refine x.out _ _ (fun _=>⟨T.1,T.2.1,T.2.2,ap⟩) ?_;clear x H;refine cJ 19 vk rfl (fun H x=> ?_);go_simp;refine x.out _ _ (fun h=>by cases h) ?_;clear x H;refine j5 vk ?_ _;have bf:Below (w.1.size+1+1) aX (s.setCell ⟨w.1.size+1+1+1+1,1,none⟩ (.slice t (j+1) u)):=
      ((bb.out.trans (f.mono uA)).trans (R.mono uA)).setCell (p:=⟨w.1.size+1+1+1+1,1,none⟩) (by show _<=w.1.size+1+1+1+1;omega) _
     have cm:aS.1.size<=(s.setCell ⟨w.1.size+1+1+1+1,1,none⟩ (.slice t (j+1) u)).1.size:=by rw[World.size_setCell];have:=f.size;have:=R.size;omega
     have bu:(s.setCell ⟨w.1.size+1+1+1+1,1,none⟩ (.slice t (j+1) u)).heap[w.1.size+1+1+1+1]?=some (.cells #[.slice a K.n c,.slice t (j+1) u] 35 (0,0)):=heap_setCell_same s _ 1 _ _ _ C;have ae:=aA.setOther C uB uB 1 (.slice t (j+1) u);have bs:=aB.setOther C uB uB 1 (.slice t (j+1) u);rw[ig,ig,ig]at ae;have bZ:Hid (∀i,i<j+1->∀k,(Value.slice (upd X j ak i) (n i) (upd Y j ag i)).ownBlock=some k->aS.1.size<=k):=fun i Z k ab=>by
      by_cases e:i=j
      ·subst e;rw[be,be]at ab;have:=(fA O ab).1;omega
      ·rw[bw _ _ _ e,bw _ _ _ e]at ab;exact bc.out i uA k ab
     clear ap bm C aA R f O aB a4 bk bl M a7 l a8 T;go_wp2;go_roundw
     case rel=>exact⟨j+1,t,u,_,_,uA,by go_num,bf,cm,bu,bs,ae,bZ.out⟩
     case measure=>simp[intOf];omega
    ·have e:j=K.m:=uA;subst e;have aT:wr.heap[w.1.size+1]?=some (.cells #[.slice none 0 0,.slice none 0 0] 35 (0,0)):=by rw[y.block _ (x3 _)];exact cc.out
     have k0:wr.cell? ⟨w.1.size+1+1+1+1,0,none⟩=some (.slice a K.n c):=by rw[DC wr _ 0 _ _ _ hx];rfl
     have l0:wr.cell? ⟨w.1.size+1,0,none⟩=some (.slice none 0 0):=by rw[DC wr _ 0 _ _ _ aT];rfl
     have cf:wr.cell? ⟨w.1.size+1,1,none⟩=some (.slice none 0 0):=by rw[DC wr _ 1 _ _ _ aT];rfl
     have cp:wr.frozen? ⟨w.1.size+1,0,none⟩=false:=frozen_of_row wr _ 0 _ _ aT;have f1:wr.frozen? ⟨w.1.size+1,1,none⟩=false:=frozen_of_row wr _ 1 _ _ aT;have Q:Hid _:=I;have J:Hid _:=W;have bc:Hid _:=G;clear I W y hx aT am G;go_wp2;have cj:=(Q.out.setBelow (q:=⟨w.1.size+1,0,none⟩) (by show w.1.size+1<_;omega) (.slice a K.n c)).setBelow (q:=⟨w.1.size+1,1,none⟩) (by show w.1.size+1<_;omega) (.slice A K.m B);have ck:=(J.out.setBelow (q:=⟨w.1.size+1,0,none⟩) (by show w.1.size+1<_;omega) (.slice a K.n c)).setBelow (q:=⟨w.1.size+1,1,none⟩) (by show w.1.size+1<_;omega) (.slice A K.m B);have cl:=(af.out.setCell (p:=⟨w.1.size+1,0,none⟩) (x0 _) (.slice a K.n c)).setCell (p:=⟨w.1.size+1,1,none⟩) (x0 _) (.slice A K.m B);refine B3 (v:= .agg #[.slice a K.n c,.slice A K.m B]) (by simp[results,results38,go_sem,l0,cf]) rfl ⟨⟨a,c,bv,z,bx,A,B,X,n,Y⟩,rfl,cl,⟨cj.mono uA,ck.mono uA,fun i j Z bg k ab G=> ?_⟩,rfl,rfl⟩;have cs:=(fA (bB.out.data i Z) ab).2;have cv:=bc.out j bg k G;omega
theorem mq(d K w)(h:RDisk w d K)(b:Small d K):
 Calls prog 38 #[av d K] w fun e w'=> ∃a,e= .returned (av a K)/\Below w.1.size w w'/\ODisk w.1.size w' a K/\a.sN=d.sN/\a.pN=d.pN:=
 Dr d.sa d.pa d.sc d.pc d.sA d.pA d.sN d.sC d.pN d.pC K w h.safe h.pend b.n b.m b.sN b.pN
