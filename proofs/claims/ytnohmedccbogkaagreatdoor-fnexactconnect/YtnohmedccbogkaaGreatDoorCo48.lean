import Derived.Test.YtnohmedccbogkaaGreatDoorCo46
namespace Go.Proofs.YtnohmedccbogkaaGreatDoor
open Go.Proofs.Tryz
open Go.RowKit
set_option linter.unusedVariables false
set_option maxRecDepth 100000
set_option maxHeartbeats 32000000
noncomputable def kxC(K:DK)(gen root used free:Int)(l:List Int):Int:=if whB K gen root used free=true then(if bI l=true then ruC (enL K root) (aG l)else 1)else 11
noncomputable def kxX(K:DK)(gen root used free:Int)(l:List Int):List Ch:=if kxC K gen root used free l=0 then cxL (enL K root) (aG l).h.toNat (aG l).tx (aG l).nt++cxE (aG l) (aG l).h.toNat else []
section
variable {K:DK} {gen root used free:Int} {l:List Int}
theorem BD(h:whB K gen root used free=false):kxC K gen root used free l=11/\kxX K gen root used free l=[]:=by
 have e:kxC K gen root used free l=11:=by unfold kxC;rw[h];rfl
 exact⟨e,by unfold kxX;rw[e];rfl⟩
theorem BE(h:whB K gen root used free=true)(a:bI l=false):kxC K gen root used free l=1/\kxX K gen root used free l=[]:=by
 have e:kxC K gen root used free l=1:=by unfold kxC;rw[qb h,a];rfl
 exact⟨e,by unfold kxX;rw[e];rfl⟩
theorem BF(h:whB K gen root used free=true)(a:bI l=true)(hr:ruC (enL K root) (aG l)≠0):kxC K gen root used free l=ruC (enL K root) (aG l)/\kxX K gen root used free l=[]:=by
 have e:kxC K gen root used free l=ruC (enL K root) (aG l):=by unfold kxC;rw[qb h,qb a]
 exact⟨e,by unfold kxX;rw[e,q4 hr]⟩
theorem BG(h:whB K gen root used free=true)(a:bI l=true)(hr:ruC (enL K root) (aG l)=0):kxC K gen root used free l=0/\kxX K gen root used free l=cxL (enL K root) (aG l).h.toNat (aG l).tx (aG l).nt++cxE (aG l) (aG l).h.toNat:=by
 have e:kxC K gen root used free l=0:=by unfold kxC;rw[qb h,qb a,hr]
 exact⟨e,by unfold kxX;rw[qb e]⟩
theorem uj(a:bI l=true):BlF (aG l):=by
 have e:=m6 a;unfold bI at a;simp only[ly]at a;rw[e];obtain⟨b,c,d⟩:=yg a.2;exact⟨b,c,fun i f=>jJ (d i f)⟩
theorem BH{es K}(h:ruC es K=0):∀i,i<K.nt->∀k,k< (K.tx i).ni->cnB es ((K.tx i).P k)=true:=by
 have b:shP K:=by
  by_cases g:shB K=true
  ·exact ug g
  ·exfalso;unfold ruC at h;split at h
   ·cases h
   ·split at h
    ·cases h
    ·rw[qb (by simpa using g)]at h;cases h
 have f:fcC es K K.nt=0:=by
  unfold ruC at h;split at h
  ·cases h
  ·split at h
   ·cases h
   ·split at h
    ·cases h
    ·split at h
     ·exact h
     ·rename_i l;simpa using l
 intro i q k o;have a:1<=i:=by
  rcases o6 i with h0|h0
  ·subst h0;have:=(b.2.1 0 b.1).1.1 rfl;omega
  ·exact h0
 have j:=fun n a p=>by
  by_cases e:fcC es K n=0
  ·exact e
  ·have:=ud a e K.nt p;rw[f]at this;exact this.symm
 have c:=(uc a (j i a kH)).1;rw[j (i+1) kH kH]at c;have d:eS es (K.tx i).P (K.tx i).ni=true:=by
  cases m:eS es (K.tx i).P (K.tx i).ni with
  |true=>rfl
  |false=>rw[(ua m).1]at c;cases c
 unfold eS at d;exact oW.1 d k (m3.2 o)
end
theorem ML(ar aw d K j root f b a n c l w)(h:RDisk w d K)(aO:Errs w ar aw)(T:Tabs w)(a0:Bs w a n c l):
 Calls prog 34 #[.agg (stV d K j root f b).toArray,.slice a n c] w (DcP (kxX K j root f b l) (kxC K j root f b l) w):=by
 obtain⟨G,y⟩:∃be,be=w.alloc (.cells (stV d K j root f b).toArray 40):=⟨_,rfl⟩;have O:Below w.1.size w G:=by rw[y];exact bAl _ _
 have ad:Blk G 40 w.1.size (stV d K j root f b):=by rw[y];exact ao w _ _
 have bc:(prog.info? 40).map (·.size)=some (stV d K j root f b).toArray.size:=mP;have Y:=Lm ar aw d K j root f b G (h.below O) (aO.below O);have r:=kG h (kR O (kR T a0));clear O h aO T a0;go_enter func34,ntmps34;go_upto_region 1 with fail
 change Code.wp _ _ _ _ (w.alloc (.cells (stV d K j root f b).toArray 40));rw[<-y];clear y;go_wp2_with (refine qi rfl 40 _ rfl w.1.size rfl 40 (stV d K j root f b).toArray (0,0) _ ad underlying40 rfl bc ?_);refine Y.mono ?_;rintro e a4 ⟨M,⟨V,rfl⟩|⟨J,gw,rfl,S⟩⟩
 ·have C:Hid _:=r.out.2.1.trans (M.mono r.out.2.1.size);have o:Hid _:=BD (l:=l) V;clear Y M ad V;go_wp2_with fail
  go_ret2
  rw[o.out.1,o.out.2];exact⟨none,0,rfl,eU _ _ _ _ _,C.out⟩
 ·obtain⟨B0,aX⟩:=S.top;have v:Hid _:=r.out.2.1.trans (M.mono r.out.2.1.size);have ah:=Jm a n c l a4 (r.out.2.2.2.below v.out);have q:=kG aX J;have a5:Hid (w.1.size<=G.1.size):=r.out.2.1.size;clear Y M ad S aX J;go_wp2_with fail;refine ah.mono ?_;rintro e t ⟨N,k,rfl,ac⟩;unfold cK;have ak:Hid _:=ac;have W:=ac.ok;have P:=bAl t (.cells (blc k (aG l)).toArray 113);have L:Blk (t.alloc (.cells (blc k (aG l)).toArray 113)) 113 t.1.size (blc k (aG l)):=ao t _ _;have X:(prog.info? 113).map (·.size)=some (blc k (aG l)).toArray.size:=by rw[k8,eO k W];exact fG
  have a3:(blc iy jK).toArray.size=(blc k (aG l)).toArray.size:=by rw[k8,k8,eO k W];rfl
  have x:Hid _:=(v.out.trans (N.mono v.out.size)).trans (P.mono (k2 v.out.size N.size));have p:=kG ((q.out.1.below N).below P) (kR (ak.out.below P) L);have ai:Hid (B0<=a4.1.size):=q.out.1.le.2;clear ah N ac P L;go_upto_region 5 with(refine aL rfl 113 _ _ rfl t (blc iy jK).toArray (blc k (aG l)).toArray 113 rfl rfl X a3 (lS _ _) ?_)
  change Code.wp _ _ _ _ (t.alloc (.cells (blc k (aG l)).toArray 113));generalize t.alloc (.cells (blc k (aG l)).toArray 113)=a6 at*;generalize t.1.size=a9 at*;cases s:bI l with
  |false=>
   have o:Hid _:=BE q.out.2 s;clear s;go_wp2_with fail
   go_ret2
   rw[o.out.1,o.out.2];exact⟨none,0,rfl,eU _ _ _ _ _,x.out⟩
  |true=>
   have z:Hid _:=uj s;have Q:Hid _:=s;have L:=p.out.2.2;have ab:=Mf gw k (aG l) a6 (r.out.2.2.1.below x.out) p.out.2.1.reads (fun i a2=>⟨by have:=(z.out.tx i a2).ni;omega,by have:=(z.out.tx i a2).no;omega⟩) (by have:=z.out.nt;omega);unfold cK at ab;clear s;go_wp2_with (refine qi rfl 113 _ rfl a9 rfl 113 (blc k (aG l)).toArray (0,0) _ L q7 rfl X ?_);refine ab.mono ?_;rintro e bd ⟨g,a8,bb,rfl,a1,A⟩;have am:JnW K root G.1.size B0 gw g k (aG l) a8 bb none 0 0 (fun _=>[]) w bd:=⟨A.blk,A.ids.mono p.out.1.le.2,(p.out.2.1.mono ai.out).below A.bel,eU _ _ _ _ _,p.out.1.below A.bel,x.out.trans (A.bel.mono x.out.size),k2 p.out.1.le.2 a1,a5.out⟩;have ag:=Mt r.out.1 q.out.2 am z.out r.out.2.2.1;have E:Hid _:=fun hr=>BF (l:=l) q.out.2 Q.out hr;have D:Hid _:=fun hr=>BG (l:=l) q.out.2 Q.out hr;have F:Hid _:=fun hr=>BH (es:=enL K root) (K:=aG l) hr;clear ab A am L a1 p q;generalize ruC (enL K root) (aG l)=ae at*;go_wp2_with fail;refine ag.mono ?_;rintro e bh ⟨rfl,ap,I⟩;clear ag;by_cases m:ae=0
   ·obtain⟨bf,bg,Z⟩:=I m;have aH:(ae !=0)=false:=by simp[m]
    have o:Hid _:=D.out m;obtain⟨B,H⟩:∃B:Nat,(aG l).h=(B:Int):=⟨(aG l).h.toNat,by have:=z.out.h.1;omega⟩;have af:=MF (enL K root) Z z.out r.out.2.2.1 B H (F.out m);have U:(aG l).h.toNat=B:=by rw[H];simp
    rw[U]at o;have u:Hid _:=Z.bel;clear I Z m E D F H U;go_wp2_with fail;refine af.mono ?_;rintro e bi ⟨a7,ba,rfl,an⟩;have R:Hid _:=an;clear af an;generalize cxL (enL K root) B (aG l).tx (aG l).nt++cxE (aG l) B=xs at*;go_wp2_with fail
    go_ret2
    rw[o.out.1,o.out.2];exact⟨a7,ba,rfl,ORow.mono R.out.och u.out.size,u.out.trans (R.out.bel.mono u.out.size)⟩
   ·have aH:(ae !=0)=true:=by simp[m]
    have o:Hid _:=E.out m;have C:Hid _:=ap;clear I m E D F ap;go_wp2_with fail
    go_ret2
    rw[o.out.1,o.out.2];exact⟨none,0,rfl,eU _ _ _ _ _,C.out⟩
