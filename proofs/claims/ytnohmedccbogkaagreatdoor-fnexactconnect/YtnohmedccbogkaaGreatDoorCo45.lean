import Derived.Test.YtnohmedccbogkaaGreatDoorCo43
import Derived.Test.YtnohmedccbogkaaGreatDoorCo44
namespace Go.Proofs.YtnohmedccbogkaaGreatDoor
open Go.Proofs.Tryz
open Go.RowKit
set_option linter.unusedVariables false
set_option maxRecDepth 100000
set_option maxHeartbeats 32000000
structure BlF(K:BlK):Prop where
 nt:K.nt<=12
 h:0<=K.h/\K.h<=1000000
 tx:∀i,i<K.nt->TxOkP (K.tx i)
theorem qu{K}:∀n,(∀i,i<n->TxOkP (K i)/\IsPts (K i).P (K i).ni)->∀j,j<spN K n->∃p,spR K n j=pc p/\p.1.length=32/\IsB p.1/\0<=p.2/\p.2<6
 |0,_,j,c=>by simp[spN]at c
 |n+1,h,j,c=>by
  unfold spR fR;rw[spN]at c;split
  ·exact qu n (fun i d=>h i kH) j (by assumption)
  ·have b:j-spN K n< (K n).ni:=kH;have a:=h n kH;exact⟨(K n).P (j-spN K n),rfl,a.2.len _ b,a.2.byte _ b,(a.1.pt _ b).1,(a.1.pt _ b).2⟩
theorem Bv{K n}(h:∀i,i<n->TxOkP (K i)/\IsPts (K i).P (K i).ni):IsRow 33 (spR K n) (spN K n):=
 ⟨fun j a=>by obtain⟨p,e,b,_⟩:=qu n h j a;rw[e];exact dS p b,fun j a=>by obtain⟨p,e,_⟩:=qu n h j a;rw[e];exact kf p⟩
theorem Bw{K n}(h:∀i,i<n->TxOkP (K i)/\IsPts (K i).P (K i).ni)(j)(b:j<spN K n):∃l,keyOf prog 52 (.agg (spR K n j).toArray)=some l:=by
 obtain⟨p,e,c,a,d,f⟩:=qu n h j b;rw[e];exact FU c a kH kH
theorem Mq{w a n c h}(H:RHs w a n c h):RRow w 32 a n c (fun i=>ob (h i)):=
 ⟨⟨fun i d=>by rw[au];exact H.ok.len i d,fun i d=>ev _⟩,H.le,H.le',H.nil,fun k=>by
  obtain⟨b,off,e,j,g⟩:=H.at_ k;exact⟨b,off,e,j,fun i q d f=>by rw[g i q d f];exact(de? _ q (by rw[H.ok.len i d];exact f)).symm⟩⟩
theorem Mr{K}(d:0<K.nt)(h:∀i,i<K.nt->shT K i):shB K=(dfB (spR K.tx K.nt) (spN K.tx K.nt)&&dfB (fun i=>ob (av K.tx i)) K.nt):=by
 unfold dfB;by_cases a:gu (spR K.tx K.nt) (spN K.tx K.nt)
 ·by_cases b:gu (fun i=>ob (av K.tx i)) K.nt
  ·rw[qb a,qb b,Bk ⟨d,h,b,a⟩];rfl
  ·rw[qb a,q4 b,jt (fun c=>b c.2.2.1)];rfl
 ·rw[q4 a,jt (fun c=>a c.2.2.2)];rfl
theorem Ms{bt root B B0 gw g v K X Z a7 sn a8 a9 w ab}(h:JnW bt root B B0 gw g v K X Z a7 sn a8 a9 w ab)(bc:BlF K):
 Calls prog 128 #[.pointer (some ⟨g,0,none⟩)] ab fun e u'=>e= .returned (.bool (shB K))/\Below ab.1.size ab u':=by
 have L:=h.ci_;rcases o6 K.nt with h0|h0
 ·have A:Hid (shB K=false):=jt (fun r=>by have:=r.1;omega);rw[h0]at L;clear h0 h;go_enter func128,ntmps128;go_wp2_with fail;go_ret;rw[A.out];exact⟨rfl,kF⟩
 have b1:((K.nt:Int)==0)=false:=by simp;omega
 have ag:=h.ct;obtain⟨b5,b9,ai,_⟩:=h.tx h0;rw[ai]at ag;have bh:Hid _:=h;have af:Hid _:=fun x(hx:JnW bt root B B0 gw g v K X Z a7 sn a8 a9 w x)(j:Nat)(a2:j<K.nt)=>hx.tx a2;have ae:Hid (∀i,i<K.nt->TxOkP (K.tx i)/\IsPts (K.tx i).P (K.tx i).ni):=fun i Q=>⟨bc.tx i Q,(h.ins Q).pts⟩;have ad:Hid _:=ml (K:=K.tx) K.nt (fun i Q=>⟨(bc.tx i Q).ni,(bc.tx i Q).no⟩);have bu:Hid _:=h0;have b2:=bc.nt;rw[ai]at af;clear h h0 bc;go_enter func128,ntmps128;go_wp2_with fail;go_loopw [3,18] (fun s i wr=> ∃(j:Nat)(a:Option Addr)(c:Nat),s= .slice a (spN K.tx j) c/\i= .int .i64 (j:Nat)/\j<=K.nt/\(∀q,q<j->shT K q)/\ORow 52 33 ab.1.size wr a (spN K.tx j) c (spR K.tx j)/\Below ab.1.size ab wr) (fun _ i _=>K.nt-(intOf i).toNat)
 case atStart=>exact⟨0,none,0,rfl,rfl,kX _,fun q bp=>by omega,eU _ _ _ _ _,kF⟩
 case round=>
  obtain⟨j,a,c,rfl,rfl,a2,C,aS,H⟩:=hrel;obtain⟨o,rfl⟩:∃x,x=wr:=⟨_,rfl⟩;clear ag L;by_cases M:j<K.nt
  ·have bN:(j:Int)< (K.nt:Int):=kH;have E:=bh.out.below H;obtain⟨b4,b8,bl,bw,bx,bz⟩:=af.out o E j M;cases bl;have V:=bAl o (.cells (txc (v.tv j) (K.tx j)).toArray 121);have a4:Blk (o.alloc (.cells (txc (v.tv j) (K.tx j)).toArray 121)) 121 o.1.size (txc (v.tv j) (K.tx j)):=ao o _ _;have d0:(o.alloc (.cells (txc (v.tv j) (K.tx j)).toArray 121)).cell? ⟨o.1.size,0,none⟩=some (.slice (v.tv j).ia (K.tx j).ni (v.tv j).ic):=a4.cell 0;have aX:(o.alloc (.cells (txc (v.tv j) (K.tx j)).toArray 121)).cell? ⟨o.1.size,2,none⟩=some (.int .i64 (K.tx j).h):=a4.cell 2;have bj:=(E.below V).ch;have R:Hid _:=H.trans (V.mono H.size);have T:=kG (ORow.below aS V) ((E.below V).ins M).ins;have ah:spN K.tx j+(K.tx j).ni<=1048576:=by have bF:=p8 K.tx (show j+1<=K.nt by omega);have b6:=ad.out;rw[spN]at bF;omega
   have J:Hid (¬shT K j->shB K=false):=fun r=>jt (fun bP=>r (bP.2.1 j M));have ac:Hid (shT K j->∀q,q<j+1->shT K q):=fun r q bp=>by rcases og (oH bp)with h|rfl;exact C q h;exact r
   have O:Hid (spN K.tx (j+1)=spN K.tx j+(K.tx j).ni/\spR K.tx (j+1)=fR (spR K.tx j) (spN K.tx j) (dH (K.tx j).P)):=⟨rfl,rfl⟩;have z:Hid (shT K j↔((j=0↔(K.tx j).ni=0)/\(K.tx j).h=if j=0 then K.h else 0)):=Iff.rfl;clear aS H E a4 V C;go_upto_region 7 with(refine aL rfl 121 _ _ rfl o txz.toArray (txc (v.tv j) (K.tx j)).toArray 121 rfl rfl lR rfl (by simp[txc,Value.oneCell']) ?_)
   change Code.wp _ _ _ _ (o.alloc (.cells (txc (v.tv j) (K.tx j)).toArray 121));generalize o.alloc (.cells (txc (v.tv j) (K.tx j)).toArray 121)=ar at*;generalize o.1.size=n at*;clear bw bx bz;generalize spN K.tx j=ak at*;generalize spR K.tx j=am at*;generalize v.tv j=d at*;generalize (K.tx j).ni=a5 at*;generalize (K.tx j).P=bq at*;generalize (K.tx j).no=b7 at*;generalize (K.tx j).h=t at*;obtain⟨W,b⟩:∃b3,b3=ar.drew:=⟨_,rfl⟩;have Y:Below ar.1.size ar W:=by rw[b];exact⟨rfl,rfl,rfl,kE,fun _ _=>rfl⟩
   have f:=kG (ORow.below T.out.1 Y) (kR (RRow.below T.out.2 Y) (R.out.trans (Y.mono R.out.size)));have cs:W.cell? ⟨n,0,none⟩=some (.slice d.ia a5 d.ic)/\W.cell? ⟨n,2,none⟩=some (.int .i64 t)/\W.cell? ⟨g,65,none⟩=some (.int .i64 K.h):=by rw[b];exact⟨d0,aX,bj⟩
   have N:=f.out.2.2.size;have y:Hid _:=cs;clear Y d0 aX bj T R;cases j with
   |zero=>
    have D:Hid ((if(0:Nat)=0 then K.h else 0)=K.h):=qb rfl;cases a5 with
    |zero=>
     by_cases p:t=K.h
     ·have a0:(t !=K.h)=false:=by simp[p]
      have an:Hid _:=ac.out (z.out.2 ⟨⟨fun _=>rfl,fun _=>rfl⟩,by rw[D.out];exact p⟩);clear p;refine ay (fun x=>x.cell? ⟨n,0,none⟩=some (.slice d.ia 0 d.ic)/\x.cell? ⟨n,2,none⟩=some (.int .i64 t)/\x.cell? ⟨g,65,none⟩=some (.int .i64 K.h)) (fun k=>decide (17<=k)) kO ?_;rw[<-b];clear b;refine aa 0 cs ?_;refine aa 1 cs ?_;refine aa 2 cs ?_;refine aa 3 cs ?_;refine aa 4 cs ?_;refine aa 5 cs ?_;refine aa 6 cs ?_;refine aa 7 cs ?_;refine aa 8 cs ?_;refine aa 9 cs ?_;refine aa 10 cs ?_;refine aa 11 cs ?_;refine aa 12 cs ?_;refine aa 13 cs ?_;refine aa 14 cs ?_;refine aa 15 cs ?_;refine aa 16 cs ?_;refine aj 17 fun u l=> ?_;go_wp2_with fail;refine cU l ?_;clear l u cs;obtain⟨F,G,_⟩:=y.out;go_upto_region 11 with fail
      obtain⟨U,I,bk⟩:=f.out;go_wp2_with (refine oI rfl _ _ kh rfl ab.1.size a ak c am rfl U d.ia 0 d.ic (dH bq) rfl I ah kH N ?_;rintro aw aO bs a6 a1);have P:=f.out.2.2.trans (kF.grown a1 N (fun k a3=>(qX f.out.1 k a3).1));go_roundw
      case rel=>exact⟨0+1,aw,aO,by rw[O.out.1];try rfl,by go_num,kH,an.out,by rw[O.out.1,O.out.2];exact a6,P⟩
      case measure=>simp[intOf];omega
     ·have a0:(t !=K.h)=true:=by simp[p]
      have A:Hid _:=J.out (fun r=>p ((z.out.1 r).2.trans D.out));clear p;refine ay (fun x=>x.cell? ⟨n,0,none⟩=some (.slice d.ia 0 d.ic)/\x.cell? ⟨n,2,none⟩=some (.int .i64 t)/\x.cell? ⟨g,65,none⟩=some (.int .i64 K.h)) (fun k=>decide (17<=k)) kO ?_;rw[<-b];clear b;refine aa 0 cs ?_;refine aa 1 cs ?_;refine aa 2 cs ?_;refine aa 3 cs ?_;refine aa 4 cs ?_;refine aa 5 cs ?_;refine aa 6 cs ?_;refine aa 7 cs ?_;refine aa 8 cs ?_;refine aa 9 cs ?_;refine aa 10 cs ?_;refine aa 11 cs ?_;refine aa 12 cs ?_;refine aa 13 cs ?_;refine aa 14 cs ?_;refine aa 15 cs ?_;refine aa 16 cs ?_;refine aj 17 fun u l=> ?_;go_wp2_with fail;refine cU l ?_;clear l u cs;obtain⟨F,G,_⟩:=y.out;go_wp2_with fail;go_ret;rw[A.out];exact⟨rfl,f.out.2.2⟩
    |succ m=>
     have A:Hid _:=J.out (fun r=>by have:=(z.out.1 r).1.1 rfl;omega);refine ay (fun x=>x.cell? ⟨n,0,none⟩=some (.slice d.ia (m+1) d.ic)/\x.cell? ⟨n,2,none⟩=some (.int .i64 t)/\x.cell? ⟨g,65,none⟩=some (.int .i64 K.h)) (fun k=>decide (17<=k)) kO ?_;rw[<-b];clear b;refine aa 0 cs ?_;refine aa 1 cs ?_;refine aa 2 cs ?_;refine aa 3 cs ?_;refine aa 4 cs ?_;refine aa 5 cs ?_;refine aa 6 cs ?_;refine aa 7 cs ?_;refine aq 8 cs ?_;refine aq 9 cs ?_;refine aq 10 cs ?_;refine aq 11 cs ?_;refine aq 12 cs ?_;refine aq 13 cs ?_;refine aq 14 cs ?_;refine aq 15 cs ?_;refine aa 16 cs ?_;refine aj 17 fun u l=> ?_;go_wp2_with fail;refine cU l ?_;clear l u cs;obtain⟨F,G,_⟩:=y.out;go_wp2_with fail;go_ret;rw[A.out];exact⟨rfl,f.out.2.2⟩
   |succ bv=>
    have bS:((bv:Int)+1==0)=false:=by simp;omega
    have D:Hid ((if bv+1=0 then K.h else 0)=0):=q4 kH;cases a5 with
    |zero=>
     have A:Hid _:=J.out (fun r=>by have:=(z.out.1 r).1.2 rfl;omega);refine ay (fun x=>x.cell? ⟨n,0,none⟩=some (.slice d.ia 0 d.ic)/\x.cell? ⟨n,2,none⟩=some (.int .i64 t)/\x.cell? ⟨g,65,none⟩=some (.int .i64 K.h)) (fun k=>decide (17<=k)) kO ?_;rw[<-b];clear b;refine aa 0 cs ?_;refine aa 1 cs ?_;refine aa 2 cs ?_;refine aq 3 cs ?_;refine aq 4 cs ?_;refine aq 5 cs ?_;refine aq 6 cs ?_;refine aq 7 cs ?_;refine aq 8 cs ?_;refine aq 9 cs ?_;refine aq 10 cs ?_;refine aq 11 cs ?_;refine aq 12 cs ?_;refine aq 13 cs ?_;refine aq 14 cs ?_;refine aq 15 cs ?_;refine aq 16 cs ?_;refine aj 17 fun u l=> ?_;go_wp2_with fail;refine cU l ?_;clear l u cs;obtain⟨F,G,_⟩:=y.out;go_wp2_with fail;go_ret;rw[A.out];exact⟨rfl,f.out.2.2⟩
    |succ m=>
     have bY:((m:Int)+1==0)=false:=by simp;omega
     by_cases p:t=0
     ·have a0:(t !=0)=false:=by simp[p]
      have an:Hid _:=ac.out (z.out.2 ⟨⟨fun h=>by omega,fun h=>by omega⟩,by rw[D.out];exact p⟩);clear p;refine ay (fun x=>x.cell? ⟨n,0,none⟩=some (.slice d.ia (m+1) d.ic)/\x.cell? ⟨n,2,none⟩=some (.int .i64 t)/\x.cell? ⟨g,65,none⟩=some (.int .i64 K.h)) (fun k=>decide (17<=k)) kO ?_;rw[<-b];clear b;refine aa 0 cs ?_;refine aa 1 cs ?_;refine aa 2 cs ?_;refine aq 3 cs ?_;refine aq 4 cs ?_;refine aq 5 cs ?_;refine aq 6 cs ?_;refine aq 7 cs ?_;refine aq 8 cs ?_;refine aq 9 cs ?_;refine aq 10 cs ?_;refine aq 11 cs ?_;refine aq 12 cs ?_;refine aq 13 cs ?_;refine aq 14 cs ?_;refine aq 15 cs ?_;refine aq 16 cs ?_;refine aj 17 fun u l=> ?_;go_wp2_with fail;refine cU l ?_;clear l u cs;obtain⟨F,G,_⟩:=y.out;go_upto_region 11 with fail
      obtain⟨U,I,bk⟩:=f.out;go_wp2_with (refine oI rfl _ _ kh rfl ab.1.size a ak c am rfl U d.ia (m+1) d.ic (dH bq) rfl I ah kH N ?_;rintro aw aO bs a6 a1);have P:=f.out.2.2.trans (kF.grown a1 N (fun k a3=>(qX f.out.1 k a3).1));go_roundw
      case rel=>exact⟨bv+1+1,aw,aO,by rw[O.out.1];try rfl,by go_num,kH,an.out,by rw[O.out.1,O.out.2];exact a6,P⟩
      case measure=>simp[intOf];omega
     ·have a0:(t !=0)=true:=by simp[p]
      have A:Hid _:=J.out (fun r=>p ((z.out.1 r).2.trans D.out));clear p;refine ay (fun x=>x.cell? ⟨n,0,none⟩=some (.slice d.ia (m+1) d.ic)/\x.cell? ⟨n,2,none⟩=some (.int .i64 t)/\x.cell? ⟨g,65,none⟩=some (.int .i64 K.h)) (fun k=>decide (17<=k)) kO ?_;rw[<-b];clear b;refine aa 0 cs ?_;refine aa 1 cs ?_;refine aa 2 cs ?_;refine aq 3 cs ?_;refine aq 4 cs ?_;refine aq 5 cs ?_;refine aq 6 cs ?_;refine aq 7 cs ?_;refine aq 8 cs ?_;refine aq 9 cs ?_;refine aq 10 cs ?_;refine aq 11 cs ?_;refine aq 12 cs ?_;refine aq 13 cs ?_;refine aq 14 cs ?_;refine aq 15 cs ?_;refine aq 16 cs ?_;refine aj 17 fun u l=> ?_;go_wp2_with fail;refine cU l ?_;clear l u cs;obtain⟨F,G,_⟩:=y.out;go_wp2_with fail;go_ret;rw[A.out];exact⟨rfl,f.out.2.2⟩
  ·have bn:j=K.nt:=kH;subst bn;have b0:¬(K.nt:Int)< (K.nt:Int):=kH;have E:=bh.out.below H;have L:=E.ci_;have bb:=Mp a (spN K.tx K.nt) c (spR K.tx K.nt) o (ORow.reads aS (Bv ae.out)) (Bw ae.out) (by have:=ad.out;omega);have bg:Hid _:=Mr bu.out C;have bd:Hid _:=fun x(hx:JnW bt root B B0 gw g v K X Z a7 sn a8 a9 w x)=>Mo X K.nt Z (fun i=>ob (av K.tx i)) x (Mq (hx.ids.reads (ll K.tx K.nt))) (fun i Q=>FT (fW _) (kQ _)) kH;have bi:Hid _:=E;have be:Hid _:=H;clear C aS H E M a2;generalize dfB (spR K.tx K.nt) (spN K.tx K.nt)=bE at*;generalize dfB (fun i=>ob (av K.tx i)) K.nt=aX at*;go_wp2_with fail;refine bb.mono ?_;rintro e bR ⟨rfl,aH⟩;have ap:=bi.out.below aH;have bH:=ap.ci_;have ba:=bd.out bR ap;have S:Hid _:=be.out.trans (aH.mono be.out.size);clear bb aH ap L;cases bE with
   |false=>
    go_wp2_with fail;go_ret;rw[bg.out];exact⟨rfl,S.out⟩
   |true=>
    go_wp2_with fail;refine ba.mono ?_;rintro e bs ⟨rfl,P⟩;have bf:Hid _:=S.out.trans (P.mono S.out.size);clear ba P;go_wp2_with fail;go_ret;rw[bg.out];exact⟨rfl,bf.out⟩
