import Derived.Test.YtglbanolhhjjiaaGreatDoorFo44
import Derived.Test.YtglbanolhhjjiaaGreatDoorFo8
namespace Go.Proofs.YtglbanolhhjjiaaGreatDoor
open Go.Proofs.Tryz
open Go.RowKit
set_option linter.unusedVariables false
set_option maxRecDepth 100000
set_option maxHeartbeats 32000000
def SuB(G R U F:Int):Prop:=(-1<=G/\G<=1000000000001)/\(-1<=R/\R<=2000)/\(0<=U/\U<=2000)/\(0<=F/\F<=2000)
structure SuSt(w:World)(g ob:Nat)(a:Option Addr)(n c p:Nat)(G R U F:Int)(wx:World):Prop where
 only:OnlyB g w wx
 box:wx.heap[g]?=some (.cells #[.slice a n c,.int .i64 (p:Nat)] 149 (0,0))
 at_:p<=n
 res:wx.heap[w.1.size]?=some (.cells #[.int .i64 0,.int .i64 0,.int .i64 0,.int .i64 0] 36 (0,0))
 su:wx.heap[ob]?=some (.cells #[.int .i64 G,.int .i64 R,.int .i64 U,.int .i64 F] 36 (0,0))
 gt:w.1.size<ob
 bd:SuB G R U F
theorem OnlyB.thenB2{g B a b c}(h:OnlyB g a b)(d:Below B b c)(f:a.1.size<=B):OnlyB g a c:=
 ⟨d.os.trans h.os,d.tape.trans h.tape,d.output.trans h.output,wg h.size d.size,fun k e i=>(d.block k (wQ e f)).trans (h.block k e i)⟩
theorem SuSt.set{w g ob a n c p G R U j b}(h:SuSt w g ob a n c p G R U j b)(k:g<w.1.size)(i v){G' R' U' F'}(f:(#[.int .i64 G,.int .i64 R,.int .i64 U,.int .i64 j]:Array Value).setIfInBounds i v=#[.int .i64 G',.int .i64 R',.int .i64 U',.int .i64 F'])(e:SuB G' R' U' F'):SuSt w g ob a n c p G' R' U' F' (b.setCell ⟨ob,i,none⟩ v):=by
 have d:=h.gt;have q:=(B2 ob b).setCell (p:=⟨ob,i,none⟩) t6 v;refine⟨h.only.thenB2 q uA,(Below.heap_setCell b ⟨ob,i,none⟩ v g (by show g≠ob;omega)).trans h.box,h.at_,(Below.heap_setCell b ⟨ob,i,none⟩ v w.1.size (by show w.1.size≠ob;omega)).trans h.res,?_,d,e⟩;have:=heap_setCell_same b ob i _ _ v h.su;rw[f]at this;exact this
theorem SuSt.lt{w g ob a n c p G R U d b}(h:SuSt w g ob a n c p G R U d b):ob<b.1.size:=(wy.1 h.su).1
theorem SuSt.below{w g ob a n c p G R U j d e}(h:SuSt w g ob a n c p G R U j d)(k:g<w.1.size)(b:Below d.1.size d e):SuSt w g ob a n c p G R U j e:=by
 have i:=h.lt;have f:=h.gt;exact⟨h.only.thenB2 b h.only.size,(b.block g uA).trans h.box,h.at_,(b.block _ uA).trans h.res,(b.block _ i).trans h.su,f,h.bd⟩
theorem SuSt.rd{w g ob a n c p e l G R U f b}(h:SuSt w g ob a n c p G R U f b)(d:IsRd w g a n c l e):IsRd b g a n c l p:=d.only h.only h.box h.at_
theorem SuSt.next{w g ob a n c p f l G R U m i d}(h:SuSt w g ob a n c p G R U m i)(o:g<w.1.size)(b:OnlyB g i d)(e:IsRd d g a n c l f):SuSt w g ob a n c f G R U m d:=by
 have k:=h.lt;have j:=h.gt;exact⟨h.only.trans b,e.box,e.at_,(b.block _ uA uA).trans h.res,(b.block _ k uA).trans h.su,j,h.bd⟩
theorem Ib{w b g a n c p l G U}(k:g<w.1.size)(d:OnlyB g w b)(e:IsRd b g a n c l p)(f:b.heap[w.1.size]?=some (.cells #[.int .i64 0,.int .i64 0,.int .i64 0,.int .i64 0] 36 (0,0)))(j:SuB G 0 U 0):SuSt w g b.1.size a n c p G 0 U 0 (b.alloc (.cells #[.int .i64 G,.int .i64 0,.int .i64 U,.int .i64 0] 36)):=by
 have q:=bAl b (.cells #[.int .i64 G,.int .i64 0,.int .i64 U,.int .i64 0] 36);have m:=d.size;have i:=(wy.1 f).1;exact⟨d.thenB2 q uA,(q.block g uA).trans e.box,e.at_,(q.block _ i).trans f,D6 b _,i,j⟩
theorem Ic{w b g ob a n c p f l G R U d}(h:IsRd w g a n c l f)(e:g<w.1.size)(S:SuSt w g ob a n c p G R U d b):
 OnlyB g w ((((b.setCell ⟨w.1.size,0,none⟩ (.int .i64 G)).setCell ⟨w.1.size,1,none⟩ (.int .i64 R)).setCell ⟨w.1.size,2,none⟩ (.int .i64 U)).setCell ⟨w.1.size,3,none⟩ (.int .i64 d))/\IsRd ((((b.setCell ⟨w.1.size,0,none⟩ (.int .i64 G)).setCell ⟨w.1.size,1,none⟩ (.int .i64 R)).setCell ⟨w.1.size,2,none⟩ (.int .i64 U)).setCell ⟨w.1.size,3,none⟩ (.int .i64 d)) g a n c l p:=by
 have q:=((((B2 w.1.size b).setCell (p:=⟨w.1.size,0,none⟩) t6 (.int .i64 G)).setCell (p:=⟨w.1.size,1,none⟩) t6 (.int .i64 R)).setCell (p:=⟨w.1.size,2,none⟩) t6 (.int .i64 U)).setCell (p:=⟨w.1.size,3,none⟩) t6 (.int .i64 d);have o:=S.only.thenB2 q t6;exact⟨o,h.only o ((q.block g e).trans S.box) S.at_⟩
def zrU(U x:Int):Int:=if x=1\/U<=x then 0 else x
theorem yO{U x}(a:0<=x)(b:x<=7):0<=zrU U x/\zrU U x<=7:=by unfold zrU;split<;>omega
def suG(n:Nat)(k x:Int)(q:Nat)(G R U F:Int):SupK×Nat:=
 if 220<=k then
  if k%6=0 then((if x%4=0 then 0 else if x%4=1 then -1 else if x%4=2 then 1000000000000 else 1000000000001,R,U,F),rdP n q)
  else if k%6=1 then((G,R,if x%4=0 then 1 else if x%4=1 then 1024 else if x%4=2 then 1025 else 2,F),rdP n q)
  else if k%6=2 then((G,U-x%2,U,F),rdP n q)
  else if k%6=3 then((G,R,U,1+x%2*U),rdP n q)
  else((G, -1,U,F),q)
 else((G,R,U,F),q)
def suD(l:List Int)(n p:Nat):SupK×Nat:=suG n (l.getD p 0) (l.getD (rdP n (rdP n (rdP n (rdP n p)))) 0) (rdP n (rdP n (rdP n (rdP n p)))) (1+l.getD p 0%5) (zrU (2+l.getD (rdP n p) 0%6) (l.getD (rdP n (rdP n p)) 0%8)) (2+l.getD (rdP n p) 0%6) (zrU (2+l.getD (rdP n p) 0%6) (l.getD (rdP n (rdP n (rdP n p))) 0%8))
theorem Id(g a n c l p w)(h:IsRd w g a n c l p)(Z)(a7:Z=suD l n p):
 Calls prog 91 #[.pointer (some ⟨g,0,none⟩)] w fun e w'=>e= .returned (.agg #[.int .i64 Z.1.1,.int .i64 Z.1.2.1,.int .i64 Z.1.2.2.1,.int .i64 Z.1.2.2.2])/\SuB Z.1.1 Z.1.2.1 Z.1.2.2.1 Z.1.2.2.2/\OnlyB g w w'/\IsRd w' g a n c l Z.2:=by
 unfold suD at a7;have I:Hid _:=a7;clear a7;have N:Hid (∀i,0<=l.getD i 0/\l.getD i 0<256):=h.bs.byte;have r:=h.lt;have a9:=bAl w (.cells #[.int .i64 0,.int .i64 0,.int .i64 0,.int .i64 0] 36);have bx:=D6 w (.cells #[.int .i64 0,.int .i64 0,.int .i64 0,.int .i64 0] 36);have br:=h.below a9;have P:Hid _:=h;have bn:=Below.onlyB a9 g;have b5:(w.alloc (.cells #[.int .i64 0,.int .i64 0,.int .i64 0,.int .i64 0] 36)).1.size=w.1.size+1:=by simp
 clear h a9;go_enter func91,ntmps91;go_wp2_with fail;generalize bd:w.alloc (.cells #[.int .i64 0,.int .i64 0,.int .i64 0,.int .i64 0] 36)=bB at*;clear bd;refine(cZ g a n c l p bB br).mono ?_;rintro e w1 ⟨rfl,aX,bs⟩;have bz:=(aX.block w.1.size uA uA).trans bx;have b6:=aX.size;have u1:=bn.trans aX;obtain⟨k0,cg⟩:=N.out p;generalize l.getD p 0=k at*;clear bn aX bx br;generalize rdP n p=a0 at*;have bl:k.tmod 5=k%5:=A3 k0;go_wp2_with fail;refine(cZ g a n c l a0 w1 bs).mono ?_;rintro e bv ⟨rfl,a8,bu⟩;obtain⟨v0,v1⟩:=N.out a0;generalize l.getD a0 0=v at*;have bm:v.tmod 6=v%6:=A3 v0;have j:=Ib (G:=1+k%5) (U:=2+v%6) r (u1.trans a8) bu ((a8.block w.1.size uA uA).trans bz) (by unfold SuB;omega);generalize aS:1+k%5=G at*;generalize aT:2+v%6=U at*;have d:Hid _:=j;clear j a8 bu bz bs u1;generalize rdP n a0=a1 at*;go_upto_region 3 with fail
 generalize bv.alloc (.cells #[.int .i64 G,.int .i64 0,.int .i64 U,.int .i64 0] 36)=bC at*;generalize bv.1.size=ob at*;go_wp2_with fail;refine(cZ g a n c l a1 bC (d.out.rd P.out)).mono ?_;rintro e bZ ⟨rfl,on,y⟩;obtain⟨J,af⟩:=N.out a1;generalize l.getD a1 0=b at*;have j:=d.out.next r on y;clear on y;generalize rdP n a1=a2 at*;have bf:b.tmod 8=b%8:=A3 J;clear d;have d:Hid _:=j;have e0:=DC _ _ 0 _ _ _ d.out.su;have O:=DC _ _ 1 _ _ _ d.out.su;have T:=DC _ _ 2 _ _ _ d.out.su;have V:=DC _ _ 3 _ _ _ d.out.su;have ag:=frozen_of_row _ _ 0 _ _ d.out.su;have W:=frozen_of_row _ _ 1 _ _ d.out.su;have ak:=frozen_of_row _ _ 2 _ _ d.out.su;have ab:=frozen_of_row _ _ 3 _ _ d.out.su;have m:=d.out.set r 1 (.int .i64 (b%8)) (G':=G) (R':=b%8) (U':=U) (F':=0) rfl (by unfold SuB;omega);generalize A:b%8=R at*;clear j d;have d:Hid _:=m;clear m;go_upto_region 4 with fail
 clear e0 O T V ag W ak ab;generalize bZ.setCell ⟨ob,1,none⟩ (.int .i64 R)=bE at*;go_wp2_with fail;refine(cZ g a n c l a2 bE (d.out.rd P.out)).mono ?_;rintro e b0 ⟨rfl,on,y⟩;obtain⟨a5,f1⟩:=N.out a2;generalize l.getD a2 0=f at*;have j:=d.out.next r on y;clear on y;generalize rdP n a2=B at*;have bg:f.tmod 8=f%8:=A3 a5;clear d;have d:Hid _:=j;have e0:=DC _ _ 0 _ _ _ d.out.su;have O:=DC _ _ 1 _ _ _ d.out.su;have T:=DC _ _ 2 _ _ _ d.out.su;have V:=DC _ _ 3 _ _ _ d.out.su;have ag:=frozen_of_row _ _ 0 _ _ d.out.su;have W:=frozen_of_row _ _ 1 _ _ d.out.su;have ak:=frozen_of_row _ _ 2 _ _ d.out.su;have ab:=frozen_of_row _ _ 3 _ _ d.out.su;have m:=d.out.set r 3 (.int .i64 (f%8)) (G':=G) (R':=R) (U':=U) (F':=f%8) rfl (by unfold SuB;omega);generalize ac:f%8=z at*;clear j d;have d:Hid _:=m;clear m;go_upto_region 5 with fail
 clear e0 O T V ag W ak ab;generalize b0.setCell ⟨ob,3,none⟩ (.int .i64 z)=b9 at*;have s:Hid (2<=U/\U<=7/\0<=z/\z<=7/\1<=G/\G<=5/\0<=R/\R<=7):=by show _/\_;omega
 clear A ac aT bl bm bf bg aS J af a5 f1 v0 v1 b5 b6;go_cut [33] (fun ba K=>(∃q,ba= .bool q/\(q=true↔R=1\/U<=R))/\SuSt w g ob a n c B G R U z K)
 case first=>
  have O:=DC _ _ 1 _ _ _ d.out.su;have T:=DC _ _ 2 _ _ _ d.out.su;by_cases am:R=1
  ·have a3:(R==1)=true:=by simp[am]
   go_wp2_with fail
   go_meet
   exact⟨⟨_,rfl,by simp;try omega⟩,d.out⟩
  ·have a3:(R==1)=false:=by simp[am]
   by_cases bP:U<=R
   ·go_wp2_with fail
    go_meet
    exact⟨⟨_,rfl,by simp;try omega⟩,d.out⟩
   ·have bR:R<U:=uA;go_wp2_with fail
    go_meet
    exact⟨⟨_,rfl,by simp;try omega⟩,d.out⟩
 case rest=>
 clear d;obtain⟨⟨q,rfl,ap⟩,j⟩:=hcut;have Q:Hid _:=ap;clear ap;obtain⟨ca,t⟩:=aa wc;subst t;have d:Hid _:=j;clear j;go_upto_if 33 with fail
 go_cut [] (fun K=>SuSt w g ob a n c B G (zrU U R) U z K)
 case first=>
  have O:=DC _ _ 1 _ _ _ d.out.su;have W:=frozen_of_row _ _ 1 _ _ d.out.su;have m:=d.out.set r 1 (.int .i64 0) (G':=G) (R':=0) (U':=U) (F':=z) rfl (by have:=s.out;unfold SuB;omega);have u:Hid _:=m;clear m;cases q with
  |true=>
   go_wp2_with fail
   go_meet
   rw[zrU,B4 (Q.out.1 (by first|rfl|trivial))];exact u.out
  |false=>
   go_wp2_with fail
   go_meet
   rw[zrU,CH (fun e=>absurd (Q.out.2 e) vo)];exact d.out
 case rest=>
 clear d;have j:=hcut;clear hcut Q;have A:=yO (U:=U) s.out.2.2.2.2.2.2.1 s.out.2.2.2.2.2.2.2;generalize zrU U R=R' at*;obtain⟨b7,t⟩:=aa wc;subst t;have d:Hid _:=j;clear j;have M:Hid (2<=U/\U<=7/\0<=z/\z<=7/\1<=G/\G<=5/\0<=R'/\R'<=7):=by have:=s.out;show _/\_;omega
 clear s A;have s:Hid _:=M;clear M;clear R;obtain⟨R,t⟩:=aa R';subst t;go_upto_region 7 with fail
 go_cut [44] (fun ba K=>(∃q,ba= .bool q/\(q=true↔z=1\/U<=z))/\SuSt w g ob a n c B G R U z K)
 case first=>
  have V:=DC _ _ 3 _ _ _ d.out.su;have T:=DC _ _ 2 _ _ _ d.out.su;by_cases am:z=1
  ·have a3:(z==1)=true:=by simp[am]
   go_wp2_with fail
   go_meet
   exact⟨⟨_,rfl,by simp;try omega⟩,d.out⟩
  ·have a3:(z==1)=false:=by simp[am]
   by_cases bP:U<=z
   ·go_wp2_with fail
    go_meet
    exact⟨⟨_,rfl,by simp;try omega⟩,d.out⟩
   ·have bR:z<U:=uA;go_wp2_with fail
    go_meet
    exact⟨⟨_,rfl,by simp;try omega⟩,d.out⟩
 case rest=>
 clear d;obtain⟨⟨q,rfl,ap⟩,j⟩:=hcut;have Q:Hid _:=ap;clear ap;obtain⟨cb,t⟩:=aa wc;subst t;have d:Hid _:=j;clear j;go_upto_if 44 with fail
 go_cut [] (fun K=>SuSt w g ob a n c B G R U (zrU U z) K)
 case first=>
  have V:=DC _ _ 3 _ _ _ d.out.su;have ab:=frozen_of_row _ _ 3 _ _ d.out.su;have m:=d.out.set r 3 (.int .i64 0) (G':=G) (R':=R) (U':=U) (F':=0) rfl (by have:=s.out;unfold SuB;omega);have u:Hid _:=m;clear m;cases q with
  |true=>
   go_wp2_with fail
   go_meet
   rw[zrU,B4 (Q.out.1 (by first|rfl|trivial))];exact u.out
  |false=>
   go_wp2_with fail
   go_meet
   rw[zrU,CH (fun e=>absurd (Q.out.2 e) vo)];exact d.out
 case rest=>
 clear d;have j:=hcut;clear hcut Q;have ac:=yO (U:=U) s.out.2.2.1 s.out.2.2.2.1;generalize zrU U z=F' at*;obtain⟨o,t⟩:=aa wc;subst t;have d:Hid _:=j;clear j;have M:Hid (2<=U/\U<=7/\0<=F'/\F'<=7/\1<=G/\G<=5/\0<=R/\R<=7):=by have:=s.out;show _/\_;omega
 clear s ac;have s:Hid _:=M;clear M;clear z;obtain⟨z,t⟩:=aa F';subst t;go_upto_if 47 with fail
 go_cut [5] (fun _ K=>SuSt w g ob a n c Z.2 Z.1.1 Z.1.2.1 Z.1.2.2.1 Z.1.2.2.2 K)
 case first=>
  by_cases x:220<=k
  ·have Y:k.tmod 6=k%6:=A3 k0;rcases(show k%6=0\/k%6=1\/k%6=2\/k%6=3\/(k%6=4\/k%6=5)by omega)with h6|h6|h6|h6|h6
   ·rw[h6]at Y;go_upto_region 12 with fail
    have aA:=bAl o (.cells #[.int .i64 0,.int .i64 (-1),.int .i64 1000000000000,.int .i64 1000000000001] 3);have H:=D6 o (.cells #[.int .i64 0,.int .i64 (-1),.int .i64 1000000000000,.int .i64 1000000000001] 3);have X:=d.out.below r aA;clear d;have d:Hid _:=X;have ae:=cZ g a n c l B _ (X.rd P.out);clear X;have bb:o.1.size< (o.alloc (.cells #[.int .i64 0,.int .i64 (-1),.int .i64 1000000000000,.int .i64 1000000000001] 3)).1.size:=by simp
    have an:g≠o.1.size:=by have:=aA;have:=d.out.lt;intro e;rw[<-e]at H;rw[d.out.box]at H;simp at H
    go_wp2_with fail;generalize o.alloc (.cells #[.int .i64 0,.int .i64 (-1),.int .i64 1000000000000,.int .i64 1000000000001] 3)=bF at*;generalize o.1.size=a6 at*;refine ae.mono ?_;rintro e aB ⟨rfl,on,y⟩;obtain⟨J,af⟩:=N.out B;generalize l.getD B 0=b at*;have j:=d.out.next r on y;have L:=(on.block a6 bb (ED an)).trans H;clear d ae on y H;have d:Hid _:=j;clear j;have D:b.tmod 4=b%4:=A3 J;have b1:=DC _ _ 0 _ _ _ L;have b2:=DC _ _ 1 _ _ _ L;have b3:=DC _ _ 2 _ _ _ L;have b4:=DC _ _ 3 _ _ _ L;have e0:=DC _ _ 0 _ _ _ d.out.su;have ag:=frozen_of_row _ _ 0 _ _ d.out.su;rcases(show b%4=0\/b%4=1\/b%4=2\/b%4=3 by omega)with h4|h4|h4|h4
    ·rw[h4]at D;have m:=d.out.set r 0 (.int .i64 0) (G':=0) (R':=R) (U':=U) (F':=z) rfl (by have:=s.out;unfold SuB;omega);have u:Hid _:=m;clear m;go_wp2_with fail
     go_meet
     rw[I.out,suG,B4 x,B4 h6];simp only[h4];exact u.out
    ·rw[h4]at D;have m:=d.out.set r 0 (.int .i64 (-1)) (G':= -1) (R':=R) (U':=U) (F':=z) rfl (by have:=s.out;unfold SuB;omega);have u:Hid _:=m;clear m;go_wp2_with fail
     go_meet
     rw[I.out,suG,B4 x,B4 h6];simp only[h4];exact u.out
    ·rw[h4]at D;have m:=d.out.set r 0 (.int .i64 1000000000000) (G':=1000000000000) (R':=R) (U':=U) (F':=z) rfl (by have:=s.out;unfold SuB;omega);have u:Hid _:=m;clear m;go_wp2_with fail
     go_meet
     rw[I.out,suG,B4 x,B4 h6];simp only[h4];exact u.out
    ·rw[h4]at D;have m:=d.out.set r 0 (.int .i64 1000000000001) (G':=1000000000001) (R':=R) (U':=U) (F':=z) rfl (by have:=s.out;unfold SuB;omega);have u:Hid _:=m;clear m;go_wp2_with fail
     go_meet
     rw[I.out,suG,B4 x,B4 h6];simp only[h4];exact u.out
   ·rw[h6]at Y;go_upto_region 14 with fail
    have aA:=bAl o (.cells #[.int .i64 1,.int .i64 1024,.int .i64 1025,.int .i64 2] 3);have H:=D6 o (.cells #[.int .i64 1,.int .i64 1024,.int .i64 1025,.int .i64 2] 3);have X:=d.out.below r aA;clear d;have d:Hid _:=X;have ae:=cZ g a n c l B _ (X.rd P.out);clear X;have bb:o.1.size< (o.alloc (.cells #[.int .i64 1,.int .i64 1024,.int .i64 1025,.int .i64 2] 3)).1.size:=by simp
    have an:g≠o.1.size:=by have:=aA;have:=d.out.lt;intro e;rw[<-e]at H;rw[d.out.box]at H;simp at H
    go_wp2_with fail;generalize o.alloc (.cells #[.int .i64 1,.int .i64 1024,.int .i64 1025,.int .i64 2] 3)=bF at*;generalize o.1.size=a6 at*;refine ae.mono ?_;rintro e aB ⟨rfl,on,y⟩;obtain⟨J,af⟩:=N.out B;generalize l.getD B 0=b at*;have j:=d.out.next r on y;have L:=(on.block a6 bb (ED an)).trans H;clear d ae on y H;have d:Hid _:=j;clear j;have D:b.tmod 4=b%4:=A3 J;have b1:=DC _ _ 0 _ _ _ L;have b2:=DC _ _ 1 _ _ _ L;have b3:=DC _ _ 2 _ _ _ L;have b4:=DC _ _ 3 _ _ _ L;have T:=DC _ _ 2 _ _ _ d.out.su;have ak:=frozen_of_row _ _ 2 _ _ d.out.su;rcases(show b%4=0\/b%4=1\/b%4=2\/b%4=3 by omega)with h4|h4|h4|h4
    rw[h4]at D;have m:=d.out.set r 2 (.int .i64 1) (G':=G) (R':=R) (U':=1) (F':=z) rfl (by have:=s.out;unfold SuB;omega)
    rotate_left
    rw[h4]at D;have m:=d.out.set r 2 (.int .i64 1024) (G':=G) (R':=R) (U':=1024) (F':=z) rfl (by have:=s.out;unfold SuB;omega)
    rotate_left
    rw[h4]at D;have m:=d.out.set r 2 (.int .i64 1025) (G':=G) (R':=R) (U':=1025) (F':=z) rfl (by have:=s.out;unfold SuB;omega)
    rotate_left
    rw[h4]at D;have m:=d.out.set r 2 (.int .i64 2) (G':=G) (R':=R) (U':=2) (F':=z) rfl (by have:=s.out;unfold SuB;omega)
    all_goals
     have u:Hid _:=m;clear m;go_wp2_with fail
     go_meet
     rw[I.out,suG,B4 x,CH uA,B4 h6];simp only[h4];exact u.out
   ·rw[h6]at Y;go_upto_region 16 with fail
    have F:=d.out.below r (⟨rfl,rfl,rfl,t6,fun _ _=>rfl⟩:Below o.1.size o o.drew);clear d;have d:Hid _:=F;refine az (fun v=>v.cell? ⟨ob,2,none⟩=some (.int .i64 U)) (fun k=>decide (7<=k)) vk ?_;have cs:o.drew.cell? ⟨ob,2,none⟩=some (.int .i64 U):=DC _ _ 2 _ _ _ F.su;clear F;generalize o.drew=a4 at*;refine ai 0 cs ?_;refine ai 1 cs ?_;refine ai 2 cs ?_;refine ah 3 fun S E=> ?_;go_wp2_with fail;refine(cZ g a n c l B a4 (d.out.rd P.out)).mono ?_;rintro e aB ⟨rfl,on,y⟩;obtain⟨J,af⟩:=N.out B;generalize l.getD B 0=b at*;have j:=d.out.next r on y;clear d on y;have d:Hid _:=j;have C:aB.cell? ⟨ob,2,none⟩=some (.int .i64 U):=DC _ _ 2 _ _ _ j.su;clear j;have bk:b.tmod 2=b%2:=A3 J;go_wp2_with fail;refine E.out _ _ (fun _=>C) ?_;clear E S;have bS:IntKind.i64.wrap (U-b%2)=U-b%2:=by have:=s.out;simp[IntKind.wrap,IntKind.bits,IntKind.signed];omega
    refine ai 4 C ?_;refine ai 5 C ?_;refine ai 6 C ?_;refine ah 7 fun S E=> ?_;have O:=DC _ _ 1 _ _ _ d.out.su;have W:=frozen_of_row _ _ 1 _ _ d.out.su;have m:=d.out.set r 1 (.int .i64 (U-b%2)) (G':=G) (R':=U-b%2) (U':=U) (F':=z) rfl (by have:=s.out;unfold SuB;first|omega|(refine⟨uA,uA,uA,?_⟩;rcases(show b%2=0\/b%2=1 by omega)with hx|hx<;>rw[hx] <;>omega));have u:Hid _:=m;clear m;go_wp2_with fail;refine E.out _ _ (fun h=>absurd h uB) ?_;clear E S;refine bi ?_;go_wp2_with fail
    go_meet
    rw[I.out,suG,B4 x,CH uA,CH uA,B4 h6];exact u.out
   ·rw[h6]at Y;go_upto_region 18 with fail
    have F:=d.out.below r (⟨rfl,rfl,rfl,t6,fun _ _=>rfl⟩:Below o.1.size o o.drew);clear d;have d:Hid _:=F;refine az (fun v=>v.cell? ⟨ob,2,none⟩=some (.int .i64 U)) (fun k=>decide (8<=k)) vk ?_;have cs:o.drew.cell? ⟨ob,2,none⟩=some (.int .i64 U):=DC _ _ 2 _ _ _ F.su;clear F;generalize o.drew=a4 at*;refine ai 0 cs ?_;refine ai 3 cs ?_;refine ai 4 cs ?_;refine ah 1 fun S E=> ?_;go_wp2_with fail;refine(cZ g a n c l B a4 (d.out.rd P.out)).mono ?_;rintro e aB ⟨rfl,on,y⟩;obtain⟨J,af⟩:=N.out B;generalize l.getD B 0=b at*;have j:=d.out.next r on y;clear d on y;have d:Hid _:=j;have C:aB.cell? ⟨ob,2,none⟩=some (.int .i64 U):=DC _ _ 2 _ _ _ j.su;clear j;have bk:b.tmod 2=b%2:=A3 J;go_wp2_with fail;refine E.out _ _ (fun _=>C) ?_;clear E S;have b8:IntKind.i64.wrap (b%2*U)=b%2*U:=by have:=s.out;rcases(show b%2=0\/b%2=1 by omega)with hx|hx<;>rw[hx] <;>simp[IntKind.wrap,IntKind.bits,IntKind.signed] <;>omega
    have bS:IntKind.i64.wrap (1+b%2*U)=1+b%2*U:=by have:=s.out;rcases(show b%2=0\/b%2=1 by omega)with hx|hx<;>rw[hx] <;>simp[IntKind.wrap,IntKind.bits,IntKind.signed] <;>omega
    refine ai 2 C ?_;refine ai 5 C ?_;refine ai 6 C ?_;refine ai 7 C ?_;refine ah 8 fun S E=> ?_;have V:=DC _ _ 3 _ _ _ d.out.su;have ab:=frozen_of_row _ _ 3 _ _ d.out.su;have m:=d.out.set r 3 (.int .i64 (1+b%2*U)) (G':=G) (R':=R) (U':=U) (F':=1+b%2*U) rfl (by have:=s.out;unfold SuB;first|omega|(refine⟨uA,uA,uA,?_⟩;rcases(show b%2=0\/b%2=1 by omega)with hx|hx<;>rw[hx] <;>omega));have u:Hid _:=m;clear m;go_wp2_with fail;refine E.out _ _ (fun h=>absurd h uB) ?_;clear E S;refine bi ?_;go_wp2_with fail
    go_meet
    rw[I.out,suG,B4 x,CH uA,CH uA,CH uA,B4 h6];exact u.out
   ·have t0:(k%6==0)=false:=by rcases h6 with h|h<;>simp[h]
    have a3:(k%6==1)=false:=by rcases h6 with h|h<;>simp[h]
    have ch:(k%6==2)=false:=by rcases h6 with h|h<;>simp[h]
    have cj:(k%6==3)=false:=by rcases h6 with h|h<;>simp[h]
    have O:=DC _ _ 1 _ _ _ d.out.su;have W:=frozen_of_row _ _ 1 _ _ d.out.su;have m:=d.out.set r 1 (.int .i64 (-1)) (G':=G) (R':= -1) (U':=U) (F':=z) rfl (by have:=s.out;unfold SuB;omega);have u:Hid _:=m;clear m;go_wp2_with fail
    go_meet
    rw[I.out,suG,B4 x,CH uA,CH uA,CH uA,CH uA];exact u.out
  ·have bA:k<220:=uA;go_wp2_with fail
   go_meet
   rw[I.out,suG,CH uA];exact d.out
 case rest=>
 clear d I;have j:=hcut;clear hcut;generalize aS:Z.1.1=G at j;generalize A:Z.1.2.1=R at j;generalize aT:Z.1.2.2.1=U at j;generalize ac:Z.1.2.2.2=z at j;generalize bc:Z.2=bY at j;have ad:Hid (Z.1.1=G/\Z.1.2.1=R/\Z.1.2.2.1=U/\Z.1.2.2.2=z/\Z.2=bY):=⟨aS,A,aT,ac,bc⟩;clear aS A aT ac bc;obtain⟨cc,t⟩:=aa wc;subst t;have d:Hid _:=j;clear j;have A:=d.out.res;have e0:=DC _ _ 0 _ _ _ d.out.su;have O:=DC _ _ 1 _ _ _ d.out.su;have T:=DC _ _ 2 _ _ _ d.out.su;have V:=DC _ _ 3 _ _ _ d.out.su;have ag:=frozen_of_row _ _ 0 _ _ d.out.su;have W:=frozen_of_row _ _ 1 _ _ d.out.su;have ak:=frozen_of_row _ _ 2 _ _ d.out.su;have ab:=frozen_of_row _ _ 3 _ _ d.out.su;have l0:=DC _ _ 0 _ _ _ A;have bT:=DC _ _ 1 _ _ _ A;have bW:=DC _ _ 2 _ _ _ A;have bX:=DC _ _ 3 _ _ _ A;have a5:=frozen_of_row _ _ 0 _ _ A;have f1:=frozen_of_row _ _ 1 _ _ A;have ce:=frozen_of_row _ _ 2 _ _ A;have cf:=frozen_of_row _ _ 3 _ _ A;clear A;go_wp2;refine B3 (v:= .agg #[.int .i64 G,.int .i64 R,.int .i64 U,.int .i64 z]) (by simp[results,results91,go_sem,l0,bT,bW,bX]) rfl ?_;rw[ad.out.1,ad.out.2.1,ad.out.2.2.1,ad.out.2.2.2.1,ad.out.2.2.2.2];exact⟨rfl,d.out.bd,Ic P.out r d.out⟩
