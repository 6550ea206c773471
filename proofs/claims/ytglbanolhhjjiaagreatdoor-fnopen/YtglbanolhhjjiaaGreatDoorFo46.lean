import Derived.Test.YtglbanolhhjjiaaGreatDoorFo44
import Derived.Test.YtglbanolhhjjiaaGreatDoorFo8
namespace Go.Proofs.YtglbanolhhjjiaaGreatDoor
open Go.Proofs.Tryz
open Go.RowKit
set_option linter.unusedVariables false
set_option maxRecDepth 100000
set_option maxHeartbeats 32000000
def SuB(G R U F:Int):Prop:=(-1<=G/\G<=1000000000001)/\(-1<=R/\R<=2000)/\(0<=U/\U<=2000)/\(0<=F/\F<=2000)
structure SuSt(w:World)(g ob:Nat)(a:Option Addr)(n c p:Nat)(G R U F:Int)(wx:World):Prop where
 only:OnlyB g w wx
 box:wx.heap[g]?=some (.cells #[.slice a n c,.int .i64 (p:Nat)] 149 (0,0))
 at_:p<=n
 res:wx.heap[w.1.size]?=some (.cells #[.int .i64 0,.int .i64 0,.int .i64 0,.int .i64 0] 36 (0,0))
 su:wx.heap[ob]?=some (.cells #[.int .i64 G,.int .i64 R,.int .i64 U,.int .i64 F] 36 (0,0))
 gt:w.1.size<ob
 bd:SuB G R U F
theorem OnlyB.thenB2{g B a b c}(e:OnlyB g a b)(d:Below B b c)(h:a.1.size<=B):OnlyB g a c:=
 ⟨d.os.trans e.os,d.tape.trans e.tape,d.output.trans e.output,u9 e.size d.size,fun k f i=>(d.block k (ws f h)).trans (e.block k f i)⟩
theorem SuSt.set{w g ob a n c p G R U j b}(d:SuSt w g ob a n c p G R U j b)(k:g<w.1.size)(i v){G' R' U' F'}(h:(#[.int .i64 G,.int .i64 R,.int .i64 U,.int .i64 j]:Array Value).setIfInBounds i v=#[.int .i64 G',.int .i64 R',.int .i64 U',.int .i64 F'])(f:SuB G' R' U' F'):SuSt w g ob a n c p G' R' U' F' (b.setCell ⟨ob,i,none⟩ v):=by
 have e:=d.gt;have q:=(Bn ob b).setCell (p:=⟨ob,i,none⟩) t1 v;refine⟨d.only.thenB2 q t7,(Below.heap_setCell b ⟨ob,i,none⟩ v g (by show g≠ob;omega)).trans d.box,d.at_,(Below.heap_setCell b ⟨ob,i,none⟩ v w.1.size (by show w.1.size≠ob;omega)).trans d.res,?_,e,f⟩;have:=heap_setCell_same b ob i _ _ v d.su;rw[h]at this;exact this
theorem SuSt.lt{w g ob a n c p G R U d b}(e:SuSt w g ob a n c p G R U d b):ob<b.1.size:=(vR.1 e.su).1
theorem SuSt.below{w g ob a n c p G R U j e f}(b:SuSt w g ob a n c p G R U j e)(k:g<w.1.size)(d:Below e.1.size e f):SuSt w g ob a n c p G R U j f:=by
 have i:=b.lt;have h:=b.gt;exact⟨b.only.thenB2 d b.only.size,(d.block g t7).trans b.box,b.at_,(d.block _ t7).trans b.res,(d.block _ i).trans b.su,h,b.bd⟩
theorem SuSt.rd{w g ob a n c p f l G R U h b}(d:SuSt w g ob a n c p G R U h b)(e:IsRd w g a n c l f):IsRd b g a n c l p:=e.only d.only d.box d.at_
theorem SuSt.next{w g ob a n c p h l G R U m i d}(e:SuSt w g ob a n c p G R U m i)(o:g<w.1.size)(b:OnlyB g i d)(f:IsRd d g a n c l h):SuSt w g ob a n c h G R U m d:=by
 have k:=e.lt;have j:=e.gt;exact⟨e.only.trans b,f.box,f.at_,(b.block _ t7 t7).trans e.res,(b.block _ k t7).trans e.su,j,e.bd⟩
theorem Ib{w b g a n c p l G U}(j:g<w.1.size)(d:OnlyB g w b)(e:IsRd b g a n c l p)(f:b.heap[w.1.size]?=some (.cells #[.int .i64 0,.int .i64 0,.int .i64 0,.int .i64 0] 36 (0,0)))(i:SuB G 0 U 0):SuSt w g b.1.size a n c p G 0 U 0 (b.alloc (.cells #[.int .i64 G,.int .i64 0,.int .i64 U,.int .i64 0] 36)):=by
 have q:=bAl b (.cells #[.int .i64 G,.int .i64 0,.int .i64 U,.int .i64 0] 36);have k:=d.size;have h:=(vR.1 f).1;exact⟨d.thenB2 q t7,(q.block g t7).trans e.box,e.at_,(q.block _ h).trans f,DI b _,h,i⟩
theorem Ic{w b g ob a n c p f l G R U d}(h:IsRd w g a n c l f)(e:g<w.1.size)(S:SuSt w g ob a n c p G R U d b):
 OnlyB g w ((((b.setCell ⟨w.1.size,0,none⟩ (.int .i64 G)).setCell ⟨w.1.size,1,none⟩ (.int .i64 R)).setCell ⟨w.1.size,2,none⟩ (.int .i64 U)).setCell ⟨w.1.size,3,none⟩ (.int .i64 d))/\IsRd ((((b.setCell ⟨w.1.size,0,none⟩ (.int .i64 G)).setCell ⟨w.1.size,1,none⟩ (.int .i64 R)).setCell ⟨w.1.size,2,none⟩ (.int .i64 U)).setCell ⟨w.1.size,3,none⟩ (.int .i64 d)) g a n c l p:=by
 have q:=((((Bn w.1.size b).setCell (p:=⟨w.1.size,0,none⟩) t1 (.int .i64 G)).setCell (p:=⟨w.1.size,1,none⟩) t1 (.int .i64 R)).setCell (p:=⟨w.1.size,2,none⟩) t1 (.int .i64 U)).setCell (p:=⟨w.1.size,3,none⟩) t1 (.int .i64 d);have o:=S.only.thenB2 q t1;exact⟨o,h.only o ((q.block g e).trans S.box) S.at_⟩
def zrU(U x:Int):Int:=if x=1\/U<=x then 0 else x
theorem yO{U x}(a:0<=x)(b:x<=7):0<=zrU U x/\zrU U x<=7:=by unfold zrU;split<;>omega
def suG(n:Nat)(k x:Int)(q:Nat)(G R U F:Int):SupK×Nat:=
 if 220<=k then
  if k%6=0 then((if x%4=0 then 0 else if x%4=1 then -1 else if x%4=2 then 1000000000000 else 1000000000001,R,U,F),rdP n q)
  else if k%6=1 then((G,R,if x%4=0 then 1 else if x%4=1 then 1024 else if x%4=2 then 1025 else 2,F),rdP n q)
  else if k%6=2 then((G,U-x%2,U,F),rdP n q)
  else if k%6=3 then((G,R,U,1+x%2*U),rdP n q)
  else((G, -1,U,F),q)
 else((G,R,U,F),q)
def suD(l:List Int)(n p:Nat):SupK×Nat:=suG n (l.getD p 0) (l.getD (rdP n (rdP n (rdP n (rdP n p)))) 0) (rdP n (rdP n (rdP n (rdP n p)))) (1+l.getD p 0%5) (zrU (2+l.getD (rdP n p) 0%6) (l.getD (rdP n (rdP n p)) 0%8)) (2+l.getD (rdP n p) 0%6) (zrU (2+l.getD (rdP n p) 0%6) (l.getD (rdP n (rdP n (rdP n p))) 0%8))
theorem Id(g a n c l p w)(J:IsRd w g a n c l p)(Z)(a7:Z=suD l n p):
 Calls prog 91 #[.pointer (some ⟨g,0,none⟩)] w fun e w'=>e= .returned (.agg #[.int .i64 Z.1.1,.int .i64 Z.1.2.1,.int .i64 Z.1.2.2.1,.int .i64 Z.1.2.2.2])/\SuB Z.1.1 Z.1.2.1 Z.1.2.2.1 Z.1.2.2.2/\OnlyB g w w'/\IsRd w' g a n c l Z.2:=by
 unfold suD at a7;have H:Hid _:=a7;clear a7;have N:Hid (∀i,0<=l.getD i 0/\l.getD i 0<256):=J.bs.byte;have o:=J.lt;have a9:=bAl w (.cells #[.int .i64 0,.int .i64 0,.int .i64 0,.int .i64 0] 36);have bx:=DI w (.cells #[.int .i64 0,.int .i64 0,.int .i64 0,.int .i64 0] 36);have br:=J.below a9;have P:Hid _:=J;have bn:=Below.onlyB a9 g;have b5:(w.alloc (.cells #[.int .i64 0,.int .i64 0,.int .i64 0,.int .i64 0] 36)).1.size=w.1.size+1:=by simp
 clear J a9;go_enter func91,ntmps91;go_wp2_with fail;generalize bd:w.alloc (.cells #[.int .i64 0,.int .i64 0,.int .i64 0,.int .i64 0] 36)=bB at*;clear bd;refine(cZ g a n c l p bB br).mono ?_;rintro e w1 ⟨rfl,aX,bs⟩;have bz:=(aX.block w.1.size t7 t7).trans bx;have b6:=aX.size;have u1:=bn.trans aX;obtain⟨k0,cg⟩:=N.out p;generalize l.getD p 0=k at*;clear bn aX bx br;generalize rdP n p=a0 at*;have bl:k.tmod 5=k%5:=z6 k0;go_wp2_with fail;refine(cZ g a n c l a0 w1 bs).mono ?_;rintro e bv ⟨rfl,a8,bu⟩;obtain⟨v0,v1⟩:=N.out a0;generalize l.getD a0 0=v at*;have bm:v.tmod 6=v%6:=z6 v0;have h:=Ib (G:=1+k%5) (U:=2+v%6) o (u1.trans a8) bu ((a8.block w.1.size t7 t7).trans bz) (by unfold SuB;omega);generalize aS:1+k%5=G at*;generalize aT:2+v%6=U at*;have d:Hid _:=h;clear h a8 bu bz bs u1;generalize rdP n a0=a1 at*;go_upto_region 3 with fail
 generalize bv.alloc (.cells #[.int .i64 G,.int .i64 0,.int .i64 U,.int .i64 0] 36)=bC at*;generalize bv.1.size=ob at*;go_wp2_with fail;refine(cZ g a n c l a1 bC (d.out.rd P.out)).mono ?_;rintro e bZ ⟨rfl,on,x⟩;obtain⟨I,af⟩:=N.out a1;generalize l.getD a1 0=b at*;have h:=d.out.next o on x;clear on x;generalize rdP n a1=a2 at*;have bf:b.tmod 8=b%8:=z6 I;clear d;have d:Hid _:=h;have e0:=CV _ _ 0 _ _ _ d.out.su;have O:=CV _ _ 1 _ _ _ d.out.su;have T:=CV _ _ 2 _ _ _ d.out.su;have V:=CV _ _ 3 _ _ _ d.out.su;have ag:=frozen_of_row _ _ 0 _ _ d.out.su;have W:=frozen_of_row _ _ 1 _ _ d.out.su;have ak:=frozen_of_row _ _ 2 _ _ d.out.su;have ab:=frozen_of_row _ _ 3 _ _ d.out.su;have j:=d.out.set o 1 (.int .i64 (b%8)) (G':=G) (R':=b%8) (U':=U) (F':=0) rfl (by unfold SuB;omega);generalize z:b%8=R at*;clear h d;have d:Hid _:=j;clear j;go_upto_region 4 with fail
 clear e0 O T V ag W ak ab;generalize bZ.setCell ⟨ob,1,none⟩ (.int .i64 R)=bE at*;go_wp2_with fail;refine(cZ g a n c l a2 bE (d.out.rd P.out)).mono ?_;rintro e b0 ⟨rfl,on,x⟩;obtain⟨a5,f1⟩:=N.out a2;generalize l.getD a2 0=f at*;have h:=d.out.next o on x;clear on x;generalize rdP n a2=A at*;have bg:f.tmod 8=f%8:=z6 a5;clear d;have d:Hid _:=h;have e0:=CV _ _ 0 _ _ _ d.out.su;have O:=CV _ _ 1 _ _ _ d.out.su;have T:=CV _ _ 2 _ _ _ d.out.su;have V:=CV _ _ 3 _ _ _ d.out.su;have ag:=frozen_of_row _ _ 0 _ _ d.out.su;have W:=frozen_of_row _ _ 1 _ _ d.out.su;have ak:=frozen_of_row _ _ 2 _ _ d.out.su;have ab:=frozen_of_row _ _ 3 _ _ d.out.su;have j:=d.out.set o 3 (.int .i64 (f%8)) (G':=G) (R':=R) (U':=U) (F':=f%8) rfl (by unfold SuB;omega);generalize ac:f%8=y at*;clear h d;have d:Hid _:=j;clear j;go_upto_region 5 with fail
 clear e0 O T V ag W ak ab;generalize b0.setCell ⟨ob,3,none⟩ (.int .i64 y)=b9 at*;have r:Hid (2<=U/\U<=7/\0<=y/\y<=7/\1<=G/\G<=5/\0<=R/\R<=7):=by show _/\_;omega
 clear z ac aT bl bm bf bg aS I af a5 f1 v0 v1 b5 b6;go_cut [33] (fun ba K=>(∃q,ba= .bool q/\(q=true↔R=1\/U<=R))/\SuSt w g ob a n c A G R U y K)
 case first=>
  have O:=CV _ _ 1 _ _ _ d.out.su;have T:=CV _ _ 2 _ _ _ d.out.su;by_cases am:R=1
  ·have a3:(R==1)=true:=by simp[am]
   go_wp2_with fail
   go_meet
   exact⟨⟨_,rfl,by simp;try omega⟩,d.out⟩
  ·have a3:(R==1)=false:=by simp[am]
   by_cases bP:U<=R
   ·go_wp2_with fail
    go_meet
    exact⟨⟨_,rfl,by simp;try omega⟩,d.out⟩
   ·have bR:R<U:=t7;go_wp2_with fail
    go_meet
    exact⟨⟨_,rfl,by simp;try omega⟩,d.out⟩
 case rest=>
 clear d;obtain⟨⟨q,rfl,ap⟩,h⟩:=hcut;have Q:Hid _:=ap;clear ap;obtain⟨ca,s⟩:=aa wc;subst s;have d:Hid _:=h;clear h;go_upto_if 33 with fail
 go_cut [] (fun K=>SuSt w g ob a n c A G (zrU U R) U y K)
 case first=>
  have O:=CV _ _ 1 _ _ _ d.out.su;have W:=frozen_of_row _ _ 1 _ _ d.out.su;have j:=d.out.set o 1 (.int .i64 0) (G':=G) (R':=0) (U':=U) (F':=y) rfl (by have:=r.out;unfold SuB;omega);have t:Hid _:=j;clear j;cases q with
  |true=>
   go_wp2_with fail
   go_meet
   rw[zrU,BC (Q.out.1 (by first|rfl|trivial))];exact t.out
  |false=>
   go_wp2_with fail
   go_meet
   rw[zrU,BX (fun e=>absurd (Q.out.2 e) uB)];exact d.out
 case rest=>
 clear d;have h:=hcut;clear hcut Q;have z:=yO (U:=U) r.out.2.2.2.2.2.2.1 r.out.2.2.2.2.2.2.2;generalize zrU U R=R' at*;obtain⟨b7,s⟩:=aa wc;subst s;have d:Hid _:=h;clear h;have M:Hid (2<=U/\U<=7/\0<=y/\y<=7/\1<=G/\G<=5/\0<=R'/\R'<=7):=by have:=r.out;show _/\_;omega
 clear r z;have r:Hid _:=M;clear M;clear R;obtain⟨R,s⟩:=aa R';subst s;go_upto_region 7 with fail
 go_cut [44] (fun ba K=>(∃q,ba= .bool q/\(q=true↔y=1\/U<=y))/\SuSt w g ob a n c A G R U y K)
 case first=>
  have V:=CV _ _ 3 _ _ _ d.out.su;have T:=CV _ _ 2 _ _ _ d.out.su;by_cases am:y=1
  ·have a3:(y==1)=true:=by simp[am]
   go_wp2_with fail
   go_meet
   exact⟨⟨_,rfl,by simp;try omega⟩,d.out⟩
  ·have a3:(y==1)=false:=by simp[am]
   by_cases bP:U<=y
   ·go_wp2_with fail
    go_meet
    exact⟨⟨_,rfl,by simp;try omega⟩,d.out⟩
   ·have bR:y<U:=t7;go_wp2_with fail
    go_meet
    exact⟨⟨_,rfl,by simp;try omega⟩,d.out⟩
 case rest=>
 clear d;obtain⟨⟨q,rfl,ap⟩,h⟩:=hcut;have Q:Hid _:=ap;clear ap;obtain⟨cb,s⟩:=aa wc;subst s;have d:Hid _:=h;clear h;go_upto_if 44 with fail
 go_cut [] (fun K=>SuSt w g ob a n c A G R U (zrU U y) K)
 case first=>
  have V:=CV _ _ 3 _ _ _ d.out.su;have ab:=frozen_of_row _ _ 3 _ _ d.out.su;have j:=d.out.set o 3 (.int .i64 0) (G':=G) (R':=R) (U':=U) (F':=0) rfl (by have:=r.out;unfold SuB;omega);have t:Hid _:=j;clear j;cases q with
  |true=>
   go_wp2_with fail
   go_meet
   rw[zrU,BC (Q.out.1 (by first|rfl|trivial))];exact t.out
  |false=>
   go_wp2_with fail
   go_meet
   rw[zrU,BX (fun e=>absurd (Q.out.2 e) uB)];exact d.out
 case rest=>
 clear d;have h:=hcut;clear hcut Q;have ac:=yO (U:=U) r.out.2.2.1 r.out.2.2.2.1;generalize zrU U y=F' at*;obtain⟨m,s⟩:=aa wc;subst s;have d:Hid _:=h;clear h;have M:Hid (2<=U/\U<=7/\0<=F'/\F'<=7/\1<=G/\G<=5/\0<=R/\R<=7):=by have:=r.out;show _/\_;omega
 clear r ac;have r:Hid _:=M;clear M;clear y;obtain⟨y,s⟩:=aa F';subst s;go_upto_if 47 with fail
 go_cut [5] (fun _ K=>SuSt w g ob a n c Z.2 Z.1.1 Z.1.2.1 Z.1.2.2.1 Z.1.2.2.2 K)
 case first=>
  by_cases u:220<=k
  ·have Y:k.tmod 6=k%6:=z6 k0;rcases(show k%6=0\/k%6=1\/k%6=2\/k%6=3\/(k%6=4\/k%6=5)by omega)with h6|h6|h6|h6|h6
   ·rw[h6]at Y;go_upto_region 12 with fail
    have aA:=bAl m (.cells #[.int .i64 0,.int .i64 (-1),.int .i64 1000000000000,.int .i64 1000000000001] 3);have F:=DI m (.cells #[.int .i64 0,.int .i64 (-1),.int .i64 1000000000000,.int .i64 1000000000001] 3);have X:=d.out.below o aA;clear d;have d:Hid _:=X;have ae:=cZ g a n c l A _ (X.rd P.out);clear X;have bb:m.1.size< (m.alloc (.cells #[.int .i64 0,.int .i64 (-1),.int .i64 1000000000000,.int .i64 1000000000001] 3)).1.size:=by simp
    have an:g≠m.1.size:=by have:=aA;have:=d.out.lt;intro e;rw[<-e]at F;rw[d.out.box]at F;simp at F
    go_wp2_with fail;generalize m.alloc (.cells #[.int .i64 0,.int .i64 (-1),.int .i64 1000000000000,.int .i64 1000000000001] 3)=bF at*;generalize m.1.size=a6 at*;refine ae.mono ?_;rintro e aB ⟨rfl,on,x⟩;obtain⟨I,af⟩:=N.out A;generalize l.getD A 0=b at*;have h:=d.out.next o on x;have L:=(on.block a6 bb (DX an)).trans F;clear d ae on x F;have d:Hid _:=h;clear h;have C:b.tmod 4=b%4:=z6 I;have b1:=CV _ _ 0 _ _ _ L;have b2:=CV _ _ 1 _ _ _ L;have b3:=CV _ _ 2 _ _ _ L;have b4:=CV _ _ 3 _ _ _ L;have e0:=CV _ _ 0 _ _ _ d.out.su;have ag:=frozen_of_row _ _ 0 _ _ d.out.su;rcases(show b%4=0\/b%4=1\/b%4=2\/b%4=3 by omega)with h4|h4|h4|h4
    ·rw[h4]at C;have j:=d.out.set o 0 (.int .i64 0) (G':=0) (R':=R) (U':=U) (F':=y) rfl (by have:=r.out;unfold SuB;omega);have t:Hid _:=j;clear j;go_wp2_with fail
     go_meet
     rw[H.out,suG,BC u,BC h6];simp only[h4];exact t.out
    ·rw[h4]at C;have j:=d.out.set o 0 (.int .i64 (-1)) (G':= -1) (R':=R) (U':=U) (F':=y) rfl (by have:=r.out;unfold SuB;omega);have t:Hid _:=j;clear j;go_wp2_with fail
     go_meet
     rw[H.out,suG,BC u,BC h6];simp only[h4];exact t.out
    ·rw[h4]at C;have j:=d.out.set o 0 (.int .i64 1000000000000) (G':=1000000000000) (R':=R) (U':=U) (F':=y) rfl (by have:=r.out;unfold SuB;omega);have t:Hid _:=j;clear j;go_wp2_with fail
     go_meet
     rw[H.out,suG,BC u,BC h6];simp only[h4];exact t.out
    ·rw[h4]at C;have j:=d.out.set o 0 (.int .i64 1000000000001) (G':=1000000000001) (R':=R) (U':=U) (F':=y) rfl (by have:=r.out;unfold SuB;omega);have t:Hid _:=j;clear j;go_wp2_with fail
     go_meet
     rw[H.out,suG,BC u,BC h6];simp only[h4];exact t.out
   ·rw[h6]at Y;go_upto_region 14 with fail
    have aA:=bAl m (.cells #[.int .i64 1,.int .i64 1024,.int .i64 1025,.int .i64 2] 3);have F:=DI m (.cells #[.int .i64 1,.int .i64 1024,.int .i64 1025,.int .i64 2] 3);have X:=d.out.below o aA;clear d;have d:Hid _:=X;have ae:=cZ g a n c l A _ (X.rd P.out);clear X;have bb:m.1.size< (m.alloc (.cells #[.int .i64 1,.int .i64 1024,.int .i64 1025,.int .i64 2] 3)).1.size:=by simp
    have an:g≠m.1.size:=by have:=aA;have:=d.out.lt;intro e;rw[<-e]at F;rw[d.out.box]at F;simp at F
    go_wp2_with fail;generalize m.alloc (.cells #[.int .i64 1,.int .i64 1024,.int .i64 1025,.int .i64 2] 3)=bF at*;generalize m.1.size=a6 at*;refine ae.mono ?_;rintro e aB ⟨rfl,on,x⟩;obtain⟨I,af⟩:=N.out A;generalize l.getD A 0=b at*;have h:=d.out.next o on x;have L:=(on.block a6 bb (DX an)).trans F;clear d ae on x F;have d:Hid _:=h;clear h;have C:b.tmod 4=b%4:=z6 I;have b1:=CV _ _ 0 _ _ _ L;have b2:=CV _ _ 1 _ _ _ L;have b3:=CV _ _ 2 _ _ _ L;have b4:=CV _ _ 3 _ _ _ L;have T:=CV _ _ 2 _ _ _ d.out.su;have ak:=frozen_of_row _ _ 2 _ _ d.out.su;rcases(show b%4=0\/b%4=1\/b%4=2\/b%4=3 by omega)with h4|h4|h4|h4
    rw[h4]at C;have j:=d.out.set o 2 (.int .i64 1) (G':=G) (R':=R) (U':=1) (F':=y) rfl (by have:=r.out;unfold SuB;omega)
    rotate_left
    rw[h4]at C;have j:=d.out.set o 2 (.int .i64 1024) (G':=G) (R':=R) (U':=1024) (F':=y) rfl (by have:=r.out;unfold SuB;omega)
    rotate_left
    rw[h4]at C;have j:=d.out.set o 2 (.int .i64 1025) (G':=G) (R':=R) (U':=1025) (F':=y) rfl (by have:=r.out;unfold SuB;omega)
    rotate_left
    rw[h4]at C;have j:=d.out.set o 2 (.int .i64 2) (G':=G) (R':=R) (U':=2) (F':=y) rfl (by have:=r.out;unfold SuB;omega)
    all_goals
     have t:Hid _:=j;clear j;go_wp2_with fail
     go_meet
     rw[H.out,suG,BC u,BX t7,BC h6];simp only[h4];exact t.out
   ·rw[h6]at Y;go_upto_region 16 with fail
    have E:=d.out.below o (⟨rfl,rfl,rfl,t1,fun _ _=>rfl⟩:Below m.1.size m m.drew);clear d;have d:Hid _:=E;refine az (fun v=>v.cell? ⟨ob,2,none⟩=some (.int .i64 U)) (fun k=>decide (7<=k)) uA ?_;have cs:m.drew.cell? ⟨ob,2,none⟩=some (.int .i64 U):=CV _ _ 2 _ _ _ E.su;clear E;generalize m.drew=a4 at*;refine ai 0 cs ?_;refine ai 1 cs ?_;refine ai 2 cs ?_;refine ah 3 fun S D=> ?_;go_wp2_with fail;refine(cZ g a n c l A a4 (d.out.rd P.out)).mono ?_;rintro e aB ⟨rfl,on,x⟩;obtain⟨I,af⟩:=N.out A;generalize l.getD A 0=b at*;have h:=d.out.next o on x;clear d on x;have d:Hid _:=h;have B:aB.cell? ⟨ob,2,none⟩=some (.int .i64 U):=CV _ _ 2 _ _ _ h.su;clear h;have bk:b.tmod 2=b%2:=z6 I;go_wp2_with fail;refine D.out _ _ (fun _=>B) ?_;clear D S;have bS:IntKind.i64.wrap (U-b%2)=U-b%2:=by have:=r.out;simp[IntKind.wrap,IntKind.bits,IntKind.signed];omega
    refine ai 4 B ?_;refine ai 5 B ?_;refine ai 6 B ?_;refine ah 7 fun S D=> ?_;have O:=CV _ _ 1 _ _ _ d.out.su;have W:=frozen_of_row _ _ 1 _ _ d.out.su;have j:=d.out.set o 1 (.int .i64 (U-b%2)) (G':=G) (R':=U-b%2) (U':=U) (F':=y) rfl (by have:=r.out;unfold SuB;first|omega|(refine⟨t7,t7,t7,?_⟩;rcases(show b%2=0\/b%2=1 by omega)with hx|hx<;>rw[hx] <;>omega));have t:Hid _:=j;clear j;go_wp2_with fail;refine D.out _ _ (fun J=>absurd J uv) ?_;clear D S;refine bi ?_;go_wp2_with fail
    go_meet
    rw[H.out,suG,BC u,BX t7,BX t7,BC h6];exact t.out
   ·rw[h6]at Y;go_upto_region 18 with fail
    have E:=d.out.below o (⟨rfl,rfl,rfl,t1,fun _ _=>rfl⟩:Below m.1.size m m.drew);clear d;have d:Hid _:=E;refine az (fun v=>v.cell? ⟨ob,2,none⟩=some (.int .i64 U)) (fun k=>decide (8<=k)) uA ?_;have cs:m.drew.cell? ⟨ob,2,none⟩=some (.int .i64 U):=CV _ _ 2 _ _ _ E.su;clear E;generalize m.drew=a4 at*;refine ai 0 cs ?_;refine ai 3 cs ?_;refine ai 4 cs ?_;refine ah 1 fun S D=> ?_;go_wp2_with fail;refine(cZ g a n c l A a4 (d.out.rd P.out)).mono ?_;rintro e aB ⟨rfl,on,x⟩;obtain⟨I,af⟩:=N.out A;generalize l.getD A 0=b at*;have h:=d.out.next o on x;clear d on x;have d:Hid _:=h;have B:aB.cell? ⟨ob,2,none⟩=some (.int .i64 U):=CV _ _ 2 _ _ _ h.su;clear h;have bk:b.tmod 2=b%2:=z6 I;go_wp2_with fail;refine D.out _ _ (fun _=>B) ?_;clear D S;have b8:IntKind.i64.wrap (b%2*U)=b%2*U:=by have:=r.out;rcases(show b%2=0\/b%2=1 by omega)with hx|hx<;>rw[hx] <;>simp[IntKind.wrap,IntKind.bits,IntKind.signed] <;>omega
    have bS:IntKind.i64.wrap (1+b%2*U)=1+b%2*U:=by have:=r.out;rcases(show b%2=0\/b%2=1 by omega)with hx|hx<;>rw[hx] <;>simp[IntKind.wrap,IntKind.bits,IntKind.signed] <;>omega
    refine ai 2 B ?_;refine ai 5 B ?_;refine ai 6 B ?_;refine ai 7 B ?_;refine ah 8 fun S D=> ?_;have V:=CV _ _ 3 _ _ _ d.out.su;have ab:=frozen_of_row _ _ 3 _ _ d.out.su;have j:=d.out.set o 3 (.int .i64 (1+b%2*U)) (G':=G) (R':=R) (U':=U) (F':=1+b%2*U) rfl (by have:=r.out;unfold SuB;first|omega|(refine⟨t7,t7,t7,?_⟩;rcases(show b%2=0\/b%2=1 by omega)with hx|hx<;>rw[hx] <;>omega));have t:Hid _:=j;clear j;go_wp2_with fail;refine D.out _ _ (fun J=>absurd J uv) ?_;clear D S;refine bi ?_;go_wp2_with fail
    go_meet
    rw[H.out,suG,BC u,BX t7,BX t7,BX t7,BC h6];exact t.out
   ·have t0:(k%6==0)=false:=by rcases h6 with J|J<;>simp[J]
    have a3:(k%6==1)=false:=by rcases h6 with J|J<;>simp[J]
    have ch:(k%6==2)=false:=by rcases h6 with J|J<;>simp[J]
    have cj:(k%6==3)=false:=by rcases h6 with J|J<;>simp[J]
    have O:=CV _ _ 1 _ _ _ d.out.su;have W:=frozen_of_row _ _ 1 _ _ d.out.su;have j:=d.out.set o 1 (.int .i64 (-1)) (G':=G) (R':= -1) (U':=U) (F':=y) rfl (by have:=r.out;unfold SuB;omega);have t:Hid _:=j;clear j;go_wp2_with fail
    go_meet
    rw[H.out,suG,BC u,BX t7,BX t7,BX t7,BX t7];exact t.out
  ·have bA:k<220:=t7;go_wp2_with fail
   go_meet
   rw[H.out,suG,BX t7];exact d.out
 case rest=>
 clear d H;have h:=hcut;clear hcut;generalize aS:Z.1.1=G at h;generalize z:Z.1.2.1=R at h;generalize aT:Z.1.2.2.1=U at h;generalize ac:Z.1.2.2.2=y at h;generalize bc:Z.2=bY at h;have ad:Hid (Z.1.1=G/\Z.1.2.1=R/\Z.1.2.2.1=U/\Z.1.2.2.2=y/\Z.2=bY):=⟨aS,z,aT,ac,bc⟩;clear aS z aT ac bc;obtain⟨cc,s⟩:=aa wc;subst s;have d:Hid _:=h;clear h;have z:=d.out.res;have e0:=CV _ _ 0 _ _ _ d.out.su;have O:=CV _ _ 1 _ _ _ d.out.su;have T:=CV _ _ 2 _ _ _ d.out.su;have V:=CV _ _ 3 _ _ _ d.out.su;have ag:=frozen_of_row _ _ 0 _ _ d.out.su;have W:=frozen_of_row _ _ 1 _ _ d.out.su;have ak:=frozen_of_row _ _ 2 _ _ d.out.su;have ab:=frozen_of_row _ _ 3 _ _ d.out.su;have l0:=CV _ _ 0 _ _ _ z;have bT:=CV _ _ 1 _ _ _ z;have bW:=CV _ _ 2 _ _ _ z;have bX:=CV _ _ 3 _ _ _ z;have a5:=frozen_of_row _ _ 0 _ _ z;have f1:=frozen_of_row _ _ 1 _ _ z;have ce:=frozen_of_row _ _ 2 _ _ z;have cf:=frozen_of_row _ _ 3 _ _ z;clear z;go_wp2;refine BB (v:= .agg #[.int .i64 G,.int .i64 R,.int .i64 U,.int .i64 y]) (by simp[results,results91,go_sem,l0,bT,bW,bX]) rfl ?_;rw[ad.out.1,ad.out.2.1,ad.out.2.2.1,ad.out.2.2.2.1,ad.out.2.2.2.2];exact⟨rfl,d.out.bd,Ic P.out o d.out⟩
