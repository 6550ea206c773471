import Derived.Test.YtnohmedccbogkaaGreatDoorCo36
import Derived.Test.YtnohmedccbogkaaGreatDoorCo39
import Derived.Test.YtnohmedccbogkaaGreatDoorCo12
namespace Go.Proofs.YtnohmedccbogkaaGreatDoor
open Go.Proofs.Tryz
open Go.RowKit
set_option linter.unusedVariables false
set_option maxRecDepth 100000
set_option maxHeartbeats 32000000
noncomputable def cnC(es:List (ByteArray×ByteArray))(p:List Int×Int):List Value:=if 0<=p.2/\p.2<256 then coC (vOf (gtE es (kyC p)))else co0
noncomputable def cnB(es:List (ByteArray×ByteArray))(p:List Int×Int):Bool:=if 0<=p.2/\p.2<256 then decide (eF (vOf (gtE es (kyC p))))else false
theorem AS{es p}(a:0<=p.2)(b:p.2<256):cnC es p=coC (vOf (gtE es (kyC p)))/\cnB es p=decide (eF (vOf (gtE es (kyC p)))):=⟨qb ⟨a,b⟩,qb ⟨a,b⟩⟩
theorem AU{es p}(h:¬(0<=p.2/\p.2<256)):cnC es p=co0/\cnB es p=false:=⟨q4 h,q4 h⟩
theorem AV(es p):∃a b c,cnC es p=[.int .i64 a,.int .i64 b,.bool c]:=by
 unfold cnC;split
 ·exact tN _
 ·exact⟨0,0,false,rfl⟩
theorem AX:coC (strOfNums [])=co0/\decide (eF (strOfNums []))=false:=l9 (fun h=>absurd h.1 kN)
theorem nC(a g x y z):OnlyB g a (coS a g x y z):=((aB a g 0 x).trans (aB _ g 1 y)).trans (aB _ g 2 z)
structure CoT(Z:Nat->Prop)(F:World->Prop)(w u:World)(g:Nat):Prop where
 c0:u.cell? ⟨g,0,none⟩=some (.int .i64 0)
 c1:u.cell? ⟨g,1,none⟩=some (.int .i64 0)
 c2:u.cell? ⟨g,2,none⟩=some (.bool false)
 f0:u.frozen? ⟨g,0,none⟩=false
 f1:u.frozen? ⟨g,1,none⟩=false
 f2:u.frozen? ⟨g,2,none⟩=false
 fin:∀x y z,(OnlyS Z w (coS u g x y z)/\F (coS u g x y z))/\Blk (coS u g x y z) 48 g [x,y,z]
theorem L7{K root B B0 gw w c d g}(k0:Blk c 48 g co0)(f:Below w.1.size w c)(j:w.1.size<=g)(i:B0<=w.1.size)(b:OnlyS (fun k=>B<=k/\k<B0) c d)(n:WoT K root B B0 gw d):CoT (fun k=>B<=k/\k<B0) (WoT K root B B0 gw) w d g:=by
 have a:=k0.onlyS b kH;have m:=f.size;have h:=b.size;refine⟨a.cell 0,a.cell 1,a.cell 2,a.free 0,a.free 1,a.free 2,fun x y z=>⟨⟨?_,?_⟩,((a.set 0 x).set 1 y).set 2 z⟩⟩
 ·exact((OnlyS.ofBelow f).trans b).transN (OnlyS.ofB (nC d g x y z)) (fun k l e=>by omega)
 ·exact n.keep ((nC d g x y z).below kH kH) (aV (nC d g x y z) a kN)
theorem AY{K L root E z B B0 gw}(p)(A:p.1.length=32)(M:IsB p.1){am w d}(ah:RDisk am d K)(P:whB K L root E z=true)(n:WoT K root B B0 gw w):
 Calls prog 48 #[.pointer (some ⟨gw,0,none⟩),.agg (pc p).toArray] w fun e w'=>e= .returned (.tuple #[.agg (cnC (enL K root) p).toArray,.bool (cnB (enL K root) p)])/\OnlyS (fun k=>B<=k/\k<B0) w w'/\WoT K root B B0 gw w':=by
 obtain⟨h,g⟩:∃ab,ab=w.alloc (.cells (pc p).toArray 52):=⟨_,rfl⟩;obtain⟨m,i⟩:∃ab,ab=h.alloc (.cells #[.int .i64 0,.int .i64 0,.bool false] 48):=⟨_,rfl⟩;have C:Below w.1.size w h:=by rw[g];exact bAl _ _
 have q:Below h.1.size h m:=by rw[i];exact bAl _ _
 have W:h.1.size=w.1.size+1:=by rw[g];simp
 have D:=C.trans (q.mono C.size);have o:=(by rw[g];exact ao w 52 (pc p).toArray:Blk h 52 w.1.size (pc p)).below q;have Q:Blk m 48 (w.1.size+1) co0:=by rw[i,<-W];exact ao h 48 co0.toArray
 have J:=(o.cell 32).trans (jC p A);have ai:(prog.info? 52).map (·.size)=some (pc p).toArray.size:=by rw[k8,dS p A];exact gl
 have N:=n.le;have I:Hid (∀X,OnlyS (fun k=>B<=k/\k<B0) m X->WoT K root B B0 gw X->CoT (fun k=>B<=k/\k<B0) (WoT K root B B0 gw) w X (w.1.size+1)):=fun X b aO=>L7 Q D kH N.2 b aO;have r:Hid _:=n.below D;have l:=fun w n=>Ay (B:=B) (B0:=B0) (gw:=gw) (kyC p) (w:=w) ah P n;simp only[tT]at l;have Z:Hid _:=l;clear C q D Q n l;go_enter func48,ntmps48;go_upto_region 1 with fail
 change Code.wp _ _ _ _ ((w.alloc (.cells (pc p).toArray 52)).alloc (.cells #[.int .i64 0,.int .i64 0,.bool false] 48));rw[<-g,<-i];clear g i W;by_cases j:¬(0<=p.2/\p.2<256)
 ·have f:Hid _:=AU (es:=enL K root) j;have G:=I.out m (OnlyS.refl _ _) r.out;have c:Hid _:=G;obtain⟨ac,ad,ae,af,f1,ag,_⟩:=G;by_cases aH:p.2<0
  ·clear j o;go_wp2_with fail;refine p6 (v:= .tuple #[.agg co0.toArray,.bool false]) ?_ rfl ⟨by rw[f.out.1,f.out.2],(c.out.fin _ _ _).1⟩;exact bA results48 _ _ (w.1.size+1) 48 co0.toArray _ rfl (c.out.fin _ _ _).2 r4 rfl dV rfl
  ·have O:¬p.2<256:=kH;clear j o;go_wp2_with fail;refine p6 (v:= .tuple #[.agg co0.toArray,.bool false]) ?_ rfl ⟨by rw[f.out.1,f.out.2],(c.out.fin _ _ _).1⟩;exact bA results48 _ _ (w.1.size+1) 48 co0.toArray _ rfl (c.out.fin _ _ _).2 r4 rfl dV rfl
 have a:0<=p.2/\p.2<256:=kH;have aw:¬p.2<0:=kH;have O:=a.2;have F:=rp p A M a.1 a.2 m;have f:Hid _:=AS (es:=enL K root) a.1 a.2;clear j a;generalize vOf (gtE (enL K root) (kyC p))=s at*;generalize (gtE (enL K root) (kyC p)).isSome=sb at*;go_wp2_with (refine qi rfl 52 _ rfl w.1.size rfl 52 (pc p).toArray (0,0) _ o r9 rfl ai ?_);refine F.mono ?_;rintro e an ⟨rfl,x⟩;have l:=Z.out an (r.out.below x);have Y:Hid _:=x;clear F x o J;go_wp2_with fail;refine l.mono ?_;rintro e ap ⟨rfl,R,S⟩;have u:=KS s ap;have H:=kG ((OnlyS.ofBelow Y.out).trans R) S;clear l R S;obtain⟨T,U,V,t⟩:=tN s;rw[t]at u f;clear t;generalize decide (eF s)=ak at*;go_wp2_with fail;refine u.mono ?_;rintro e ar ⟨rfl,y⟩;have G:=I.out ar (H.out.1.trans (OnlyS.ofBelow y)) (H.out.2.below y);have c:Hid _:=G;obtain⟨ac,ad,ae,af,f1,ag,_⟩:=G;clear u y;go_wp2_with fail;refine p6 (v:= .tuple #[.agg #[.int .i64 T,.int .i64 U,.bool V],.bool ak]) ?_ rfl ⟨by rw[f.out.1,f.out.2],(c.out.fin _ _ _).1⟩;exact bA results48 _ _ (w.1.size+1) 48 #[.int .i64 T,.int .i64 U,.bool V] _ rfl (c.out.fin _ _ _).2 r4 rfl dV rfl
theorem AZ(es)(U:(es.map (·.1)).Pairwise (fun a b=>sl a b=true))(S:es.length<=1048576)(a c B p)(F:p.1.length=32)(R:IsB p.1)(w)(h:ORow 93 2 B w a es.length c (enF es)):
 Calls prog 46 #[.slice a es.length c,.agg (pc p).toArray] w fun e w'=>e= .returned (.tuple #[.agg (cnC es p).toArray,.bool (cnB es p)])/\Below w.1.size w w':=by
 obtain⟨m,k⟩:∃ac,ac=w.alloc (.cells (pc p).toArray 52):=⟨_,rfl⟩;obtain⟨j,n⟩:∃ac,ac=m.alloc (.cells #[.int .i64 0,.int .i64 0,.bool false] 48):=⟨_,rfl⟩;have G:Below w.1.size w m:=by rw[k];exact bAl _ _
 have u:Below m.1.size m j:=by rw[n];exact bAl _ _
 have Z:m.1.size=w.1.size+1:=by rw[k];simp
 have H:=G.trans (u.mono G.size);have t:=(by rw[k];exact ao w 52 (pc p).toArray:Blk m 52 w.1.size (pc p)).below u;have V:Blk j 48 (w.1.size+1) co0:=by rw[n,<-Z];exact ao m 48 co0.toArray
 have O:=(t.cell 32).trans (jC p F);have ae:(prog.info? 52).map (·.size)=some (pc p).toArray.size:=by rw[k8,dS p F];exact gl
 have D:Hid (∀x,Below j.1.size j x->CoE w x (w.1.size+1)):=fun x b=>ma V H kH b;have ab:Hid (∀x,Below j.1.size j x->Calls prog 57 #[.slice a es.length c,.string (kyC p)] x fun e w'=>e= .returned (gtV (gtE es (kyC p)))/\w'=x):=fun x b=>tS es U S a c B (kyC p) x ((h.below H).below b);clear G u H V h U;go_enter func46,ntmps46;go_upto_region 1 with fail
 change Code.wp _ _ _ _ ((w.alloc (.cells (pc p).toArray 52)).alloc (.cells #[.int .i64 0,.int .i64 0,.bool false] 48));rw[<-k,<-n];clear k n Z;by_cases q:¬(0<=p.2/\p.2<256)
 ·have i:Hid _:=AU (es:=es) q;have y:=D.out j kF;have d:Hid _:=y;obtain⟨L,M,N,P,f1,Q,_⟩:=y;by_cases ak:p.2<0
  ·clear q t;go_wp2_with fail;refine p6 (v:= .tuple #[.agg co0.toArray,.bool false]) ?_ rfl ⟨by rw[i.out.1,i.out.2],(d.out.fin _ _ _).1⟩;exact bA results46 _ _ (w.1.size+1) 48 co0.toArray _ rfl (d.out.fin _ _ _).2 r4 rfl dV rfl
  ·have T:255<p.2:=kH;clear q t;go_wp2_with fail;refine p6 (v:= .tuple #[.agg co0.toArray,.bool false]) ?_ rfl ⟨by rw[i.out.1,i.out.2],(d.out.fin _ _ _).1⟩;exact bA results46 _ _ (w.1.size+1) 48 co0.toArray _ rfl (d.out.fin _ _ _).2 r4 rfl dV rfl
 have f:0<=p.2/\p.2<256:=kH;have ai:¬p.2<0:=kH;have T:¬255<p.2:=kH;have J:=rq p F R f.1 f.2 j;have i:Hid _:=AS (es:=es) f.1 f.2;clear q f;go_wp2_with (refine qi rfl 52 _ rfl w.1.size rfl 52 (pc p).toArray (0,0) _ t r9 rfl ae ?_);refine J.mono ?_;rintro e I ⟨rfl,E⟩;have l:=ab.out I E;have C:Hid _:=E;clear J E t O;generalize gtE es (kyC p)=o at*;cases o with
 |none=>
  have g:Hid (cnC es p=co0/\cnB es p=false):=⟨i.out.1.trans AX.1,i.out.2.trans AX.2⟩;unfold gtV at l;go_wp2_with fail;refine l.mono ?_;rintro e ag ⟨rfl,r⟩;obtain rfl:=r.symm;clear r l;have y:=D.out I C.out;have d:Hid _:=y;obtain⟨L,M,N,P,f1,Q,_⟩:=y;go_wp2_with fail;refine p6 (v:= .tuple #[.agg co0.toArray,.bool false]) ?_ rfl ⟨by rw[g.out.1,g.out.2],(d.out.fin _ _ _).1⟩;exact bA results46 _ _ (w.1.size+1) 48 co0.toArray _ rfl (d.out.fin _ _ _).2 r4 rfl dV rfl
 |some ad=>
  obtain⟨am,s⟩:=ad;have g:Hid (cnC es p=coC s/\cnB es p=decide (eF s)):=i.out;unfold gtV at l;dsimp only at l;go_wp2_with fail;refine l.mono ?_;rintro e ag ⟨rfl,r⟩;obtain rfl:=r.symm;clear r l i;have A:=LK s I;obtain⟨W,X,Y,z⟩:=tN s;rw[z]at A g;clear z;generalize decide (eF s)=af at*;go_wp2_with fail;refine A.mono ?_;rintro e ah ⟨rfl,K⟩;have y:=D.out ah (C.out.trans (K.mono C.out.size));have d:Hid _:=y;obtain⟨L,M,N,P,f1,Q,_⟩:=y;clear A K;go_wp2_with fail;refine p6 (v:= .tuple #[.agg #[.int .i64 W,.int .i64 X,.bool Y],.bool af]) ?_ rfl ⟨by rw[g.out.1,g.out.2],(d.out.fin _ _ _).1⟩;exact bA results46 _ _ (w.1.size+1) 48 #[.int .i64 W,.int .i64 X,.bool Y] _ rfl (d.out.fin _ _ _).2 r4 rfl dV rfl
def bV(V:Nat->Int):Nat->Int
 |0=>0
 |n+1=>bV V n+V n
theorem li{V m}(h:∀i,i<m->0<=V i/\V i<=1000000000000):∀n,n<=m->0<=bV V n/\bV V n<=1000000000000*n
 |0,_=>by simp[bV]
 |n+1,c=>by
  have a:=li h n kH;have b:=h n kH;unfold bV;omega
theorem A0(a n c V w)(h:RRow w 1 a n c (eg V))(f:∀i,i<n->0<=V i/\V i<=1000000000000)(v:n<=1048576):
 Calls prog 131 #[.slice a n c] w fun e w'=>e= .returned (.int .i64 (bV V n))/\w'=w:=by
 go_enter func131,ntmps131;go_wp2_with fail;go_loopw [3,8] (fun s i wr=> ∃j:Nat,s= .int .i64 (bV V j)/\i= .int .i64 (j:Nat)/\j<=n/\wr=w) (fun _ i _=>n-(intOf i).toNat)
 case atStart=>exact⟨0,rfl,rfl,kX _,rfl⟩
 case round=>
  obtain⟨j,rfl,rfl,o,l⟩:=hrel;obtain rfl:=l.symm;clear l;have u:=li f j o;by_cases d:j<n
  ·have p:(j:Int)< (n:Int):=kH;obtain⟨b,off,rfl,q,g⟩:=h.at_ kH;have r:w.cell? ⟨b,off+j,none⟩=some (.int .i64 (V j)):=by have:=g j 0 d kH;simpa [eg]using this
   have z:=f j d;have m:Hid (bV V j+V j=bV V (j+1)):=rfl;clear h g;generalize V j=x at*;generalize bV V j=y at*;go_wp2_with fail;go_roundw
   case rel=>exact⟨j+1,by rw[<-m.out],by go_num,kH,trivial⟩
   case measure=>simp[intOf];omega
  ·have k:j=n:=kH;subst k;have t:¬(j:Int)< (j:Int):=kH;clear h f;go_wp2_with fail;go_ret;exact⟨rfl,rfl⟩
theorem tY(a n c V w)(h:RRow w 1 a n c (eg V))(f:∀i,i<n->0<=V i/\V i<=1000000000000)(v:n<=1048576):
 Calls prog 115 #[.slice a n c] w fun e w'=>e= .returned (.int .i64 (bV V n))/\w'=w:=by
 go_enter func115,ntmps115;go_wp2_with fail;go_loopw [3,4] (fun s i wr=> ∃j:Nat,s= .int .i64 (bV V j)/\i= .int .i64 (j:Nat)/\j<=n/\wr=w) (fun _ i _=>n-(intOf i).toNat)
 case atStart=>exact⟨0,rfl,rfl,kX _,rfl⟩
 case round=>
  obtain⟨j,rfl,rfl,o,l⟩:=hrel;obtain rfl:=l.symm;clear l;have u:=li f j o;by_cases d:j<n
  ·have p:(j:Int)< (n:Int):=kH;obtain⟨b,off,rfl,q,g⟩:=h.at_ kH;have r:w.cell? ⟨b,off+j,none⟩=some (.int .i64 (V j)):=by have:=g j 0 d kH;simpa [eg]using this
   have z:=f j d;have m:Hid (bV V j+V j=bV V (j+1)):=rfl;clear h g;generalize V j=x at*;generalize bV V j=y at*;go_wp2_with fail;go_roundw
   case rel=>exact⟨j+1,by rw[<-m.out],by go_num,kH,trivial⟩
   case measure=>simp[intOf];omega
  ·have k:j=n:=kH;subst k;have t:¬(j:Int)< (j:Int):=kH;clear h f;go_wp2_with fail;go_ret;exact⟨rfl,rfl⟩
def nD(v h:Int)(b:Bool):List Int:=num v 8++num h 4++[if b then 1 else 0]
def coT(v h:Int)(b:Bool):ByteArray:=strOfNums (nD v h b)
theorem A3(v h b):IsB (nD v h b):=cY (cY (fL v 8) (fL h 4)) (by cases b<;>exact fw kN kN)
theorem L8{s}(h:eF s):coT (low ((nb s).take 7)) (low (((nb s).drop 8).take 4)) ((nb s).getD 12 0==1)=s:=by
 obtain⟨y,w,t,_,_,_⟩:=h;have p:=jB s;have x:(nb s).length=13:=by rw[gd,y]
 have key:nD (low ((nb s).take 7)) (low (((nb s).drop 8).take 4)) ((nb s).getD 12 0==1)=nb s:=by
  generalize nb s=l at*;obtain⟨d,e,f,g,i,j,k,o,m,n,b,c,a,rfl⟩:∃d e f g i j k o m n b c a,l=[d,e,f,g,i,j,k,o,m,n,b,c,a]:=by
   match l,x with
   |[d,e,f,g,i,j,k,o,m,n,b,c,a],_=>exact⟨d,e,f,g,i,j,k,o,m,n,b,c,a,rfl⟩
  have u:o=0:=w;have v:a<=1:=t;have C:0<=a/\a<256:=p 12;have B:num (low [d,e,f,g,i,j,k]) 7=[d,e,f,g,i,j,k]:=jX (l:=[d,e,f,g,i,j,k]) (dR p 7);have A:num (low [m,n,b,c]) 4=[m,n,b,c]:=jX (l:=[m,n,b,c]) (dR (ff p 8) 4);have q:=gG (l:=[d,e,f,g,i,j,k]) (dR p 7);show num (low [d,e,f,g,i,j,k]) 8++num (low [m,n,b,c]) 4++[if(a==1)=true then 1 else 0]= _;have r:(if(a==1)=true then(1:Int)else 0)=a:=by
   rcases(by omega:a=0\/a=1)with h|h<;>subst h<;>rfl
  rw[ln,B,A,r,u];have z:low [d,e,f,g,i,j,k]/256^7%256=0:=by
   rw[Int.ediv_eq_zero_of_lt q.1 (show low [d,e,f,g,i,j,k] <256^7 from q.2)]
   rfl
  rw[z]
  rfl
 unfold coT;rw[key,DW]
theorem A4(v h b)(D:0<=v)(S:v<=1000000000000)(C:0<=h)(R:h<=4294967295)(w):
 Calls prog 134 #[.agg #[.int .i64 v,.int .i64 h,.bool b]] w fun e w'=>e= .returned (.string (coT v h b))/\Below w.1.size w w':=by
 obtain⟨a,c⟩:∃T,T=w.alloc (.cells #[.int .i64 v,.int .i64 h,.bool b] 48):=⟨_,rfl⟩;have H:Below w.1.size w a:=by rw[c];exact bAl _ _
 have k0:Blk a 48 w.1.size [.int .i64 v,.int .i64 h,.bool b]:=by rw[c];exact ao w _ _
 have L:a.cell? ⟨w.1.size,0,none⟩=some (.int .i64 v):=k0.cell 0;have p:=lp a.1.size none 0 0 [] v 8 a (gR _ _) kE kH D kH kH;simp only[ld,m7]at p;have f:Hid _:=A3 v h b;unfold nD at f;have x:Hid (coT v h b=strOfNums (num v 8++num h 4++[if b then 1 else 0])):=rfl;have d:=kG H k0;clear H k0;go_enter func134,ntmps134;go_upto_region 1 with fail
 change Code.wp _ _ _ _ (w.alloc (.cells #[.int .i64 v,.int .i64 h,.bool b] 48));rw[<-c];clear c;go_wp2_with fail;refine p.mono ?_;rintro e w1 ⟨J,M,rfl,k,F⟩;have A:w1.cell? ⟨w.1.size,1,none⟩=some (.int .i64 h):=(d.out.2.below k).cell 1;have u:=lp a.1.size J 8 M (num v 8) h 4 w1 F k.size kH C kH kH;have I:Hid _:=k;clear p k F L;go_wp2_with fail;refine u.mono ?_;rintro e i ⟨y,B,rfl,z,G⟩;have j:=I.out.trans z;have Q:i.cell? ⟨w.1.size,2,none⟩=some (.bool b):=(d.out.2.below j).cell 2;have l:Hid _:=j;have m:Hid _:=G;have o:=j.size;clear u z G A j;generalize num v 8++num h 4=E at*;cases b with
 |true=>
  have s:=Own.below m.out (kF.alloc kE (.cells #[.int .u8 1] 5));have q:=cZ i 1 kH kH;have g:a.1.size<=(i.alloc (.cells #[.int .u8 1] 5)).1.size:=by simp;omega
  go_wp2_with (at_builtin;refine db rfl _ _ rfl a.1.size y 12 B E rfl s _ 1 1 [1] rfl q kH g ?_;rintro K N P t r _;have O:=aP (n:=13) (t.bs f.out));go_ret;rw[x.out];exact⟨rfl,d.out.1.trans (((l.out.alloc (k2 kE o) _).trans r).mono d.out.1.size)⟩
 |false=>
  have s:=Own.below m.out (kF.alloc kE (.cells #[.int .u8 0] 5));have q:=cZ i 0 kH kH;have g:a.1.size<=(i.alloc (.cells #[.int .u8 0] 5)).1.size:=by simp;omega
  go_wp2_with (at_builtin;refine db rfl _ _ rfl a.1.size y 12 B E rfl s _ 1 1 [0] rfl q kH g ?_;rintro K N P t r _;have O:=aP (n:=13) (t.bs f.out));go_ret;rw[x.out];exact⟨rfl,d.out.1.trans (((l.out.alloc (k2 kE o) _).trans r).mono d.out.1.size)⟩
theorem L9(v h b)(X:0<=v)(ar:v<=1000000000000)(V:0<=h)(ap:h<=4294967295)(w):
 Calls prog 70 #[.agg #[.int .i64 v,.int .i64 h,.bool b]] w fun e w'=>e= .returned (.string (coT v h b))/\Below w.1.size w w':=by
 obtain⟨a,l⟩:∃aw,aw=w.alloc (.cells #[.int .i64 v,.int .i64 h,.bool b] 48):=⟨_,rfl⟩;have ad:Below w.1.size w a:=by rw[l];exact bAl _ _
 have k0:Blk a 48 w.1.size [.int .i64 v,.int .i64 h,.bool b]:=by rw[l];exact ao w _ _
 have p:Hid _:=A3 v h b;unfold nD at p;have O:Hid (coT v h b=strOfNums (num v 8++num h 4++[if b then 1 else 0])):=rfl;have o:=kG ad k0;have j:Hid (∀K,Below a.1.size a K->K.cell? ⟨w.1.size,0,none⟩=some (.int .i64 v)/\K.cell? ⟨w.1.size,1,none⟩=some (.int .i64 h)):=fun K W=>⟨(k0.below W).cell 0,(k0.below W).cell 1⟩;obtain⟨c,r⟩:∃c,c=a.drew:=⟨_,rfl⟩;have B0:Hid (Below a.1.size a c):=by show Below a.1.size a c;rw[r];exact⟨rfl,rfl,rfl,kE,fun _ _=>rfl⟩
 have d:=j.out _ B0.out;have L:=i8 v 8 c X kH kH;clear ad k0;go_enter func70,ntmps70;go_upto_region 1 with fail
 change Code.wp _ _ _ _ (w.alloc (.cells #[.int .i64 v,.int .i64 h,.bool b] 48));rw[<-l];clear l;refine ay (fun K=>K.cell? ⟨w.1.size,0,none⟩=some (.int .i64 v)/\K.cell? ⟨w.1.size,1,none⟩=some (.int .i64 h)) (fun k=>decide (8<=k)) kO ?_;rw[<-r];clear r;refine aa 0 d ?_;refine aa 1 d ?_;refine aa 3 d ?_;refine aa 4 d ?_;refine aj 2 fun q f=> ?_;go_wp2_with fail;refine L.mono ?_;rintro e w1 ⟨ae,ag,rfl,J,ac⟩;have D:Hid (Below a.1.size a w1):=B0.out.trans (J.mono B0.out.size);have T:=j.out _ D.out;have M:=i8 h 4 w1 V kH kH;have Y:=J.size;clear L J;go_wp2_with fail;refine al f ?_;clear f q;refine aj 5 fun q f=> ?_;go_wp2_with fail;refine M.mono ?_;rintro e am ⟨aH,ah,rfl,u,G⟩;obtain⟨g2,rfl⟩:=tW G kH;have N:Hid (Below a.1.size a am):=D.out.trans (u.mono D.out.size);have U:=j.out _ N.out;have P:=G.bs (fL h 4);have C:=ac.below u;have Z:=k2 Y u.size;clear M G u ac;go_wp2_with fail;refine al f ?_;clear f q;refine aT 6 kO rfl (fun q f=> ?_);refine fO rfl _ _ rfl c.1.size ae 8 ag (num v 8) rfl C g2 4 ah (num h 4) rfl P kH Z ?_;intro Q S i t R _;have m:Hid (Below a.1.size a i):=N.out.trans (R.mono B0.out.size);have z:=j.out _ m.out;refine al f ?_;clear f q R C P;refine aa 7 z ?_;refine ax ?_;have aO:i.cell? ⟨w.1.size,2,none⟩=some (.bool b):=(o.out.2.below m.out).cell 2;have B:=m.out.size;have A:=B0.out.size;have y:Hid (c.1.size<=i.1.size):=by
  obtain⟨g,rfl⟩:=tW t kH;have:=qX t g rfl;show c.1.size<=i.1.size;omega
 have x:Hid _:=t;clear t d T U z;generalize num v 8++num h 4=ab at*;cases b with
 |true=>
  have H:=Own.below x.out (kF.alloc kE (.cells #[.int .u8 1] 5));have E:=cZ i 1 kH kH;have s:c.1.size<=(i.alloc (.cells #[.int .u8 1] 5)).1.size:=by have:=y.out;simp;omega
  go_wp2_with (at_builtin;refine db rfl _ _ rfl c.1.size Q 12 S ab rfl H _ 1 1 [1] rfl E kH s ?_;rintro af ai an I F _;have ak:=aP (n:=13) (I.bs p.out));go_ret;rw[O.out];exact⟨rfl,o.out.1.trans (((m.out.alloc B _).trans (F.mono A)).mono o.out.1.size)⟩
 |false=>
  have H:=Own.below x.out (kF.alloc kE (.cells #[.int .u8 0] 5));have E:=cZ i 0 kH kH;have s:c.1.size<=(i.alloc (.cells #[.int .u8 0] 5)).1.size:=by have:=y.out;simp;omega
  go_wp2_with (at_builtin;refine db rfl _ _ rfl c.1.size Q 12 S ab rfl H _ 1 1 [0] rfl E kH s ?_;rintro af ai an I F _;have ak:=aP (n:=13) (I.bs p.out));go_ret;rw[O.out];exact⟨rfl,o.out.1.trans (((m.out.alloc B _).trans (F.mono A)).mono o.out.1.size)⟩
