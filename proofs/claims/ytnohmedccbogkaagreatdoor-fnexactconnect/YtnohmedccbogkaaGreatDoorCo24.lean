import Derived.Test.YtnohmedccbogkaaGreatDoorCo21
import Derived.Test.YtnohmedccbogkaaGreatDoorCo22
namespace Go.Proofs.YtnohmedccbogkaaGreatDoor
open Go.Proofs.Tryz
open Go.RowKit
set_option linter.unusedVariables false
set_option maxRecDepth 100000
set_option maxHeartbeats 32000000
theorem zN{r}(hr:∀d id e c,r d id=some (e,c)->(aM e).length<=256*(bB e).length):∀(ls:List (ByteArray×Int))(d:St)(e:Tr)(c:St),rdK r ls d=some (e,c)->(aM e).length<=256*(bB e).length
 |[],d,e,c,h=>by rw[rdK]at h;cases h;simp[aM]
 |(s,id)::ls,d,e,c,h=>by
  rw[rdK]at h;obtain⟨x,f,g⟩:=m5.1 h;obtain⟨y,i,j⟩:=m5.1 g;cases j;have a:=hr d id x.1 x.2 f;have b:=zN hr ls x.2 y.1 y.2 i;rw[aM,bB,kY,kY];omega
theorem tK{P}(g:∀d,(P.bd d).length<=256):∀(f:Nat)(steps:Int)(a:St)(id:Int)(d:Tr)(b:St),rdT P f steps a id=some (d,b)->(aM d).length<=256*(bB d).length
 |0,steps,a,id,d,b,h=>by rw[rdT]at h;cases h
 |f+1,steps,a,id,d,b,h=>by
  rw[rdT]at h;cases k:eB P a id with
  |false=>rw[q4 (by rw[k];decide)]at h;cases h
  |true=>
   rw[qb k]at h;by_cases j:P.kd id=2
   ·rw[qb j]at h;by_cases l:a.tall<0\/a.tall=steps
    ·rw[qb l]at h;obtain⟨es,e,c⟩:=m5.1 h;by_cases i:es.isEmpty=true
     ·rw[qb i]at c;cases c
     ·rw[q4 i]at c;cases c;have o:=(pW _ _ es kE e).1;have:=g id;simp[aM,bB];omega
    ·rw[q4 l]at h;cases h
   ·rw[q4 j]at h;obtain⟨ls,e,c⟩:=m5.1 h;obtain⟨y,m,n⟩:=n7.1 c;cases n;have:=zN (fun a id d b=>tK g f (steps+1) a id d b) ls ⟨id::a.seen,a.tall⟩ y.1 y.2 m;rw[aM,bB,m1];omega
def enO:Option Tr->List (ByteArray×ByteArray)
 |none=>[]
 |some T=>aM T
noncomputable def enL(K:DK)(root:Int):List (ByteArray×ByteArray):=match ldT K root with|none=>[]|some x=>enO x
theorem Kt(g a n c w):Calls prog 146 #[.pointer (some ⟨g,0,none⟩),.int .i64 (-1),.slice a n c] w fun e w'=>e= .returned (.slice a n c)/\w'=w:=by
 go_enter func146,ntmps146;go_wp2_with fail;go_ret;exact⟨rfl,rfl⟩
theorem Ku(d K root w)(h:RDisk w d K):
 Calls prog 79 #[bC d K,.int .i64 root] w fun e w'=> ∃a c,e= .returned (.tuple #[.slice a (enL K root).length c,.bool (tpB K root)])/\Below w.1.size w w'/\ORow 93 2 w.1.size w' a (enL K root).length c (enF (enL K root))/\(enL K root).length<=262144:=by
 obtain⟨t,n⟩:∃a1,a1=w.alloc (.cells #[.slice d.sa K.n d.sc,.slice d.pa K.m d.pc] 37):=⟨_,rfl⟩;obtain⟨B,m⟩:∃a1,a1=t.alloc (.cells #[] 93):=⟨_,rfl⟩;have Z:Below w.1.size w t:=by rw[n];exact bAl _ _
 have q:Below t.1.size t B:=by rw[m];exact bAl _ _
 have ac:t.1.size=w.1.size+1:=by rw[n];simp
 have aw:=(by rw[n];exact ao w _ _:Blk t 37 w.1.size [.slice d.sa K.n d.sc,.slice d.pa K.m d.pc]).below q;have aH:ORow 93 2 w.1.size B (some ⟨w.1.size+1,0,none⟩) 0 0 (enF []):=by rw[m,<-ac];exact mo _ _ _ _ kH _
 have G:=Z.trans (q.mono Z.size);have a5:(prog.info? 37).map (·.size)=some (#[Value.slice d.sa K.n d.sc,Value.slice d.pa K.m d.pc]:Array Value).size:=nu;have U:=zy d K root B (h.below G);have aX:Hid _:=h;have a7:w.1.size+1<B.1.size:=by rw[m];simp[ac]
 unfold bC at U ⊢;clear Z q ac;go_enter func79,ntmps79;go_upto_region 2 with fail
 change Code.wp _ _ _ _ ((w.alloc (.cells #[.slice d.sa K.n d.sc,.slice d.pa K.m d.pc] 37)).alloc (.cells #[] 93));rw[<-n,<-m];clear n m;go_wp2_with (refine qi rfl 37 _ rfl w.1.size rfl 37 #[.slice d.sa K.n d.sc,.slice d.pa K.m d.pc] (0,0) _ aw sB rfl a5 ?_);refine U.mono ?_;rintro e w1 a4;obtain⟨C,cs,L,v,E⟩:=a4;have X:=G.trans (C.mono G.size);have ag:Hid (w.1.size+1<w1.1.size):=by show w.1.size+1<w1.1.size;have:=C.size;omega
 have q:=bAl w1 (.cells cs.toArray 207);have ar:=ao w1 207 cs.toArray;have ab:(prog.info? 207).map (·.size)=some cs.toArray.size:=by rw[k8,L];exact pY
 have z:trz.toArray.size=cs.toArray.size:=by rw[k8,k8,L];rfl
 have ah:=X.trans (q.mono X.size);have Q:Blk (w1.alloc (.cells cs.toArray 207)) 207 w1.1.size cs:=by
  have:Blk (w1.alloc (.cells cs.toArray 207)) 207 w1.1.size cs.toArray.toList:=ar;simpa using this
 have aO:=(aH.below C).below q;have b:=kG ah (kR aO (kR Q q));clear U aw C X ah ar Q q G aH aO;rcases E with⟨f,rfl⟩|⟨f,o,rfl⟩|⟨T,f,am,rfl⟩
 ·have j:Hid (enL K root=[]):=by show enL K root=[];unfold enL;rw[f]
  have l:Hid (tpB K root=false):=by show tpB K root=false;unfold tpB;rw[f];rfl
  go_upto_region 3 with(refine aL rfl 207 _ _ rfl w1 trz.toArray cs.toArray 207 rfl rfl ab z (dP v) ?_)
  change Code.wp _ _ _ _ (w1.alloc (.cells cs.toArray 207));generalize w1.alloc (.cells cs.toArray 207)=r at*;generalize g:w1.1.size=i at*;clear g;go_wp2_with fail
  go_ret2
  rw[j.out,l.out];exact⟨_,0,rfl,b.out.1,b.out.2.1,kP⟩
 ·have j:Hid (enL K root=[]):=by show enL K root=[];unfold enL;rw[f];rfl
  have l:Hid (tpB K root=true):=by show tpB K root=true;unfold tpB;rw[f];rfl
  have ae:Hid _:=o;clear o;go_upto_region 3 with(refine aL rfl 207 _ _ rfl w1 trz.toArray cs.toArray 207 rfl rfl ab z (dP v) ?_)
  change Code.wp _ _ _ _ (w1.alloc (.cells cs.toArray 207));generalize w1.alloc (.cells cs.toArray 207)=r at*;generalize g:w1.1.size=i at*;clear g;have W:r.cell? ⟨i,1,none⟩=some (.int .i64 (-1)):=(b.out.2.2.1.cell 1).trans (by rw[ae.out];rfl);have ad:=Kt i (some ⟨w.1.size+1,0,none⟩) 0 0 r;go_wp2_with fail;refine ad.mono ?_;rintro e a6 ⟨rfl,O⟩;obtain rfl:=O.symm;clear O ad W;go_wp2_with fail
  go_ret2
  rw[j.out,l.out];exact⟨_,0,rfl,b.out.1,b.out.2.1,kP⟩
 ·have j:Hid (enL K root=aM T):=by show enL K root=aM T;unfold enL;rw[f];rfl
  have l:Hid (tpB K root=true):=by show tpB K root=true;unfold tpB;rw[f];rfl
  have a0:Hid _:=am;have af:Hid (dOk K):=by
   cases F:bK K with
   |true=>exact jj F
   |false=>unfold ldT at f;rw[F]at f;cases f
  clear am;go_upto_region 3 with(refine aL rfl 207 _ _ rfl w1 trz.toArray cs.toArray 207 rfl rfl ab z (dP v) ?_)
  change Code.wp _ _ _ _ (w1.alloc (.cells cs.toArray 207));generalize w1.alloc (.cells cs.toArray 207)=r at*;generalize g:w1.1.size=i at*;have I:Hid (w1.1.size=i):=g;clear g;obtain⟨ns,nv,na,nc,seen,tall,sb,p,o,M,J,y,N⟩:=a0.out.ex;have s:=af.out;have V:=jS aX.out s;have u:=jQ V _ _ _ _ _ _ y;have an:=tK (fun bb=>mN s bb) _ _ _ _ _ _ y;have A:=N i r b.out.2.2.1 (by rw[I.out];exact b.out.2.2.2);have ap:(bB T).length<=1024:=by
   have ak:=u.seen.length_eq;rw[lj]at ak;have a9:=A.ok.le;have D:=V.le;have ba:seen.length=(bB T).length:=ak;omega
  have x:(aM T).length<=262144:=kH;have P:=b.out.1.size;have R:=(pX M T).1 u.isT u.full u.sm p [] (some ⟨w.1.size+1,0,none⟩) 0 w.1.size r A b.out.2.1 P J (by simpa using(by omega:(aM T).length<=1048576));have W:r.cell? ⟨i,1,none⟩=some (.int .i64 p):=(b.out.2.2.1.cell 1).trans (by rw[o];rfl);have S:Hid _:=x;have a8:w.1.size+1<i:=by have:=I.out;have:=ag.out;omega
  clear o M J y N s V u an A ap x;rw[m7]at R;go_wp2_with fail;refine R.mono ?_;rintro e a6 ⟨a2,a3,rfl,D⟩;have Y:=D.own;rw[m7]at Y;have ai:=b.out.1.trans (D.fr.below P (fun k F=>by simp[rb]at F;omega));have H:=kG ai Y;clear R D Y ai W;go_wp2_with fail
  go_ret2
  rw[j.out,l.out];exact⟨a2,a3,rfl,H.out.1,H.out.2,S.out⟩
