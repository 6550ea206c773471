import Derived.Test.YtglbanolhhjjiaaGreatDoorFo12
import Derived.Test.YtglbanolhhjjiaaGreatDoorFo14
import Derived.Stop.LaidErr
import Derived.Stop.Joined
import Derived.LaidHandle
import Derived.MakeChecks
namespace Go.Proofs.YtglbanolhhjjiaaGreatDoor
open Go.Proofs.Tryz
open Go.RowKit Go.Maps Go.ChangeShapes Go.WideShapes
set_option linter.unusedVariables false
set_option maxRecDepth 100000
set_option maxHeartbeats 32000000
theorem Ds(d id a n c l w)(h:Bs w a n c l)(g:w.cell? ⟨0,0,none⟩=some (errV d)):
 Calls prog 153 #[.int .i64 id,.slice a n c] w fun e w'=>Below w.1.size w w'/\((cC id l/\∃a c,e= .returned (.tuple #[.int .i64 (kd l),.slice a (aY l).length c,.nilIface])/\Own w.1.size w' a (aY l).length c (aY l))\/(¬cC id l/\e= .returned (.tuple #[.int .i64 0,.slice none 0 0,errV d]))):=by
 by_cases f:n=256
 ·subst f;obtain⟨b,i,rfl,_,_⟩:=h.at_ uA;exact CJ d id b i c l w h g
 ·refine(CI d id a n c l w h f g).mono ?_;rintro e w' ⟨j,rfl⟩;exact⟨j,v6 ⟨fun k=>f (by rw[<-h.len_eq];exact k.1),rfl⟩⟩
structure Errs(w:World)(eN eW:Addr):Prop where
 n:w.cell? ⟨1,0,none⟩=some (errV eN)
 b:w.cell? ⟨0,0,none⟩=some (errV eW)
 ne:eW≠eN
 rn:∃c t,w.heap[eN.block]?=some (.cells c t (0,0))
 rb:∃c t,w.heap[eW.block]?=some (.cells c t (0,0))
theorem Errs.below{w w' b d}(h:Errs w b d)(a:Below w.1.size w w'):Errs w' b d:=
 ⟨by rw[a.cell (p:=⟨1,0,none⟩) (World.block_lt_of_cell? w _ h.n)];exact h.n,by rw[a.cell (p:=⟨0,0,none⟩) (World.block_lt_of_cell? w _ h.b)];exact h.b,h.ne,
  by obtain⟨c,t,e⟩:=h.rn;exact⟨c,t,by rw[a.block _ (wy.1 e).1];exact e⟩,by obtain⟨c,t,e⟩:=h.rb;exact⟨c,t,by rw[a.block _ (wy.1 e).1];exact e⟩⟩
theorem nU(c b d pc)(K:DK)(w)(f:K.n<=4096):
 Calls prog 73 #[.agg #[.slice c K.n d,.slice b K.m pc]] w fun e w'=>e= .returned (.int .i64 ((K.n:Int)/4))/\Below w.1.size w w':=by
 have g:(K.n:Int).tdiv 4=(K.n:Int)/4:=z2 uA;have a:Hid _:=(B2 w.1.size w).alloc t6 (.cells #[.slice c K.n d,.slice b K.m pc] 35);go_enter func73,ntmps73;go_wp2;go_ret;exact⟨rfl,a.out⟩
theorem mr{w w' g n}{D:DataW Unit}(h:w.ownsMap prog 3 (plainElem prog 3) g n D)(b:Below w.1.size w w'):w'.ownsMap prog 3 (plainElem prog 3) g n D:=by
 obtain⟨es,c,a,r⟩:=h;exact⟨es,c,(b.block g (wy.1 a).1).trans a,r⟩
theorem Dt(a3 y d K)(T g:Nat)(w)(h:RDisk w d K)(t:dOk K)(U:Errs w a3 y)(l:w.ownsMap prog 3 (plainElem prog 3) g K.m (dz K.At K.m))(V:eD K (T:Int)):
 Calls prog 120 #[.agg #[.slice d.sa K.n d.sc,.slice d.pa K.m d.pc,.map (some g)],.int .i64 T] w fun e w'=>Below w.1.size w w'/\((cC T (pgL K T)/\∃a c,e= .returned (.tuple #[.int .i64 (kd (pgL K T)),.slice a (aY (pgL K T)).length c,.nilIface])/\Own w.1.size w' a (aY (pgL K T)).length c (aY (pgL K T)))\/(¬cC T (pgL K T)/\e= .returned (.tuple #[.int .i64 0,.slice none 0 0,errV y]))):=by
 have Z:=t.1.2.1;have X:=nR V;obtain⟨a9,ba⟩:=V;have z:=(B2 w.1.size w).alloc t6 (.cells #[.slice d.sa K.n d.sc,.slice d.pa K.m d.pc,.map (some g)] 122);have a8:=D6 w (.cells #[.slice d.sa K.n d.sc,.slice d.pa K.m d.pc,.map (some g)] 122);have L:(w.alloc (.cells #[.slice d.sa K.n d.sc,.slice d.pa K.m d.pc,.map (some g)] 122)).1.size=w.1.size+1:=by simp
 have u:Hid _:=h.below z;have ap:Hid (World.ownsMap (w.alloc (.cells #[.slice d.sa K.n d.sc,.slice d.pa K.m d.pc,.map (some g)] 122)) prog 3 (plainElem prog 3) g K.m (dz K.At K.m)):=mr l z;have an:Hid _:=U.below z;have n:Hid (dOk K):=t;have am:Hid (IsB (pgL K T)):=qL h X;have aS:Hid _:=z;clear t h l U;go_enter func120,ntmps120;go_wp2_with fail;generalize W:w.alloc (.cells #[.slice d.sa K.n d.sc,.slice d.pa K.m d.pc,.map (some g)] 122)=k at*;clear W;refine(nU d.sa d.pa d.sc d.pc K k Z).mono ?_;rintro e w1 ⟨rfl,a1⟩;have af:Hid _:=a1;have J:=jO (w.1.size+1) w1;go_wp2_with fail;go_loopw [7,8,19] (fun o _ i wr=> ∃(j:Nat)(p:Option Addr)(r:Nat),j<=4/\i= .int .i64 (j:Nat)/\o= .slice p (64*j) r/\Below (w.1.size+1) k wr/\Own (w.1.size+1) wr p (64*j) r (fS K T j)) (fun _ _ i _=>4-(intOf i).toNat)
 case atStart=>exact⟨0,_,0,uA,rfl,rfl,by rw[<-L];exact af.out,J⟩
 case round=>
  obtain⟨j,p,r,bd,rfl,rfl,f,l⟩:=hrel;have D:Hid _:=f;have P:Hid _:=l;by_cases bb:j<4
  ·have b:Below k.1.size k wr:=by rw[L];exact f
   have C:=(f.block w.1.size (x3 _)).trans a8;have k0:wr.cell? ⟨w.1.size,0,none⟩=some (.slice d.sa K.n d.sc):=by rw[DC wr _ 0 _ _ _ C];rfl
   have a4:wr.cell? ⟨w.1.size,1,none⟩=some (.slice d.pa K.m d.pc):=by rw[DC wr _ 1 _ _ _ C];rfl
   have a5:wr.cell? ⟨w.1.size,2,none⟩=some (.map (some g)):=by rw[DC wr _ 2 _ _ _ C];rfl
   have A:=nA (u.out.below b) (4*T+j) uA;rw[nC u.out n.out (4*T+j) uA]at A;have I:=u.out.below b;have x:=Bv d.sa d.pa d.sc d.pc d.sA d.pA d.sN d.sC d.pN d.pC K wr I.safe I.pend n.out g (4*T+j) uA (mr ap.out b);rw[nC u.out n.out (4*T+j) uA]at x;generalize aP K.At d.pA d.sA K.m (4*T+j)=bg at*;generalize aP K.At d.pC d.sC K.m (4*T+j)=a7 at*;have N:Hid (fS K T (j+1)=fS K T j++gL K (4*T+j)):=rfl;obtain⟨m,Y⟩:∃m:Nat,m=4*T+j:=⟨_,rfl⟩;rw[<-Y]at x A N;have bc:(T:Int)*4+(j:Int)=(m:Int):=uA;have bl:=f.size;clear f l b J Y I C;go_wp2_with fail;refine x.mono ?_;rintro e a6 ⟨rfl,q⟩;have aT:Hid _:=A.below q;have aA:Hid _:=Own.below (B:=w.1.size+1) P.out q;have ag:Hid (Below (w.1.size+1) k a6):=D.out.trans (q.mono uA);have bk:=q.size;clear q A x k0 a4 a5;go_wp2_with (at_builtin;refine eu rfl _ _ rfl (w.1.size+1) p (64*j) r (fS K T j) rfl ?own _ 64 a7 (gL K m) rfl ?bs ?len ?B ?_)
   case own=>exact aA.out
   case bs=>exact aT.out
   case len=>omega
   case B=>omega
   intro a0 a2 bf ac R _;have ak:Hid _:=ag.out.trans R;have aB:Hid _:=ac;clear ac R;go_wp2;go_roundw
   case rel=>exact⟨j+1,a0,a2,uA,by go_num,rfl,ak.out,by rw[N.out];exact aB.out⟩
   case measure=>simp[intOf];omega
  ·have e:j=4:=uA;subst e;have b:Below k.1.size k wr:=by rw[L];exact f
   have E:Hid (Below w.1.size w wr):=aS.out.trans (f.mono uA);have Q:=Ds y (T:Int) p 256 r (pgL K T) wr (Own.bs (B:=w.1.size+1) l am.out) (an.out.below b).b;clear f l J D P b;go_wp2_with fail;refine Q.mono ?_;rintro e ae ⟨S,ab⟩;have M:Hid (Below w.1.size w ae):=E.out.trans (S.mono E.out.size);have aX:Hid (w.1.size<=wr.1.size):=E.out.size;clear S Q;rcases ab with⟨s,G,H,rfl,ad⟩|⟨s,rfl⟩
   ·have O:Hid (Own w.1.size ae G (aY (pgL K T)).length H (aY (pgL K T))):=ad.mono aX.out;have F:Hid _:=s;clear ad s;go_wp2;refine B3 (v:= .tuple #[.int .i64 (kd (pgL K T)),.slice G (aY (pgL K T)).length H,.nilIface]) (by simp[results,results120,go_sem]) rfl ?_;exact⟨M.out,v7 ⟨F.out,G,H,rfl,O.out⟩⟩
   ·have F:Hid _:=s;clear s;go_wp2;refine B3 (v:= .tuple #[.int .i64 0,.slice none 0 0,errV y]) (by simp[results,results120,go_sem]) rfl ?_;exact⟨M.out,v6 ⟨F.out,rfl⟩⟩
theorem Du(a s d b f pc K t g w)(o:K.n<=4096)(k:Errs w a s)(l:¬eD K t):
 Calls prog 120 #[.agg #[.slice d K.n f,.slice b K.m pc,.map (some g)],.int .i64 t] w fun e w'=>Below w.1.size w w'/\e= .returned (.tuple #[.int .i64 0,.slice none 0 0,errV a]):=by
 have c:=(B2 w.1.size w).alloc t6 (.cells #[.slice d K.n f,.slice b K.m pc,.map (some g)] 122);have m:=(k.below c).n;have q:Hid _:=k.below c;have i:Hid _:=c;clear k c;by_cases u:t<0
 ·clear l;go_enter func120,ntmps120;go_wp2_with fail;go_region;go_wp2;refine B3 (v:= .tuple #[.int .i64 0,.slice none 0 0,errV a]) (by simp[results,results120,go_sem]) rfl ?_;exact⟨i.out.drew,rfl⟩
 ·have x:(K.n:Int)/4<=t:=by unfold eD at l;omega
  clear l m;go_enter func120,ntmps120;go_wp2_with fail;generalize n:w.alloc (.cells #[.slice d K.n f,.slice b K.m pc,.map (some g)] 122)=r at*;clear n;refine(nU d b f pc K r o).mono ?_;rintro e w1 ⟨rfl,j⟩;have m:=(q.out.below j).n;have p:Hid (Below w.1.size w w1):=i.out.trans (j.mono i.out.size);clear j;go_wp2_with fail;go_region;go_wp2;refine B3 (v:= .tuple #[.int .i64 0,.slice none 0 0,errV a]) (by simp[results,results120,go_sem]) rfl ?_;exact⟨p.out.drew,rfl⟩
theorem vx(j k d K t g w)(h:RDisk w d K)(l:dOk K)(q:Errs w j k)(s:w.ownsMap prog 3 (plainElem prog 3) g K.m (dz K.At K.m)):
 Calls prog 120 #[.agg #[.slice d.sa K.n d.sc,.slice d.pa K.m d.pc,.map (some g)],.int .i64 t] w fun e w'=>Below w.1.size w w'/\
  ((vB K t=true/\∃a c,e= .returned (.tuple #[.int .i64 (vK K t),.slice a (vL K t).length c,.nilIface])/\Own w.1.size w' a (vL K t).length c (vL K t))\/(vB K t=false/\vK K t=0/\vL K t=[]/\(e= .returned (.tuple #[.int .i64 0,.slice none 0 0,errV k])\/e= .returned (.tuple #[.int .i64 0,.slice none 0 0,errV j])))):=by
 by_cases f:eD K t
 ·obtain⟨T,rfl⟩:=x2 f.1;have m:vK K (T:Int)=gN T (pgL K T):=by unfold vK;rw[ii f];rfl
  have n:vL K (T:Int)=dj T (pgL K T):=by unfold vL;rw[ii f];rfl
  have p:vB K (T:Int)=gl T (pgL K T):=by unfold vB;rw[ii f];rfl
  rw[m,n,p];refine(Dt j k d K T g w h l q s f).mono ?_;rintro e w' ⟨b,r⟩;refine⟨b,?_⟩;rcases r with⟨i,a,c,rfl,o⟩|⟨i,rfl⟩
  ·rw[un i,lY i,nF i];exact v7 ⟨rfl,a,c,rfl,o⟩
  ·rw[lX i,jx i,jw i];exact v6 ⟨rfl,rfl,rfl,v7 rfl⟩
 ·have m:vK K t=0:=by unfold vK;rw[ij f]
  have n:vL K t=[]:=by unfold vL;rw[ij f]
  have p:vB K t=false:=by unfold vB;rw[ij f]
  refine(Du j k d.sa d.pa d.sc d.pc K t g w l.1.2.1 q f).mono ?_;rintro e w' ⟨b,rfl⟩;exact⟨b,v6 ⟨p,m,n,v6 rfl⟩⟩
def gG(L:List Int):Int:=iy (L.take 8)
theorem vy{L}(c:IsB L)(d:L.length=20):(L.getD 7 0=0->gG L=sG L)/\(L.getD 7 0≠0->gG L<1\/1000000000000<gG L):=by
 have e:=Bk (gR c 8) (by rw[wR,d];rfl);have a:(L.take 8).getD 7 0=L.getD 7 0:=by rw[yc,yc,List.getElem?_take_of_lt uA]
 have b:(L.take 8).take 7=L.take 7:=by rw[List.take_take];rfl
 rw[a,b]at e;exact e
theorem Dv{K t}(g:IsB (vL K t))(i:vB K t=true)(j:vK K t=1)(f:(vL K t).length=20):saP K t↔bG (gG (vL K t)) (sR (vL K t)) (sU (vL K t)) (sF (vL K t))=true/\gG (vL K t)%2=t/\sU (vL K t)<=(K.n:Int)/4:=by
 have e:=vy g f;constructor
 ·rintro⟨_,_,_,b,a,c,d⟩;rw[e.1 b];exact⟨a,c,d⟩
 ·rintro⟨a,c,d⟩;by_cases b:(vL K t).getD 7 0=0
  ·rw[e.1 b]at a c;exact⟨i,j,f,b,a,c,d⟩
  ·rw[vt (e.2 b)]at a;cases a
theorem Dw{K t}(a:IsB (vL K t))(h:saP K t):saV K t=aG (gG (vL K t)) (sR (vL K t)) (sU (vL K t)) (sF (vL K t)):=by
 rw[qR h,(vy a h.2.2.1).1 h.2.2.2.1]
theorem Dx(aS q d K t g w)(h:RDisk w d K)(ak:dOk K)(a0:Errs w aS q)(bE:w.ownsMap prog 3 (plainElem prog 3) g K.m (dz K.At K.m)):
 Calls prog 82 #[.agg #[.slice d.sa K.n d.sc,.slice d.pa K.m d.pc,.map (some g)],.int .i64 t] w fun e w'=>Below w.1.size w w'/\((saP K t/\e= .returned (.tuple #[saV K t,.nilIface]))\/(¬saP K t/\∃x,e= .returned (.tuple #[aG 0 0 0 0,errV x]))):=by
 have bC:=ak.1.2.1;have Z:=fK w (.cells #[.slice d.sa K.n d.sc,.slice d.pa K.m d.pc,.map (some g)] 122) (.cells #[.int .i64 0,.int .i64 0,.int .i64 0,.int .i64 0] 36);have bW:=D6 w (.cells #[.slice d.sa K.n d.sc,.slice d.pa K.m d.pc,.map (some g)] 122);have bl:=D6 (w.alloc (.cells #[.slice d.sa K.n d.sc,.slice d.pa K.m d.pc,.map (some g)] 122)) (.cells #[.int .i64 0,.int .i64 0,.int .i64 0,.int .i64 0] 36);have cm:((w.alloc (.cells #[.slice d.sa K.n d.sc,.slice d.pa K.m d.pc,.map (some g)] 122)).alloc (.cells #[.int .i64 0,.int .i64 0,.int .i64 0,.int .i64 0] 36)).1.size=w.1.size+1+1:=by simp
 have a7:((w.alloc (.cells #[.slice d.sa K.n d.sc,.slice d.pa K.m d.pc,.map (some g)] 122)).alloc (.cells #[.int .i64 0,.int .i64 0,.int .i64 0,.int .i64 0] 36)).heap[w.1.size]?=some (.cells #[.slice d.sa K.n d.sc,.slice d.pa K.m d.pc,.map (some g)] 122 (0,0)):=by rw[Below.heap_alloc _ _ _ vo];exact bW
 simp only[World.size_alloc]at bl;have bu:=vx aS q d K t g _ (h.below Z) ak (a0.below Z) (mr bE Z);have a9:Hid (IsB (vL K t)):=ml h t;have cc:=mn ak t;have bn:Hid _:=a0.below Z;have cf:0<w.1.size:=World.block_lt_of_cell? w ⟨0,0,none⟩ a0.b;have ce:¬w.1.size=0:=uA;have bX:Hid _:=Z;clear bW Z a0 bE;go_enter func82,ntmps82;go_wp2_with fail;generalize bx:(w.alloc (.cells #[.slice d.sa K.n d.sc,.slice d.pa K.m d.pc,.map (some g)] 122)).alloc (.cells #[.int .i64 0,.int .i64 0,.int .i64 0,.int .i64 0] 36)=cg at*;clear bx;refine bu.mono ?_;rintro e w1 ⟨Y,bF⟩;have u0:=(Y.block w.1.size uA).trans a7;have u1:=(Y.block (w.1.size+1) uA).trans bl;have an:Hid (Below w.1.size w w1):=bX.out.trans (Y.mono uA);have X:=bn.out.below Y;have aT:=X.b;obtain⟨⟨l0,s,u,y⟩,ad,f1,ae,af⟩:=ep u1;have b8:Hid (w.1.size+1+1<=w1.1.size):=by have:=Y.size;show w.1.size+1+1<=w1.1.size;omega
 clear bu Y a7 bl;rcases bF with⟨Q,cj,o,rfl,a3⟩|⟨Q,_,_,bz⟩
 case inr=>
  have m:Hid (¬saP K t):=fun I=>by rw[I.1]at Q;cases Q
  have k:Hid _:=fT an.out (show w.1.size<=w.1.size+1 by omega) (.int .i64 0) (.int .i64 0) (.int .i64 0) (.int .i64 0);clear u0 u1 Q X;rcases bz with rfl|rfl
  ·go_wp2;refine B3 (v:= .tuple #[aG 0 0 0 0,errV q]) (by simp[results,results82,go_sem,aG,l0,s,u,y]) rfl ?_;exact⟨k.out,v6 ⟨m.out,q,rfl⟩⟩
  ·go_wp2;refine B3 (v:= .tuple #[aG 0 0 0 0,errV aS]) (by simp[results,results82,go_sem,aG,l0,s,u,y]) rfl ?_;exact⟨k.out,v6 ⟨m.out,aS,rfl⟩⟩
 by_cases ag:vK K t=1
 case neg=>
  have m:Hid (¬saP K t):=fun I=>ag I.2.1;have bB:(vK K t !=1)=true:=by simp[ag]
  have k:Hid _:=(fT an.out (show w.1.size<=w.1.size+1 by omega) (.int .i64 0) (.int .i64 0) (.int .i64 0) (.int .i64 0)).drew;clear u0 u1 Q X;go_wp2_with fail;go_region;go_wp2;refine B3 (v:= .tuple #[aG 0 0 0 0,errV q]) (by simp[results,results82,go_sem,aG,l0,s,u,y]) rfl ?_;exact⟨k.out,v6 ⟨m.out,q,rfl⟩⟩
 by_cases a1:(vL K t).length=20
 case neg=>
  have m:Hid (¬saP K t):=fun I=>a1 I.2.2.1;have cb:(((vL K t).length:Int) !=20)=true:=by simp;omega
  have bB:(vK K t !=1)=false:=by simp[ag]
  have k:Hid _:=(fT an.out (show w.1.size<=w.1.size+1 by omega) (.int .i64 0) (.int .i64 0) (.int .i64 0) (.int .i64 0)).drew;generalize (vL K t).length=N at*;clear u0 u1 Q X;go_wp2_with fail;go_region;go_wp2;refine B3 (v:= .tuple #[aG 0 0 0 0,errV q]) (by simp[results,results82,go_sem,aG,l0,s,u,y]) rfl ?_;exact⟨k.out,v6 ⟨m.out,q,rfl⟩⟩
 have z:Hid _:=Dv a9.out Q ag a1;have P:Hid (saP K t->saV K t=aG (gG (vL K t)) (sR (vL K t)) (sU (vL K t)) (sF (vL K t))):=Dw a9.out;rw[a1]at a3;obtain⟨aX,rfl,bA⟩:=qO a3 uA;have V:=a3.bs a9.out;have bZ:20<=o:=V.le;have a6:o<=maxLen:=V.le';generalize vL K t=L at*;generalize vK K t=cl at*;subst ag;have bc:Hid (Bs w1 (some ⟨aX,0,none⟩) 8 o (L.take 8)):=V.piece 0 8 uA o uA a6;have bd:Hid (Bs w1 (some ⟨aX,8,none⟩) 4 (o-8) (aJ L 8 4)):=by have:=V.piece 8 4 uA (o-8) uA uA;rw[wE]at this;exact this
 have ab:Hid (Bs w1 (some ⟨aX,12,none⟩) 4 (o-12) (aJ L 12 4)):=by have:=V.piece 12 4 uA (o-12) uA uA;rw[wE]at this;exact this
 have ac:Hid (Bs w1 (some ⟨aX,16,none⟩) 4 (o-16) (aJ L 16 4)):=by have:=V.piece 16 4 uA (o-16) uA uA;rw[wE]at this;exact this
 have b9:¬o=8:=uA;have b0:¬o=12:=uA;have b1:¬o=16:=uA;have ca:(8:Int)<=(o:Int):=uA;have b2:(12:Int)<=(o:Int):=uA;have b3:(16:Int)<=(o:Int):=uA;have b4:(20:Int)<=(o:Int):=uA;generalize L.length=N at*;subst a1;clear a3 V a6 Q;go_wp2_with fail;have br:Hid (∀a n c v,Bs v a n c (L.take 8)->n=8->Calls prog 121 #[.slice a n c] v fun e w'=>e= .returned (.int .i64 (gG L))/\w'=v):=fun a n c v S U=>by subst U;exact Bm a c (L.take 8) v S
 have bs:Hid (∀a n c v,Bs v a n c (aJ L 8 4)->n<=6->Calls prog 121 #[.slice a n c] v fun e w'=>e= .returned (.int .i64 (sR L))/\w'=v):=fun a n c v S U=>iO a n c (aJ L 8 4) v S U;have a4:Hid (∀a n c v,Bs v a n c (aJ L 12 4)->n<=6->Calls prog 121 #[.slice a n c] v fun e w'=>e= .returned (.int .i64 (sU L))/\w'=v):=fun a n c v S U=>iO a n c (aJ L 12 4) v S U;have a5:Hid (∀a n c v,Bs v a n c (aJ L 16 4)->n<=6->Calls prog 121 #[.slice a n c] v fun e w'=>e= .returned (.int .i64 (sF L))/\w'=v):=fun a n c v S U=>iO a n c (aJ L 16 4) v S U;have C:=B2 w1.1.size w1;go_cut [9] (fun b6 b7=>b6= .pointer (some ⟨w1.1.size,0,none⟩)/\b7=(w1.alloc (.cells #[.int .i64 (gG L),.int .i64 (sR L),.int .i64 (sU L),.int .i64 (sF L)] 36)).drew)
 case first=>
  go_region_held3 (fun _=>True) (trivial)
   (first
   |(go_at_call 121;refine(br.out _ _ _ _ ?_ ?_).mono ?_;(first|exact bc.out.below C.drew|exact bc.out.below (C.drew.alloc C.drew.size _));omega;rintro e w' ⟨rfl,rfl⟩)
   |(go_at_call 121;refine(bs.out _ _ _ _ ?_ ?_).mono ?_;(first|exact bd.out.below C.drew|exact bd.out.below (C.drew.alloc C.drew.size _));omega;rintro e w' ⟨rfl,rfl⟩)
   |(go_at_call 121;refine(a4.out _ _ _ _ ?_ ?_).mono ?_;(first|exact ab.out.below C.drew|exact ab.out.below (C.drew.alloc C.drew.size _));omega;rintro e w' ⟨rfl,rfl⟩)
   |(go_at_call 121;refine(a5.out _ _ _ _ ?_ ?_).mono ?_;(first|exact ac.out.below C.drew|exact ac.out.below (C.drew.alloc C.drew.size _));omega;rintro e w' ⟨rfl,rfl⟩))
  all_goals
   go_wp2_with fail
   go_meet
   exact⟨rfl,rfl⟩
 case rest=>
 obtain⟨rfl,rfl⟩:=hcut;clear br bs a4 a5 bc bd ab ac l0 s u y ad f1 ae af aT;have bm:(w1.alloc (.cells #[.int .i64 (gG L),.int .i64 (sR L),.int .i64 (sU L),.int .i64 (sF L)] 36)).drew.heap[w1.1.size]?=some (.cells #[.int .i64 (gG L),.int .i64 (sR L),.int .i64 (sU L),.int .i64 (sF L)] 36 (0,0)):=D6 w1 (.cells #[.int .i64 (gG L),.int .i64 (sR L),.int .i64 (sU L),.int .i64 (sF L)] 36);have am:=((B2 w1.1.size w1).alloc t6 (.cells #[.int .i64 (gG L),.int .i64 (sR L),.int .i64 (sU L),.int .i64 (sF L)] 36)).drew;have cn:(w1.alloc (.cells #[.int .i64 (gG L),.int .i64 (sR L),.int .i64 (sU L),.int .i64 (sF L)] 36)).drew.1.size=w1.1.size+1:=by simp
 have a8:Hid _:=X.below am;generalize (w1.alloc (.cells #[.int .i64 (gG L),.int .i64 (sR L),.int .i64 (sU L),.int .i64 (sF L)] 36)).drew=l at*;have cp:=b8.out;have ap:Hid (Below w.1.size w l):=an.out.trans (am.mono uA);have aA:Hid _:=(am.block (w.1.size+1) uA).trans u1;have bv:=(am.block w.1.size uA).trans u0;have ch:Hid _:=bm;have p:Hid (∀v,Below l.1.size l v->(v.cell? ⟨w1.1.size,0,none⟩=some (.int .i64 (gG L))/\v.cell? ⟨w1.1.size,1,none⟩=some (.int .i64 (sR L))/\v.cell? ⟨w1.1.size,2,none⟩=some (.int .i64 (sU L))/\v.cell? ⟨w1.1.size,3,none⟩=some (.int .i64 (sF L))/\v.cell? ⟨w.1.size,0,none⟩=some (.slice d.sa K.n d.sc)/\v.cell? ⟨w.1.size,1,none⟩=some (.slice d.pa K.m d.pc))):=fun v b=>by
  obtain⟨⟨k0,bP,bR,bS⟩,_⟩:=ep ((b.block w1.1.size uA).trans bm);have bT:=(b.block w.1.size uA).trans bv;exact⟨k0,bP,bR,bS,by rw[DC v _ 0 _ _ _ bT];rfl,by rw[DC v _ 1 _ _ _ bT];rfl⟩
 have D:Hid (¬saP K t->∀v,Below l.1.size l v->¬saP K t/\Below w.1.size w ((((v.setCell ⟨w.1.size+1,0,none⟩ (.int .i64 0)).setCell ⟨w.1.size+1,1,none⟩ (.int .i64 0)).setCell ⟨w.1.size+1,2,none⟩ (.int .i64 0)).setCell ⟨w.1.size+1,3,none⟩ (.int .i64 0)).drew):=fun J v b=>⟨J,(fT (ap.out.trans (b.mono ap.out.size)) uA _ _ _ _).drew⟩;clear u0 u1 bm am bv X bA;go_wp2_with fail;have M:=p.out l.drew t7.drew;cases r:bG (gG L) (sR L) (sU L) (sF L)with
 |false=>
  have m:Hid (¬saP K t):=fun I=>by have:=(z.out.1 I).1;rw[r]at this;cases this
  have Ioq:=pP (gG L) (sR L) (sU L) (sF L) l.drew;rw[r]at Ioq;refine az (fun v=>v.cell? ⟨w1.1.size,0,none⟩=some (.int .i64 (gG L))/\v.cell? ⟨w1.1.size,1,none⟩=some (.int .i64 (sR L))/\v.cell? ⟨w1.1.size,2,none⟩=some (.int .i64 (sU L))/\v.cell? ⟨w1.1.size,3,none⟩=some (.int .i64 (sF L))/\v.cell? ⟨w.1.size,0,none⟩=some (.slice d.sa K.n d.sc)/\v.cell? ⟨w.1.size,1,none⟩=some (.slice d.pa K.m d.pc)) (fun _=>false) vk ?_;refine ai 0 M ?_;refine ah 1 fun R G=> ?_;go_wp2_with fail;refine Ioq.mono ?_;rintro e W ⟨rfl,j⟩;replace j:Below l.1.size l W:=⟨j.os,j.tape,j.output,j.size,j.block⟩;have f:=p.out W j;go_wp2_with fail;refine ao G ?_;clear G R Ioq;refine ai 2 f ?_;refine ai 3 f ?_;refine aE 4 f ?_;refine aE 5 f ?_;refine aE 6 f ?_;refine aE 7 f ?_;refine ai 8 f ?_;refine ai 9 f ?_;refine aE 10 f ?_;refine aE 11 f ?_;refine aE 12 f ?_;refine aE 13 f ?_;refine aE 14 f ?_;refine aE 15 f ?_;refine ai 16 f ?_;refine bi ?_;have B:Hid (Below l.1.size l W):=j;clear j M f r;obtain⟨J,A⟩:=D.out m.out _ B.out;have k:Hid _:=A;obtain⟨⟨l0,s,u,y⟩,ad,f1,ae,af⟩:=ep ((B.out.block (w.1.size+1) uA).trans aA.out);have aT:=(a8.out.below B.out).b;clear J A p D z P;go_wp2_with fail;go_region;go_wp2;refine B3 (v:= .tuple #[aG 0 0 0 0,errV q]) (by simp[results,results82,go_sem,aG,l0,s,u,y]) rfl ?_;exact⟨k.out,v6 ⟨m.out,q,rfl⟩⟩
 |true=>
 obtain⟨ck,b5⟩:=qQ r;have Ioq:=pP (gG L) (sR L) (sU L) (sF L) l.drew;rw[r]at Ioq;refine az (fun v=>v.cell? ⟨w1.1.size,0,none⟩=some (.int .i64 (gG L))/\v.cell? ⟨w1.1.size,1,none⟩=some (.int .i64 (sR L))/\v.cell? ⟨w1.1.size,2,none⟩=some (.int .i64 (sU L))/\v.cell? ⟨w1.1.size,3,none⟩=some (.int .i64 (sF L))/\v.cell? ⟨w.1.size,0,none⟩=some (.slice d.sa K.n d.sc)/\v.cell? ⟨w.1.size,1,none⟩=some (.slice d.pa K.m d.pc)) (fun _=>false) vk ?_;refine ai 0 M ?_;refine ah 1 fun R G=> ?_;go_wp2_with fail;refine Ioq.mono ?_;rintro e W ⟨rfl,j⟩;replace j:Below l.1.size l W:=⟨j.os,j.tape,j.output,j.size,j.block⟩;have f:=p.out W j;go_wp2_with fail;refine ao G ?_;clear G R Ioq;refine ai 2 f ?_;refine ai 3 f ?_;refine ai 4 f ?_;refine ai 6 f ?_;refine ah 5 fun R G=> ?_;go_wp2_with fail;refine(Ae (gG L) (sR L) (sU L) (sF L) W uA b5).mono ?_;rintro e bg ⟨rfl,aB⟩;have E:=j.trans (aB.mono j.size);have i:=p.out bg E;go_wp2_with fail;refine ao G ?_;clear G R;by_cases T:gG L%2=t
 case neg=>
  have m:Hid (¬saP K t):=fun I=>T (z.out.1 I).2.1;have ba:Hid ((gG L%2 !=t)=true):=by show(gG L%2 !=t)=true;simpa using T
  clear T;refine nj 7 50 (v:= ?vvn7) rfl rfl vk vk vk vk (fun _ _ _ h=>h) (v7 ⟨by rfl,?hyn7⟩) i ?restn7
  case hyn7=>(intro w H;(try dsimp only at H);go_simp;(try rw[ba.out]);try with_reducible rfl)
  simp only[Act.put,Bn,z7,BS];refine ai 8 i ?_;refine ai 9 i ?_;refine aE 10 i ?_;refine aE 11 i ?_;refine aE 12 i ?_;refine aE 13 i ?_;refine aE 14 i ?_;refine aE 15 i ?_;refine ai 16 i ?_;refine bi ?_;have B:Hid (Below l.1.size l bg):=E;clear j aB E M f i r;obtain⟨J,A⟩:=D.out m.out _ B.out;have k:Hid _:=A;obtain⟨⟨l0,s,u,y⟩,ad,f1,ae,af⟩:=ep ((B.out.block (w.1.size+1) uA).trans aA.out);have aT:=(a8.out.below B.out).b;clear J A p D z P;go_wp2_with fail;go_region;go_wp2;refine B3 (v:= .tuple #[aG 0 0 0 0,errV q]) (by simp[results,results82,go_sem,aG,l0,s,u,y]) rfl ?_;exact⟨k.out,v6 ⟨m.out,q,rfl⟩⟩
 have ba:Hid ((gG L%2 !=t)=false):=by show(gG L%2 !=t)=false;simpa using T
 refine nj 7 50 (v:= ?vvp7) rfl rfl vk vk vk vk (fun _ _ _ h=>h) (v7 ⟨by rfl,?hyp7⟩) i ?restp7
 case hyp7=>(intro w H;(try dsimp only at H);go_simp;(try rw[ba.out]);try with_reducible rfl)
 simp only[Act.put,Bn,z7,BS];refine ai 8 i ?_;refine ai 9 i ?_;refine ai 10 i ?_;refine ai 11 i ?_;refine ai 12 i ?_;refine ai 13 i ?_;refine ah 14 fun R G=> ?_;go_wp2_with fail;refine(nU d.sa d.pa d.sc d.pc K bg bC).mono ?_;rintro e bk ⟨rfl,bf⟩;have F:=E.trans (bf.mono E.size);have O:=p.out bk F;go_wp2_with fail;refine ao G ?_;clear G R;by_cases a2:sU L<=(K.n:Int)/4
 case neg=>
  have m:Hid (¬saP K t):=fun I=>a2 (z.out.1 I).2.2;have bb:Hid (decide ((K.n:Int)/4<sU L)=true):=CR uA;clear a2 T;refine nj 15 58 (v:= ?vvm15) rfl rfl vk vk vk vk (fun _ _ _ h=>h) (v7 ⟨by rfl,?hym15⟩) O ?restm15
  case hym15=>(intro w H;(try dsimp only at H);go_simp;(try rw[bb.out]);try with_reducible rfl)
  simp only[Act.put,Bn,z7,BS];refine ai 16 O ?_;refine bi ?_;have B:Hid (Below l.1.size l bk):=F;clear j aB E bf F M f i O r;obtain⟨J,A⟩:=D.out m.out _ B.out;have k:Hid _:=A;obtain⟨⟨l0,s,u,y⟩,ad,f1,ae,af⟩:=ep ((B.out.block (w.1.size+1) uA).trans aA.out);have aT:=(a8.out.below B.out).b;clear J A p D z P;go_wp2_with fail;go_region;go_wp2;refine B3 (v:= .tuple #[aG 0 0 0 0,errV q]) (by simp[results,results82,go_sem,aG,l0,s,u,y]) rfl ?_;exact⟨k.out,v6 ⟨m.out,q,rfl⟩⟩
 have J:saP K t:=z.out.2 ⟨r,T,a2⟩;have m:Hid (saP K t):=J;have bY:Hid _:=P.out J;have bb:Hid (decide ((K.n:Int)/4<sU L)=false):=CP uA;clear a2 T J;refine nj 15 58 (v:= ?vvy15) rfl rfl vk vk vk vk (fun _ _ _ h=>h) (v7 ⟨by rfl,?hyy15⟩) O ?resty15
 case hyy15=>(intro w H;(try dsimp only at H);go_simp;(try rw[bb.out]);try with_reducible rfl)
 simp only[Act.put,Bn,z7,BS];refine ai 16 O ?_;refine bi ?_;have B:Hid (Below l.1.size l bk):=F;have k:Hid _:=fT (ap.out.trans (F.mono ap.out.size)) (show w.1.size<=w.1.size+1 by omega) (.int .i64 (gG L)) (.int .i64 (sR L)) (.int .i64 (sU L)) (.int .i64 (sF L));obtain⟨⟨l0,s,u,y⟩,ad,f1,ae,af⟩:=ep ((F.block (w.1.size+1) uA).trans aA.out);obtain⟨k0,bP,bR,bS,_,_⟩:=O;clear j aB E bf F M f i r p D z P;go_wp2;refine B3 (v:= .tuple #[aG (gG L) (sR L) (sU L) (sF L),.nilIface]) (by simp[results,results82,go_sem,aG,l0,s,u,y]) rfl ?_;exact⟨k.out,v7 ⟨m.out,by rw[bY.out]⟩⟩
theorem nV:prog.globalNamed "loop.example/s01906/impl.errWrongBytes" =some 0:=vk
theorem nW:prog.globalNamed "loop.example/s01906/impl.errNoPage" =some 1:=vk
theorem qS:(prog.globals[0]?).map (·.type)=some 142:=vk
theorem qT:(prog.globals[1]?).map (·.type)=some 142:=vk
theorem vz:prog.cellsOf 321=1:=vk
theorem vC:prog.cellsOf 9=1:=vk
theorem vD: "*" ++ "errors.errorString" = "*errors.errorString" :=uB
theorem vE(u)(h:prog.typeName? 3 u=some "*errors.errorString"):u=298:=
 typeName_ptr_named (nm:= "errors.errorString") (by rw[vD];kernel_rfl) vk uB u (by rw[vD];exact h)
def mt:List (String×DataW Unit):=[("loop.example/s01906/impl.errWrongBytes",Rows.laid_loop_example_s01906_impl_errWrongBytes),("loop.example/s01906/impl.errNoPage",Rows.laid_loop_example_s01906_impl_errNoPage)]
theorem Dy{d}(F:laidMetH prog mt d):∃n o:Addr,d.var? prog "loop.example/s01906/impl.errNoPage" =some #[errV n]/\d.var? prog "loop.example/s01906/impl.errWrongBytes" =some #[errV o]/\Errs d n o:=by
 have h:laidMet prog mt d:=by rw[<-Go.MakeChecks.laidMetH_plain prog mt d vk];exact F
 obtain⟨ps,⟨P,t0,l,O,R,T,f,x,b,r,⟨Q,B,m,f1,S,H,g,y,c,s,w,E⟩,e0⟩,t,a⟩:=h;obtain rfl:=Option.some.inj (nV.symm.trans f);obtain rfl:=Option.some.inj (nW.symm.trans g);obtain rfl:=Option.some.inj (qS.symm.trans x);obtain rfl:=Option.some.inj (qT.symm.trans y);have k:H=[]:=w;subst k;subst E;subst e0;obtain⟨l0⟩:=l;obtain⟨G⟩:=m;have z:∀u v,l0=[.iface u v]->Value.okWide prog d .any 0 u v:=fun u v e=>by
  subst e;exact(a 0 0 (by simp[MemPlace.row])).2 u v (by simpa using World.var?_cell f b 0)
 have A:∀u v,G=[.iface u v]->Value.okWide prog d .any 0 u v:=fun u v e=>by
  subst e;exact(a 1 0 (by simp[MemPlace.row])).2 u v (by simpa using World.var?_cell g c 0)
 obtain⟨i,U,rfl,I,K,M,rfl⟩:=errorString_of_trod underlying142 vE underlying298 underlying321 rfl rfl D7 vz vC r z;obtain⟨j,V,rfl,J,L,N,rfl⟩:=errorString_of_trod underlying142 vE underlying298 underlying321 rfl rfl D7 vz vC s A;obtain⟨C,t0,p⟩:=(a i.block i.off (by simp[MemPlace.row])).1;obtain⟨D,B,q⟩:=(a j.block j.off (by simp[MemPlace.row])).1;refine⟨j,i,c,b,by simpa using World.var?_cell nW c 0,by simpa using World.var?_cell nV b 0,?_,⟨D,B,q⟩,⟨C,t0,p⟩⟩;rintro rfl;simp[MemPlace.row]at t
theorem vF{a c n cs}(h:a.var? prog n=some cs)(b:Below a.1.size a c):c.var? prog n=some cs:=by
 unfold World.var? at h ⊢;cases d:prog.globalNamed n with
 |none=>simp[d]at h
 |some g=>
  simp only[d,xC]at h ⊢;have e:g<a.1.size:=by
   rcases xP g a.1.size with h'|h'
   ·exact h'
   ·simp[Array.getElem?_eq_none h']at h
  rw[b.block g e];exact h
abbrev errTextB:ByteArray:={data:=#[116,104,101,115,101,32,97,114,101,32,110,111,116,32,116,104,101,32,98,121,116,101,115,32,111,102,32,116,104,101,32,112,97,103,101]}
abbrev errTextN:ByteArray:={data:=#[116,104,101,32,100,105,115,107,32,104,97,115,32,110,111,32,115,117,99,104,32,112,97,103,101]}
noncomputable def nX:Nat:=(World.holding prog default ⟨#[],#[],[]⟩).1.size
noncomputable def vG(os:Os):World:=
 let w0:=World.holding prog os ⟨#[.cells #[.string errTextB] 321,.cells #[.string errTextN] 321],#[],[]⟩
 {w0 with heap:=(w0.heap.modify 0 fun
  | .cells _ t frozen=> .cells #[.iface 298 (.pointer (some ⟨nX,0,none⟩))] t frozen
  |o=>o).modify 1 fun
  | .cells _ t frozen=> .cells #[.iface 298 (.pointer (some ⟨nX+1,0,none⟩))] t frozen
  |o=>o}
theorem Dz(os args):laidMetH prog mt ((vG os).forCall (fun _ _=>0) ⟨#[],args,[]⟩).memory:=by
 rw[Go.MakeChecks.laidMetH_plain prog mt _ vk];exact laidMet_of_run (ps:=[.cell 0 0,.cell nX 0,.cell 1 0,.cell (nX+1) 0]) 8 vk vk vk
