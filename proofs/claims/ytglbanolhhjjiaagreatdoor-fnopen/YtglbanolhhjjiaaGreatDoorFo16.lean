import Derived.Test.YtglbanolhhjjiaaGreatDoorFo12
import Derived.Test.YtglbanolhhjjiaaGreatDoorFo14
import Derived.Stop.LaidErr
import Derived.Stop.Joined
import Derived.LaidHandle
import Derived.MakeChecks
namespace Go.Proofs.YtglbanolhhjjiaaGreatDoor
open Go.Proofs.Tryz
open Go.RowKit Go.Maps Go.ChangeShapes Go.WideShapes
set_option linter.unusedVariables false
set_option maxRecDepth 100000
set_option maxHeartbeats 32000000
theorem Ds(d id a n c l w)(i:Bs w a n c l)(g:w.cell? ⟨0,0,none⟩=some (errV d)):
 Calls prog 153 #[.int .i64 id,.slice a n c] w fun e w'=>Below w.1.size w w'/\((cC id l/\∃a c,e= .returned (.tuple #[.int .i64 (kd l),.slice a (aY l).length c,.nilIface])/\Own w.1.size w' a (aY l).length c (aY l))\/(¬cC id l/\e= .returned (.tuple #[.int .i64 0,.slice none 0 0,errV d]))):=by
 by_cases f:n=256
 ·subst f;obtain⟨b,h,rfl,_,_⟩:=i.at_ t7;exact CJ d id b h c l w i g
 ·refine(CI d id a n c l w i f g).mono ?_;rintro e w' ⟨j,rfl⟩;exact⟨j,u4 ⟨fun k=>f (by rw[<-i.len_eq];exact k.1),rfl⟩⟩
structure Errs(w:World)(eN eW:Addr):Prop where
 n:w.cell? ⟨1,0,none⟩=some (errV eN)
 b:w.cell? ⟨0,0,none⟩=some (errV eW)
 ne:eW≠eN
 rn:∃c t,w.heap[eN.block]?=some (.cells c t (0,0))
 rb:∃c t,w.heap[eW.block]?=some (.cells c t (0,0))
theorem Errs.below{w w' d f}(b:Errs w d f)(a:Below w.1.size w w'):Errs w' d f:=
 ⟨by rw[a.cell (p:=⟨1,0,none⟩) (World.block_lt_of_cell? w _ b.n)];exact b.n,by rw[a.cell (p:=⟨0,0,none⟩) (World.block_lt_of_cell? w _ b.b)];exact b.b,b.ne,
  by obtain⟨c,t,e⟩:=b.rn;exact⟨c,t,by rw[a.block _ (vR.1 e).1];exact e⟩,by obtain⟨c,t,e⟩:=b.rb;exact⟨c,t,by rw[a.block _ (vR.1 e).1];exact e⟩⟩
theorem nU(c b d pc)(K:DK)(w)(f:K.n<=4096):
 Calls prog 73 #[.agg #[.slice c K.n d,.slice b K.m pc]] w fun e w'=>e= .returned (.int .i64 ((K.n:Int)/4))/\Below w.1.size w w':=by
 have g:(K.n:Int).tdiv 4=(K.n:Int)/4:=y6 t7;have a:Hid _:=(Bn w.1.size w).alloc t1 (.cells #[.slice c K.n d,.slice b K.m pc] 35);go_enter func73,ntmps73;go_wp2;go_ret;exact⟨rfl,a.out⟩
theorem mr{w w' g n}{D:DataW Unit}(d:w.ownsMap prog 3 (plainElem prog 3) g n D)(b:Below w.1.size w w'):w'.ownsMap prog 3 (plainElem prog 3) g n D:=by
 obtain⟨es,c,a,r⟩:=d;exact⟨es,c,(b.block g (vR.1 a).1).trans a,r⟩
theorem Dt(a2 x d K)(T g:Nat)(w)(a3:RDisk w d K)(s:dOk K)(S:Errs w a2 x)(k:w.ownsMap prog 3 (plainElem prog 3) g K.m (dz K.At K.m))(U:eD K (T:Int)):
 Calls prog 120 #[.agg #[.slice d.sa K.n d.sc,.slice d.pa K.m d.pc,.map (some g)],.int .i64 T] w fun e w'=>Below w.1.size w w'/\((cC T (pgL K T)/\∃a c,e= .returned (.tuple #[.int .i64 (kd (pgL K T)),.slice a (aY (pgL K T)).length c,.nilIface])/\Own w.1.size w' a (aY (pgL K T)).length c (aY (pgL K T)))\/(¬cC T (pgL K T)/\e= .returned (.tuple #[.int .i64 0,.slice none 0 0,errV x]))):=by
 have Y:=s.1.2.1;have W:=nR U;obtain⟨a9,ba⟩:=U;have y:=(Bn w.1.size w).alloc t1 (.cells #[.slice d.sa K.n d.sc,.slice d.pa K.m d.pc,.map (some g)] 122);have a8:=DI w (.cells #[.slice d.sa K.n d.sc,.slice d.pa K.m d.pc,.map (some g)] 122);have J:(w.alloc (.cells #[.slice d.sa K.n d.sc,.slice d.pa K.m d.pc,.map (some g)] 122)).1.size=w.1.size+1:=by simp
 have t:Hid _:=a3.below y;have an:Hid (World.ownsMap (w.alloc (.cells #[.slice d.sa K.n d.sc,.slice d.pa K.m d.pc,.map (some g)] 122)) prog 3 (plainElem prog 3) g K.m (dz K.At K.m)):=mr k y;have am:Hid _:=S.below y;have l:Hid (dOk K):=s;have ak:Hid (IsB (pgL K T)):=qL a3 W;have aB:Hid _:=y;clear s a3 k S;go_enter func120,ntmps120;go_wp2_with fail;generalize V:w.alloc (.cells #[.slice d.sa K.n d.sc,.slice d.pa K.m d.pc,.map (some g)] 122)=h at*;clear V;refine(nU d.sa d.pa d.sc d.pc K h Y).mono ?_;rintro e w1 ⟨rfl,a0⟩;have ae:Hid _:=a0;have I:=jO (w.1.size+1) w1;go_wp2_with fail;go_loopw [7,8,19] (fun o _ i wr=> ∃(j:Nat)(n:Option Addr)(q:Nat),j<=4/\i= .int .i64 (j:Nat)/\o= .slice n (64*j) q/\Below (w.1.size+1) h wr/\Own (w.1.size+1) wr n (64*j) q (fS K T j)) (fun _ _ i _=>4-(intOf i).toNat)
 case atStart=>exact⟨0,_,0,t7,rfl,rfl,by rw[<-J];exact ae.out,I⟩
 case round=>
  obtain⟨j,n,q,bd,rfl,rfl,f,k⟩:=hrel;have C:Hid _:=f;have O:Hid _:=k;by_cases bb:j<4
  ·have b:Below h.1.size h wr:=by rw[J];exact f
   have A:=(f.block w.1.size (xc _)).trans a8;have k0:wr.cell? ⟨w.1.size,0,none⟩=some (.slice d.sa K.n d.sc):=by rw[CV wr _ 0 _ _ _ A];rfl
   have a4:wr.cell? ⟨w.1.size,1,none⟩=some (.slice d.pa K.m d.pc):=by rw[CV wr _ 1 _ _ _ A];rfl
   have a5:wr.cell? ⟨w.1.size,2,none⟩=some (.map (some g)):=by rw[CV wr _ 2 _ _ _ A];rfl
   have z:=nA (t.out.below b) (4*T+j) t7;rw[nC t.out l.out (4*T+j) t7]at z;have H:=t.out.below b;have u:=Bv d.sa d.pa d.sc d.pc d.sA d.pA d.sN d.sC d.pN d.pC K wr H.safe H.pend l.out g (4*T+j) t7 (mr an.out b);rw[nC t.out l.out (4*T+j) t7]at u;generalize aP K.At d.pA d.sA K.m (4*T+j)=bg at*;generalize aP K.At d.pC d.sC K.m (4*T+j)=a7 at*;have M:Hid (fS K T (j+1)=fS K T j++gL K (4*T+j)):=rfl;obtain⟨m,X⟩:∃m:Nat,m=4*T+j:=⟨_,rfl⟩;rw[<-X]at u z M;have bc:(T:Int)*4+(j:Int)=(m:Int):=t7;have bl:=f.size;clear f k b I X H A;go_wp2_with fail;refine u.mono ?_;rintro e a6 ⟨rfl,p⟩;have aS:Hid _:=z.below p;have ap:Hid _:=Own.below (B:=w.1.size+1) O.out p;have af:Hid (Below (w.1.size+1) h a6):=C.out.trans (p.mono t7);have bk:=p.size;clear p z u k0 a4 a5;go_wp2_with (at_builtin;refine eu rfl _ _ rfl (w.1.size+1) n (64*j) q (fS K T j) rfl ?own _ 64 a7 (gL K m) rfl ?bs ?len ?B ?_)
   case own=>exact ap.out
   case bs=>exact aS.out
   case len=>omega
   case B=>omega
   intro aX a1 bf ab Q _;have ag:Hid _:=af.out.trans Q;have aA:Hid _:=ab;clear ab Q;go_wp2;go_roundw
   case rel=>exact⟨j+1,aX,a1,t7,by go_num,rfl,ag.out,by rw[M.out];exact aA.out⟩
   case measure=>simp[intOf];omega
  ·have e:j=4:=t7;subst e;have b:Below h.1.size h wr:=by rw[J];exact f
   have D:Hid (Below w.1.size w wr):=aB.out.trans (f.mono t7);have P:=Ds x (T:Int) n 256 q (pgL K T) wr (Own.bs (B:=w.1.size+1) k ak.out) (am.out.below b).b;clear f k I C O b;go_wp2_with fail;refine P.mono ?_;rintro e ad ⟨R,Z⟩;have L:Hid (Below w.1.size w ad):=D.out.trans (R.mono D.out.size);have aT:Hid (w.1.size<=wr.1.size):=D.out.size;clear R P;rcases Z with⟨r,F,G,rfl,ac⟩|⟨r,rfl⟩
   ·have N:Hid (Own w.1.size ad F (aY (pgL K T)).length G (aY (pgL K T))):=ac.mono aT.out;have E:Hid _:=r;clear ac r;go_wp2;refine BB (v:= .tuple #[.int .i64 (kd (pgL K T)),.slice F (aY (pgL K T)).length G,.nilIface]) (by simp[results,results120,go_sem]) rfl ?_;exact⟨L.out,u5 ⟨E.out,F,G,rfl,N.out⟩⟩
   ·have E:Hid _:=r;clear r;go_wp2;refine BB (v:= .tuple #[.int .i64 0,.slice none 0 0,errV x]) (by simp[results,results120,go_sem]) rfl ?_;exact⟨L.out,u4 ⟨E.out,rfl⟩⟩
theorem Du(a r d b f pc K t g w)(n:K.n<=4096)(j:Errs w a r)(k:¬eD K t):
 Calls prog 120 #[.agg #[.slice d K.n f,.slice b K.m pc,.map (some g)],.int .i64 t] w fun e w'=>Below w.1.size w w'/\e= .returned (.tuple #[.int .i64 0,.slice none 0 0,errV a]):=by
 have c:=(Bn w.1.size w).alloc t1 (.cells #[.slice d K.n f,.slice b K.m pc,.map (some g)] 122);have l:=(j.below c).n;have p:Hid _:=j.below c;have h:Hid _:=c;clear j c;by_cases s:t<0
 ·clear k;go_enter func120,ntmps120;go_wp2_with fail;go_region;go_wp2;refine BB (v:= .tuple #[.int .i64 0,.slice none 0 0,errV a]) (by simp[results,results120,go_sem]) rfl ?_;exact⟨h.out.drew,rfl⟩
 ·have u:(K.n:Int)/4<=t:=by unfold eD at k;omega
  clear k l;go_enter func120,ntmps120;go_wp2_with fail;generalize m:w.alloc (.cells #[.slice d K.n f,.slice b K.m pc,.map (some g)] 122)=q at*;clear m;refine(nU d b f pc K q n).mono ?_;rintro e w1 ⟨rfl,i⟩;have l:=(p.out.below i).n;have o:Hid (Below w.1.size w w1):=h.out.trans (i.mono h.out.size);clear i;go_wp2_with fail;go_region;go_wp2;refine BB (v:= .tuple #[.int .i64 0,.slice none 0 0,errV a]) (by simp[results,results120,go_sem]) rfl ?_;exact⟨o.out.drew,rfl⟩
theorem vx(i j d K t g w)(s:RDisk w d K)(k:dOk K)(p:Errs w i j)(r:w.ownsMap prog 3 (plainElem prog 3) g K.m (dz K.At K.m)):
 Calls prog 120 #[.agg #[.slice d.sa K.n d.sc,.slice d.pa K.m d.pc,.map (some g)],.int .i64 t] w fun e w'=>Below w.1.size w w'/\
  ((vB K t=true/\∃a c,e= .returned (.tuple #[.int .i64 (vK K t),.slice a (vL K t).length c,.nilIface])/\Own w.1.size w' a (vL K t).length c (vL K t))\/(vB K t=false/\vK K t=0/\vL K t=[]/\(e= .returned (.tuple #[.int .i64 0,.slice none 0 0,errV j])\/e= .returned (.tuple #[.int .i64 0,.slice none 0 0,errV i])))):=by
 by_cases f:eD K t
 ·obtain⟨T,rfl⟩:=xb f.1;have l:vK K (T:Int)=gN T (pgL K T):=by unfold vK;rw[ii f];rfl
  have m:vL K (T:Int)=dj T (pgL K T):=by unfold vL;rw[ii f];rfl
  have n:vB K (T:Int)=gl T (pgL K T):=by unfold vB;rw[ii f];rfl
  rw[l,m,n];refine(Dt i j d K T g w s k p r f).mono ?_;rintro e w' ⟨b,q⟩;refine⟨b,?_⟩;rcases q with⟨h,a,c,rfl,o⟩|⟨h,rfl⟩
  ·rw[un h,lY h,nF h];exact u5 ⟨rfl,a,c,rfl,o⟩
  ·rw[lX h,jx h,jw h];exact u4 ⟨rfl,rfl,rfl,u5 rfl⟩
 ·have l:vK K t=0:=by unfold vK;rw[ij f]
  have m:vL K t=[]:=by unfold vL;rw[ij f]
  have n:vB K t=false:=by unfold vB;rw[ij f]
  refine(Du i j d.sa d.pa d.sc d.pc K t g w k.1.2.1 p f).mono ?_;rintro e w' ⟨b,rfl⟩;exact⟨b,u4 ⟨n,l,m,u4 rfl⟩⟩
def gG(L:List Int):Int:=iy (L.take 8)
theorem vy{L}(c:IsB L)(d:L.length=20):(L.getD 7 0=0->gG L=sG L)/\(L.getD 7 0≠0->gG L<1\/1000000000000<gG L):=by
 have e:=Bk (gR c 8) (by rw[wv,d];rfl);have a:(L.take 8).getD 7 0=L.getD 7 0:=by rw[x3,x3,List.getElem?_take_of_lt t7]
 have b:(L.take 8).take 7=L.take 7:=by rw[List.take_take];rfl
 rw[a,b]at e;exact e
theorem Dv{K t}(g:IsB (vL K t))(h:vB K t=true)(i:vK K t=1)(f:(vL K t).length=20):saP K t↔bG (gG (vL K t)) (sR (vL K t)) (sU (vL K t)) (sF (vL K t))=true/\gG (vL K t)%2=t/\sU (vL K t)<=(K.n:Int)/4:=by
 have e:=vy g f;constructor
 ·rintro⟨_,_,_,b,a,c,d⟩;rw[e.1 b];exact⟨a,c,d⟩
 ·rintro⟨a,c,d⟩;by_cases b:(vL K t).getD 7 0=0
  ·rw[e.1 b]at a c;exact⟨h,i,f,b,a,c,d⟩
  ·rw[vt (e.2 b)]at a;cases a
theorem Dw{K t}(b:IsB (vL K t))(a:saP K t):saV K t=aG (gG (vL K t)) (sR (vL K t)) (sU (vL K t)) (sF (vL K t)):=by
 rw[qR a,(vy b a.2.2.1).1 a.2.2.2.1]
theorem Dx(aS p d K t g w)(am:RDisk w d K)(ag:dOk K)(a0:Errs w aS p)(bE:w.ownsMap prog 3 (plainElem prog 3) g K.m (dz K.At K.m)):
 Calls prog 82 #[.agg #[.slice d.sa K.n d.sc,.slice d.pa K.m d.pc,.map (some g)],.int .i64 t] w fun e w'=>Below w.1.size w w'/\((saP K t/\e= .returned (.tuple #[saV K t,.nilIface]))\/(¬saP K t/\∃x,e= .returned (.tuple #[aG 0 0 0 0,errV x]))):=by
 have bC:=ag.1.2.1;have Y:=fK w (.cells #[.slice d.sa K.n d.sc,.slice d.pa K.m d.pc,.map (some g)] 122) (.cells #[.int .i64 0,.int .i64 0,.int .i64 0,.int .i64 0] 36);have bW:=DI w (.cells #[.slice d.sa K.n d.sc,.slice d.pa K.m d.pc,.map (some g)] 122);have bl:=DI (w.alloc (.cells #[.slice d.sa K.n d.sc,.slice d.pa K.m d.pc,.map (some g)] 122)) (.cells #[.int .i64 0,.int .i64 0,.int .i64 0,.int .i64 0] 36);have cm:((w.alloc (.cells #[.slice d.sa K.n d.sc,.slice d.pa K.m d.pc,.map (some g)] 122)).alloc (.cells #[.int .i64 0,.int .i64 0,.int .i64 0,.int .i64 0] 36)).1.size=w.1.size+1+1:=by simp
 have a7:((w.alloc (.cells #[.slice d.sa K.n d.sc,.slice d.pa K.m d.pc,.map (some g)] 122)).alloc (.cells #[.int .i64 0,.int .i64 0,.int .i64 0,.int .i64 0] 36)).heap[w.1.size]?=some (.cells #[.slice d.sa K.n d.sc,.slice d.pa K.m d.pc,.map (some g)] 122 (0,0)):=by rw[Below.heap_alloc _ _ _ uB];exact bW
 simp only[World.size_alloc]at bl;have bu:=vx aS p d K t g _ (am.below Y) ag (a0.below Y) (mr bE Y);have a9:Hid (IsB (vL K t)):=ml am t;have cc:=mn ag t;have bn:Hid _:=a0.below Y;have cf:0<w.1.size:=World.block_lt_of_cell? w ⟨0,0,none⟩ a0.b;have ce:¬w.1.size=0:=t7;have bX:Hid _:=Y;clear bW Y a0 bE;go_enter func82,ntmps82;go_wp2_with fail;generalize bx:(w.alloc (.cells #[.slice d.sa K.n d.sc,.slice d.pa K.m d.pc,.map (some g)] 122)).alloc (.cells #[.int .i64 0,.int .i64 0,.int .i64 0,.int .i64 0] 36)=cg at*;clear bx;refine bu.mono ?_;rintro e w1 ⟨X,bF⟩;have u0:=(X.block w.1.size t7).trans a7;have u1:=(X.block (w.1.size+1) t7).trans bl;have an:Hid (Below w.1.size w w1):=bX.out.trans (X.mono t7);have W:=bn.out.below X;have aT:=W.b;obtain⟨⟨l0,r,s,u⟩,ac,f1,ad,ae⟩:=ep u1;have b8:Hid (w.1.size+1+1<=w1.1.size):=by have:=X.size;show w.1.size+1+1<=w1.1.size;omega
 clear bu X a7 bl;rcases bF with⟨P,cj,m,rfl,a3⟩|⟨P,_,_,bz⟩
 case inr=>
  have l:Hid (¬saP K t):=fun H=>by rw[H.1]at P;cases P
  have j:Hid _:=fT an.out (show w.1.size<=w.1.size+1 by omega) (.int .i64 0) (.int .i64 0) (.int .i64 0) (.int .i64 0);clear u0 u1 P W;rcases bz with rfl|rfl
  ·go_wp2;refine BB (v:= .tuple #[aG 0 0 0 0,errV p]) (by simp[results,results82,go_sem,aG,l0,r,s,u]) rfl ?_;exact⟨j.out,u4 ⟨l.out,p,rfl⟩⟩
  ·go_wp2;refine BB (v:= .tuple #[aG 0 0 0 0,errV aS]) (by simp[results,results82,go_sem,aG,l0,r,s,u]) rfl ?_;exact⟨j.out,u4 ⟨l.out,aS,rfl⟩⟩
 by_cases af:vK K t=1
 case neg=>
  have l:Hid (¬saP K t):=fun H=>af H.2.1;have bB:(vK K t !=1)=true:=by simp[af]
  have j:Hid _:=(fT an.out (show w.1.size<=w.1.size+1 by omega) (.int .i64 0) (.int .i64 0) (.int .i64 0) (.int .i64 0)).drew;clear u0 u1 P W;go_wp2_with fail;go_region;go_wp2;refine BB (v:= .tuple #[aG 0 0 0 0,errV p]) (by simp[results,results82,go_sem,aG,l0,r,s,u]) rfl ?_;exact⟨j.out,u4 ⟨l.out,p,rfl⟩⟩
 by_cases a1:(vL K t).length=20
 case neg=>
  have l:Hid (¬saP K t):=fun H=>a1 H.2.2.1;have cb:(((vL K t).length:Int) !=20)=true:=by simp;omega
  have bB:(vK K t !=1)=false:=by simp[af]
  have j:Hid _:=(fT an.out (show w.1.size<=w.1.size+1 by omega) (.int .i64 0) (.int .i64 0) (.int .i64 0) (.int .i64 0)).drew;generalize (vL K t).length=N at*;clear u0 u1 P W;go_wp2_with fail;go_region;go_wp2;refine BB (v:= .tuple #[aG 0 0 0 0,errV p]) (by simp[results,results82,go_sem,aG,l0,r,s,u]) rfl ?_;exact⟨j.out,u4 ⟨l.out,p,rfl⟩⟩
 have y:Hid _:=Dv a9.out P af a1;have O:Hid (saP K t->saV K t=aG (gG (vL K t)) (sR (vL K t)) (sU (vL K t)) (sF (vL K t))):=Dw a9.out;rw[a1]at a3;obtain⟨aX,rfl,bA⟩:=qO a3 t7;have U:=a3.bs a9.out;have bZ:20<=m:=U.le;have a6:m<=maxLen:=U.le';generalize vL K t=L at*;generalize vK K t=cl at*;subst af;have bc:Hid (Bs w1 (some ⟨aX,0,none⟩) 8 m (L.take 8)):=U.piece 0 8 t7 m t7 a6;have bd:Hid (Bs w1 (some ⟨aX,8,none⟩) 4 (m-8) (aJ L 8 4)):=by have:=U.piece 8 4 t7 (m-8) t7 t7;rw[wg]at this;exact this
 have Z:Hid (Bs w1 (some ⟨aX,12,none⟩) 4 (m-12) (aJ L 12 4)):=by have:=U.piece 12 4 t7 (m-12) t7 t7;rw[wg]at this;exact this
 have ab:Hid (Bs w1 (some ⟨aX,16,none⟩) 4 (m-16) (aJ L 16 4)):=by have:=U.piece 16 4 t7 (m-16) t7 t7;rw[wg]at this;exact this
 have b9:¬m=8:=t7;have b0:¬m=12:=t7;have b1:¬m=16:=t7;have ca:(8:Int)<=(m:Int):=t7;have b2:(12:Int)<=(m:Int):=t7;have b3:(16:Int)<=(m:Int):=t7;have b4:(20:Int)<=(m:Int):=t7;generalize L.length=N at*;subst a1;clear a3 U a6 P;go_wp2_with fail;have br:Hid (∀a n c v,Bs v a n c (L.take 8)->n=8->Calls prog 121 #[.slice a n c] v fun e w'=>e= .returned (.int .i64 (gG L))/\w'=v):=fun a n c v R T=>by subst T;exact Bm a c (L.take 8) v R
 have bs:Hid (∀a n c v,Bs v a n c (aJ L 8 4)->n<=6->Calls prog 121 #[.slice a n c] v fun e w'=>e= .returned (.int .i64 (sR L))/\w'=v):=fun a n c v R T=>iO a n c (aJ L 8 4) v R T;have a4:Hid (∀a n c v,Bs v a n c (aJ L 12 4)->n<=6->Calls prog 121 #[.slice a n c] v fun e w'=>e= .returned (.int .i64 (sU L))/\w'=v):=fun a n c v R T=>iO a n c (aJ L 12 4) v R T;have a5:Hid (∀a n c v,Bs v a n c (aJ L 16 4)->n<=6->Calls prog 121 #[.slice a n c] v fun e w'=>e= .returned (.int .i64 (sF L))/\w'=v):=fun a n c v R T=>iO a n c (aJ L 16 4) v R T;have B:=Bn w1.1.size w1;go_cut [9] (fun b6 b7=>b6= .pointer (some ⟨w1.1.size,0,none⟩)/\b7=(w1.alloc (.cells #[.int .i64 (gG L),.int .i64 (sR L),.int .i64 (sU L),.int .i64 (sF L)] 36)).drew)
 case first=>
  go_region_held3 (fun _=>True) (trivial)
   (first
   |(go_at_call 121;refine(br.out _ _ _ _ ?_ ?_).mono ?_;(first|exact bc.out.below B.drew|exact bc.out.below (B.drew.alloc B.drew.size _));omega;rintro e w' ⟨rfl,rfl⟩)
   |(go_at_call 121;refine(bs.out _ _ _ _ ?_ ?_).mono ?_;(first|exact bd.out.below B.drew|exact bd.out.below (B.drew.alloc B.drew.size _));omega;rintro e w' ⟨rfl,rfl⟩)
   |(go_at_call 121;refine(a4.out _ _ _ _ ?_ ?_).mono ?_;(first|exact Z.out.below B.drew|exact Z.out.below (B.drew.alloc B.drew.size _));omega;rintro e w' ⟨rfl,rfl⟩)
   |(go_at_call 121;refine(a5.out _ _ _ _ ?_ ?_).mono ?_;(first|exact ab.out.below B.drew|exact ab.out.below (B.drew.alloc B.drew.size _));omega;rintro e w' ⟨rfl,rfl⟩))
  all_goals
   go_wp2_with fail
   go_meet
   exact⟨rfl,rfl⟩
 case rest=>
 obtain⟨rfl,rfl⟩:=hcut;clear br bs a4 a5 bc bd Z ab l0 r s u ac f1 ad ae aT;have bm:(w1.alloc (.cells #[.int .i64 (gG L),.int .i64 (sR L),.int .i64 (sU L),.int .i64 (sF L)] 36)).drew.heap[w1.1.size]?=some (.cells #[.int .i64 (gG L),.int .i64 (sR L),.int .i64 (sU L),.int .i64 (sF L)] 36 (0,0)):=DI w1 (.cells #[.int .i64 (gG L),.int .i64 (sR L),.int .i64 (sU L),.int .i64 (sF L)] 36);have ak:=((Bn w1.1.size w1).alloc t1 (.cells #[.int .i64 (gG L),.int .i64 (sR L),.int .i64 (sU L),.int .i64 (sF L)] 36)).drew;have cn:(w1.alloc (.cells #[.int .i64 (gG L),.int .i64 (sR L),.int .i64 (sU L),.int .i64 (sF L)] 36)).drew.1.size=w1.1.size+1:=by simp
 have a8:Hid _:=W.below ak;generalize (w1.alloc (.cells #[.int .i64 (gG L),.int .i64 (sR L),.int .i64 (sU L),.int .i64 (sF L)] 36)).drew=k at*;have cp:=b8.out;have ap:Hid (Below w.1.size w k):=an.out.trans (ak.mono t7);have aA:Hid _:=(ak.block (w.1.size+1) t7).trans u1;have bv:=(ak.block w.1.size t7).trans u0;have ch:Hid _:=bm;have o:Hid (∀v,Below k.1.size k v->(v.cell? ⟨w1.1.size,0,none⟩=some (.int .i64 (gG L))/\v.cell? ⟨w1.1.size,1,none⟩=some (.int .i64 (sR L))/\v.cell? ⟨w1.1.size,2,none⟩=some (.int .i64 (sU L))/\v.cell? ⟨w1.1.size,3,none⟩=some (.int .i64 (sF L))/\v.cell? ⟨w.1.size,0,none⟩=some (.slice d.sa K.n d.sc)/\v.cell? ⟨w.1.size,1,none⟩=some (.slice d.pa K.m d.pc))):=fun v b=>by
  obtain⟨⟨k0,bP,bR,bS⟩,_⟩:=ep ((b.block w1.1.size t7).trans bm);have bT:=(b.block w.1.size t7).trans bv;exact⟨k0,bP,bR,bS,by rw[CV v _ 0 _ _ _ bT];rfl,by rw[CV v _ 1 _ _ _ bT];rfl⟩
 have C:Hid (¬saP K t->∀v,Below k.1.size k v->¬saP K t/\Below w.1.size w ((((v.setCell ⟨w.1.size+1,0,none⟩ (.int .i64 0)).setCell ⟨w.1.size+1,1,none⟩ (.int .i64 0)).setCell ⟨w.1.size+1,2,none⟩ (.int .i64 0)).setCell ⟨w.1.size+1,3,none⟩ (.int .i64 0)).drew):=fun I v b=>⟨I,(fT (ap.out.trans (b.mono ap.out.size)) t7 _ _ _ _).drew⟩;clear u0 u1 bm ak bv W bA;go_wp2_with fail;have J:=o.out k.drew t2.drew;cases q:bG (gG L) (sR L) (sU L) (sF L)with
 |false=>
  have l:Hid (¬saP K t):=fun H=>by have:=(y.out.1 H).1;rw[q]at this;cases this
  have IO:=pP (gG L) (sR L) (sU L) (sF L) k.drew;rw[q]at IO;refine az (fun v=>v.cell? ⟨w1.1.size,0,none⟩=some (.int .i64 (gG L))/\v.cell? ⟨w1.1.size,1,none⟩=some (.int .i64 (sR L))/\v.cell? ⟨w1.1.size,2,none⟩=some (.int .i64 (sU L))/\v.cell? ⟨w1.1.size,3,none⟩=some (.int .i64 (sF L))/\v.cell? ⟨w.1.size,0,none⟩=some (.slice d.sa K.n d.sc)/\v.cell? ⟨w.1.size,1,none⟩=some (.slice d.pa K.m d.pc)) (fun _=>false) uA ?_;refine ai 0 J ?_;refine ah 1 fun Q F=> ?_;go_wp2_with fail;refine IO.mono ?_;rintro e V ⟨rfl,i⟩;replace i:Below k.1.size k V:=⟨i.os,i.tape,i.output,i.size,i.block⟩;have f:=o.out V i;go_wp2_with fail;refine ao F ?_;clear F Q IO;refine ai 2 f ?_;refine ai 3 f ?_;refine aE 4 f ?_;refine aE 5 f ?_;refine aE 6 f ?_;refine aE 7 f ?_;refine ai 8 f ?_;refine ai 9 f ?_;refine aE 10 f ?_;refine aE 11 f ?_;refine aE 12 f ?_;refine aE 13 f ?_;refine aE 14 f ?_;refine aE 15 f ?_;refine ai 16 f ?_;refine bi ?_;have A:Hid (Below k.1.size k V):=i;clear i J f q;obtain⟨I,z⟩:=C.out l.out _ A.out;have j:Hid _:=z;obtain⟨⟨l0,r,s,u⟩,ac,f1,ad,ae⟩:=ep ((A.out.block (w.1.size+1) t7).trans aA.out);have aT:=(a8.out.below A.out).b;clear I z o C y O;go_wp2_with fail;go_region;go_wp2;refine BB (v:= .tuple #[aG 0 0 0 0,errV p]) (by simp[results,results82,go_sem,aG,l0,r,s,u]) rfl ?_;exact⟨j.out,u4 ⟨l.out,p,rfl⟩⟩
 |true=>
 obtain⟨ck,b5⟩:=qQ q;have IO:=pP (gG L) (sR L) (sU L) (sF L) k.drew;rw[q]at IO;refine az (fun v=>v.cell? ⟨w1.1.size,0,none⟩=some (.int .i64 (gG L))/\v.cell? ⟨w1.1.size,1,none⟩=some (.int .i64 (sR L))/\v.cell? ⟨w1.1.size,2,none⟩=some (.int .i64 (sU L))/\v.cell? ⟨w1.1.size,3,none⟩=some (.int .i64 (sF L))/\v.cell? ⟨w.1.size,0,none⟩=some (.slice d.sa K.n d.sc)/\v.cell? ⟨w.1.size,1,none⟩=some (.slice d.pa K.m d.pc)) (fun _=>false) uA ?_;refine ai 0 J ?_;refine ah 1 fun Q F=> ?_;go_wp2_with fail;refine IO.mono ?_;rintro e V ⟨rfl,i⟩;replace i:Below k.1.size k V:=⟨i.os,i.tape,i.output,i.size,i.block⟩;have f:=o.out V i;go_wp2_with fail;refine ao F ?_;clear F Q IO;refine ai 2 f ?_;refine ai 3 f ?_;refine ai 4 f ?_;refine ai 6 f ?_;refine ah 5 fun Q F=> ?_;go_wp2_with fail;refine(Ae (gG L) (sR L) (sU L) (sF L) V t7 b5).mono ?_;rintro e bg ⟨rfl,aB⟩;have D:=i.trans (aB.mono i.size);have h:=o.out bg D;go_wp2_with fail;refine ao F ?_;clear F Q;by_cases S:gG L%2=t
 case neg=>
  have l:Hid (¬saP K t):=fun H=>S (y.out.1 H).2.1;have ba:Hid ((gG L%2 !=t)=true):=by show(gG L%2 !=t)=true;simpa using S
  clear S;refine nj 7 50 (v:= ?vvn7) rfl rfl uA uA uA uA (fun _ _ _ am=>am) (u5 ⟨by rfl,?hyn7⟩) h ?restn7
  case hyn7=>(intro w G;(try dsimp only at G);go_simp;(try rw[ba.out]);try with_reducible rfl)
  simp only[Act.put,AF,zb,A3];refine ai 8 h ?_;refine ai 9 h ?_;refine aE 10 h ?_;refine aE 11 h ?_;refine aE 12 h ?_;refine aE 13 h ?_;refine aE 14 h ?_;refine aE 15 h ?_;refine ai 16 h ?_;refine bi ?_;have A:Hid (Below k.1.size k bg):=D;clear i aB D J f h q;obtain⟨I,z⟩:=C.out l.out _ A.out;have j:Hid _:=z;obtain⟨⟨l0,r,s,u⟩,ac,f1,ad,ae⟩:=ep ((A.out.block (w.1.size+1) t7).trans aA.out);have aT:=(a8.out.below A.out).b;clear I z o C y O;go_wp2_with fail;go_region;go_wp2;refine BB (v:= .tuple #[aG 0 0 0 0,errV p]) (by simp[results,results82,go_sem,aG,l0,r,s,u]) rfl ?_;exact⟨j.out,u4 ⟨l.out,p,rfl⟩⟩
 have ba:Hid ((gG L%2 !=t)=false):=by show(gG L%2 !=t)=false;simpa using S
 refine nj 7 50 (v:= ?vvp7) rfl rfl uA uA uA uA (fun _ _ _ am=>am) (u5 ⟨by rfl,?hyp7⟩) h ?restp7
 case hyp7=>(intro w G;(try dsimp only at G);go_simp;(try rw[ba.out]);try with_reducible rfl)
 simp only[Act.put,AF,zb,A3];refine ai 8 h ?_;refine ai 9 h ?_;refine ai 10 h ?_;refine ai 11 h ?_;refine ai 12 h ?_;refine ai 13 h ?_;refine ah 14 fun Q F=> ?_;go_wp2_with fail;refine(nU d.sa d.pa d.sc d.pc K bg bC).mono ?_;rintro e bk ⟨rfl,bf⟩;have E:=D.trans (bf.mono D.size);have M:=o.out bk E;go_wp2_with fail;refine ao F ?_;clear F Q;by_cases a2:sU L<=(K.n:Int)/4
 case neg=>
  have l:Hid (¬saP K t):=fun H=>a2 (y.out.1 H).2.2;have bb:Hid (decide ((K.n:Int)/4<sU L)=true):=B2 t7;clear a2 S;refine nj 15 58 (v:= ?vvm15) rfl rfl uA uA uA uA (fun _ _ _ am=>am) (u5 ⟨by rfl,?hym15⟩) M ?restm15
  case hym15=>(intro w G;(try dsimp only at G);go_simp;(try rw[bb.out]);try with_reducible rfl)
  simp only[Act.put,AF,zb,A3];refine ai 16 M ?_;refine bi ?_;have A:Hid (Below k.1.size k bk):=E;clear i aB D bf E J f h M q;obtain⟨I,z⟩:=C.out l.out _ A.out;have j:Hid _:=z;obtain⟨⟨l0,r,s,u⟩,ac,f1,ad,ae⟩:=ep ((A.out.block (w.1.size+1) t7).trans aA.out);have aT:=(a8.out.below A.out).b;clear I z o C y O;go_wp2_with fail;go_region;go_wp2;refine BB (v:= .tuple #[aG 0 0 0 0,errV p]) (by simp[results,results82,go_sem,aG,l0,r,s,u]) rfl ?_;exact⟨j.out,u4 ⟨l.out,p,rfl⟩⟩
 have I:saP K t:=y.out.2 ⟨q,S,a2⟩;have l:Hid (saP K t):=I;have bY:Hid _:=O.out I;have bb:Hid (decide ((K.n:Int)/4<sU L)=false):=B1 t7;clear a2 S I;refine nj 15 58 (v:= ?vvy15) rfl rfl uA uA uA uA (fun _ _ _ am=>am) (u5 ⟨by rfl,?hyy15⟩) M ?resty15
 case hyy15=>(intro w G;(try dsimp only at G);go_simp;(try rw[bb.out]);try with_reducible rfl)
 simp only[Act.put,AF,zb,A3];refine ai 16 M ?_;refine bi ?_;have A:Hid (Below k.1.size k bk):=E;have j:Hid _:=fT (ap.out.trans (E.mono ap.out.size)) (show w.1.size<=w.1.size+1 by omega) (.int .i64 (gG L)) (.int .i64 (sR L)) (.int .i64 (sU L)) (.int .i64 (sF L));obtain⟨⟨l0,r,s,u⟩,ac,f1,ad,ae⟩:=ep ((E.block (w.1.size+1) t7).trans aA.out);obtain⟨k0,bP,bR,bS,_,_⟩:=M;clear i aB D bf E J f h q o C y O;go_wp2;refine BB (v:= .tuple #[aG (gG L) (sR L) (sU L) (sF L),.nilIface]) (by simp[results,results82,go_sem,aG,l0,r,s,u]) rfl ?_;exact⟨j.out,u5 ⟨l.out,by rw[bY.out]⟩⟩
theorem nV:prog.globalNamed "loop.example/s01906/impl.errWrongBytes" =some 0:=uA
theorem nW:prog.globalNamed "loop.example/s01906/impl.errNoPage" =some 1:=uA
theorem qS:(prog.globals[0]?).map (·.type)=some 142:=uA
theorem qT:(prog.globals[1]?).map (·.type)=some 142:=uA
theorem vz:prog.cellsOf 321=1:=uA
theorem vC:prog.cellsOf 9=1:=uA
theorem vD: "*" ++ "errors.errorString" = "*errors.errorString" :=uv
theorem vE(u)(a:prog.typeName? 3 u=some "*errors.errorString"):u=298:=
 typeName_ptr_named (nm:= "errors.errorString") (by rw[vD];kernel_rfl) uA uv u (by rw[vD];exact a)
def mt:List (String×DataW Unit):=[("loop.example/s01906/impl.errWrongBytes",Rows.laid_loop_example_s01906_impl_errWrongBytes),("loop.example/s01906/impl.errNoPage",Rows.laid_loop_example_s01906_impl_errNoPage)]
theorem Dy{d}(E:laidMetH prog mt d):∃m n:Addr,d.var? prog "loop.example/s01906/impl.errNoPage" =some #[errV m]/\d.var? prog "loop.example/s01906/impl.errWrongBytes" =some #[errV n]/\Errs d m n:=by
 have Q:laidMet prog mt d:=by rw[<-Go.MakeChecks.laidMetH_plain prog mt d uA];exact E
 obtain⟨ps,⟨O,t0,k,N,R,T,f,w,b,q,⟨P,A,l,f1,S,G,g,x,c,r,t,D⟩,e0⟩,s,a⟩:=Q;obtain rfl:=Option.some.inj (nV.symm.trans f);obtain rfl:=Option.some.inj (nW.symm.trans g);obtain rfl:=Option.some.inj (qS.symm.trans w);obtain rfl:=Option.some.inj (qT.symm.trans x);have j:G=[]:=t;subst j;subst D;subst e0;obtain⟨l0⟩:=k;obtain⟨F⟩:=l;have y:∀u v,l0=[.iface u v]->Value.okWide prog d .any 0 u v:=fun u v e=>by
  subst e;exact(a 0 0 (by simp[MemPlace.row])).2 u v (by simpa using World.var?_cell f b 0)
 have z:∀u v,F=[.iface u v]->Value.okWide prog d .any 0 u v:=fun u v e=>by
  subst e;exact(a 1 0 (by simp[MemPlace.row])).2 u v (by simpa using World.var?_cell g c 0)
 obtain⟨h,U,rfl,H,J,L,rfl⟩:=errorString_of_trod underlying142 vE underlying298 underlying321 rfl rfl DP vz vC q y;obtain⟨i,V,rfl,I,K,M,rfl⟩:=errorString_of_trod underlying142 vE underlying298 underlying321 rfl rfl DP vz vC r z;obtain⟨B,t0,o⟩:=(a h.block h.off (by simp[MemPlace.row])).1;obtain⟨C,A,p⟩:=(a i.block i.off (by simp[MemPlace.row])).1;refine⟨i,h,c,b,by simpa using World.var?_cell nW c 0,by simpa using World.var?_cell nV b 0,?_,⟨C,A,p⟩,⟨B,t0,o⟩⟩;rintro rfl;simp[MemPlace.row]at s
theorem vF{a c n cs}(d:a.var? prog n=some cs)(b:Below a.1.size a c):c.var? prog n=some cs:=by
 unfold World.var? at d ⊢;cases e:prog.globalNamed n with
 |none=>simp[e]at d
 |some g=>
  simp only[e,w7]at d ⊢;have f:g<a.1.size:=by
   rcases w9 g a.1.size with h'|h'
   ·exact h'
   ·simp[Array.getElem?_eq_none h']at d
  rw[b.block g f];exact d
abbrev errTextB:ByteArray:={data:=#[116,104,101,115,101,32,97,114,101,32,110,111,116,32,116,104,101,32,98,121,116,101,115,32,111,102,32,116,104,101,32,112,97,103,101]}
abbrev errTextN:ByteArray:={data:=#[116,104,101,32,100,105,115,107,32,104,97,115,32,110,111,32,115,117,99,104,32,112,97,103,101]}
noncomputable def nX:Nat:=(World.holding prog default ⟨#[],#[],[]⟩).1.size
noncomputable def vG(os:Os):World:=
 let w0:=World.holding prog os ⟨#[.cells #[.string errTextB] 321,.cells #[.string errTextN] 321],#[],[]⟩
 {w0 with heap:=(w0.heap.modify 0 fun
  | .cells _ t frozen=> .cells #[.iface 298 (.pointer (some ⟨nX,0,none⟩))] t frozen
  |o=>o).modify 1 fun
  | .cells _ t frozen=> .cells #[.iface 298 (.pointer (some ⟨nX+1,0,none⟩))] t frozen
  |o=>o}
theorem Dz(os args):laidMetH prog mt ((vG os).forCall (fun _ _=>0) ⟨#[],args,[]⟩).memory:=by
 rw[Go.MakeChecks.laidMetH_plain prog mt _ uA];exact laidMet_of_run (ps:=[.cell 0 0,.cell nX 0,.cell 1 0,.cell (nX+1) 0]) 8 uA uA uA
