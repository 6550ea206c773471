import Derived.Test.YtnohmedccbogkaaGreatDoorCo42
namespace Go.Proofs.YtnohmedccbogkaaGreatDoor
open Go.Proofs.Tryz
open Go.RowKit
set_option linter.unusedVariables false
set_option maxRecDepth 100000
set_option maxHeartbeats 32000000
def shT(K:BlK)(i:Nat):Prop:=(i=0↔(K.tx i).ni=0)/\(K.tx i).h=if i=0 then K.h else 0
def shP(K:BlK):Prop:=0<K.nt/\(∀i,i<K.nt->shT K i)/\gu (fun i=>ob (av K.tx i)) K.nt/\gu (spR K.tx K.nt) (spN K.tx K.nt)
noncomputable def shB(K:BlK):Bool:=open Classical in if shP K then true else false
theorem jt{K}(h:¬shP K):shB K=false:=q4 h
theorem Bk{K}(h:shP K):shB K=true:=qb h
noncomputable def fcC(es:List (ByteArray×ByteArray))(K:BlK):Nat->Int
 |0=>0
 |n+1=>if n=0 then 0 else if fcC es K n≠0 then fcC es K n else fe es (K.tx n) (av K.tx n) K.h
noncomputable def fcO(es:List (ByteArray×ByteArray))(K:BlK):Nat->Int
 |0=>0
 |n+1=>if n=0 then 0 else fcO es K n+fY es (K.tx n) (av K.tx n) K.h
theorem qp(es K):fcC es K 1=0/\fcO es K 1=0:=⟨rfl,rfl⟩
theorem uc{es K n}(a:1<=n)(h:fcC es K n=0):fcC es K (n+1)=fe es (K.tx n) (av K.tx n) K.h/\fcO es K (n+1)=fcO es K n+fY es (K.tx n) (av K.tx n) K.h:=by
 refine⟨?_,?_⟩
 ·rw[fcC,q4 kH,q4 (fun e=>e h)]
 ·rw[fcO,q4 kH]
theorem ud{es K n}(b:1<=n)(h:fcC es K n≠0):∀m,n<=m->fcC es K m=fcC es K n:=by
 intro m a;induction m with
 |zero=>omega
 |succ m ih=>
  rcases og a with h1|h1
  ·have e:=ih kH;rw[fcC,q4 kH,qb (by rw[e];exact h)];exact e
  ·rw[h1]
theorem ue(es){K}(id h)(d:K.ni<=6)(c:∀i,i<K.no->0<=K.V i/\K.V i<=1000000000000):0<=fY es K id h/\fY es K id h<=6000000000000:=by
 have e:=tZ es K.P K.ni;have f:=li c K.no kE;unfold fY;split
 ·rename_i a;have g:¬fc es K.P K.ni<bV K.V K.no:=fun b=>by
   unfold fe at a;split at a
   ·cases a
   ·split at a
    ·cases a
    ·rw[qb (kV b)]at a;cases a
  omega
 ·omega
theorem uf{es K}:∀n,(∀i,i<n->(K.tx i).ni<=6/\∀j,j< (K.tx i).no->0<=(K.tx i).V j/\(K.tx i).V j<=1000000000000)->0<=fcO es K n/\fcO es K n<=6000000000000*n
 |0,_=>by simp[fcO]
 |n+1,h=>by
  have ih:=uf (es:=es) n (fun i a=>h i kH);have b:=ue es (av K.tx n) K.h (h n kH).1 (h n kH).2;unfold fcO;split
  ·omega
  ·omega
noncomputable def ruC(es:List (ByteArray×ByteArray))(K:BlK):Int:=
 if K.prev≠tpI (gtE es ⟨#[116]⟩)\/K.h≠tpH (gtE es ⟨#[116]⟩)+1 then 2 else if dO (av K.tx) K.nt≠K.root then 3 else if shB K=false then 4
 else if fcC es K K.nt≠0 then fcC es K K.nt else if(dt K.h:Int)+fcO es K K.nt<bV (K.tx 0).V (K.tx 0).no\/tkB es (av K.tx 0) (K.tx 0).no=true then 8 else 0
section
variable {es:List (ByteArray×ByteArray)} {K:BlK}
theorem Bl(h:K.prev≠tpI (gtE es ⟨#[116]⟩)\/K.h≠tpH (gtE es ⟨#[116]⟩)+1):ruC es K=2:=qb h
theorem Bm(a:K.prev=tpI (gtE es ⟨#[116]⟩))(b:K.h=tpH (gtE es ⟨#[116]⟩)+1)(c:dO (av K.tx) K.nt≠K.root):ruC es K=3:=by
 unfold ruC;rw[q4 (by rw[<-a,<-b];simp),qb c]
theorem Bn(a:K.prev=tpI (gtE es ⟨#[116]⟩))(b:K.h=tpH (gtE es ⟨#[116]⟩)+1)(c:dO (av K.tx) K.nt=K.root)(d:shB K=false):ruC es K=4:=by
 unfold ruC;rw[q4 (by rw[<-a,<-b];simp),q4 (by simp[c]),qb d]
theorem Bo(a:K.prev=tpI (gtE es ⟨#[116]⟩))(b:K.h=tpH (gtE es ⟨#[116]⟩)+1)(c:dO (av K.tx) K.nt=K.root)(d:shB K=true)(e:fcC es K K.nt≠0):ruC es K=fcC es K K.nt:=by
 unfold ruC;rw[q4 (by rw[<-a,<-b];simp),q4 (by simp[c]),q4 (by simp[d]),qb e]
theorem Bp(a:K.prev=tpI (gtE es ⟨#[116]⟩))(b:K.h=tpH (gtE es ⟨#[116]⟩)+1)(c:dO (av K.tx) K.nt=K.root)(d:shB K=true)(e:fcC es K K.nt=0)(f:(dt K.h:Int)+fcO es K K.nt<bV (K.tx 0).V (K.tx 0).no\/tkB es (av K.tx 0) (K.tx 0).no=true):ruC es K=8:=by
 unfold ruC;rw[q4 (by rw[<-a,<-b];simp),q4 (by simp[c]),q4 (by simp[d]),q4 (by simp[e]),qb f]
theorem Bq(a:K.prev=tpI (gtE es ⟨#[116]⟩))(b:K.h=tpH (gtE es ⟨#[116]⟩)+1)(c:dO (av K.tx) K.nt=K.root)(d:shB K=true)(e:fcC es K K.nt=0)(f:¬((dt K.h:Int)+fcO es K K.nt<bV (K.tx 0).V (K.tx 0).no))(g:tkB es (av K.tx 0) (K.tx 0).no=false):ruC es K=0:=by
 unfold ruC;rw[q4 (by rw[<-a,<-b];simp),q4 (by simp[c]),q4 (by simp[d]),q4 (by simp[e]),q4 (by rw[g];rintro(h|h);exact f h;cases h)]
end
noncomputable def cxI(es:List (ByteArray×ByteArray))(h:Nat)(P:Nat->List Int×Int)(s:Nat):Nat->List Ch
 |0=>[]
 |k+1=>cxI es h P s k++[dlC (kyC (P k)),ptC (kyM 117 h (s+k:Nat)) (strOfNums ((P k).1++[(P k).2])++vOf (gtE es (kyC (P k))))]
def cxO(h:Nat)(id:List Int)(V:Nat->Int)(b:Bool):Nat->List Ch
 |0=>[]
 |n+1=>cxO h id V b n++[ptC (kyC (id,(n:Int))) (coT (V n) h b)]
noncomputable def cxT(es:List (ByteArray×ByteArray))(h:Nat)(K:Nat->TxK)(i:Nat):List Ch:=
 cxI es h (K i).P (spN K i) (K i).ni++(ptC (kyM 110 h i) (strOfNums (av K i++[((K i).no:Int)]))::cxO h (av K i) (K i).V (i==0) (K i).no)
noncomputable def cxL(es:List (ByteArray×ByteArray))(h:Nat)(K:Nat->TxK):Nat->List Ch
 |0=>[]
 |n+1=>cxL es h K n++cxT es h K n
noncomputable def cxE(K:BlK)(h:Nat):List Ch:=[ptC (kyH 98 h) (strOfNums K.prev),ptC ⟨#[116]⟩ (tpT h (cX K))]
theorem qq(es h P s):∀k,(cxI es h P s k).length=2*k
 |0=>rfl
 |k+1=>by rw[cxI,kY,qq];simp;omega
theorem qr(h id V b):∀k,(cxO h id V b k).length=k
 |0=>rfl
 |k+1=>by rw[cxO,kY,qr];simp
theorem Mm(es h K i):(cxT es h K i).length=2*(K i).ni+1+(K i).no:=by
 unfold cxT;rw[kY,qq,m1,qr];omega
theorem qt{es h K}:∀n,(∀i,i<n->(K i).ni<=6/\(K i).no<=6)->(cxL es h K n).length<=19*n
 |0,_=>by simp[cxL]
 |n+1,a=>by
  have:=qt (es:=es) (h:=h) n (fun i c=>a i kH);have b:=a n kH;rw[cxL,kY,Mm];omega
theorem ml{K}:∀n,(∀i,i<n->(K i).ni<=6/\(K i).no<=6)->spN K n<=6*n
 |0,_=>by simp[spN]
 |n+1,a=>by
  have:=ml n (fun i c=>a i kH);have b:=a n kH;rw[spN];omega
noncomputable def dfB(f:Nat->List Value)(n:Nat):Bool:=open Classical in if gu f n then true else false
theorem Br(f n):decide (((ddL f n).length:Int)=(n:Int))=dfB f n:=by
 unfold dfB;have:=wC f n;by_cases h:gu f n
 ·rw[qb h,q6 (by rw[this.2 h])]
 ·rw[q4 h,q5 (fun e=>h (this.1 kH))]
theorem Bt:prog.types.size=382:=kO
theorem Mn:Go.Maps.Keyed prog 32:=Go.Maps.Keyed.of_law (deep_law_laid (m:=2) kO kH (by rw[Bt];decide) kO kO)
theorem Bu:Go.Maps.Keyed prog 52:=Go.Maps.Keyed.of_law (deep_law_laid (m:=3) kO kH (by rw[Bt];decide) kO kO)
theorem Mo(a n c f w)(H:RRow w 32 a n c f)(A:∀i,i<n->∃l,keyOf prog 32 (.agg (f i).toArray)=some l)(X:n<=1048576):
 Calls prog 174 #[.slice a n c] w fun e w'=>e= .returned (.bool (dfB f n))/\Below w.1.size w w':=by
 have E:=bAl w (.map #[] 0);have r:=kG E (wG w f);clear E;go_enter func174,ntmps174;have C:= @run_makeMap prog;go_upto_region 2 with fail
 clear C;generalize w.alloc (.map #[] 0)=U at*;go_wp2_with fail;go_loopw [9] (fun i wr=> ∃k:Nat,i= .int .i64 (k:Nat)/\k<=n/\SetM wr w.1.size f k/\Below w.1.size w wr) (fun i _=>n-(intOf i).toNat)
 case atStart=>exact⟨0,rfl,kX _,r.out.2,r.out.1⟩
 case round=>
  obtain⟨k,rfl,S,s,m⟩:=hrel;obtain⟨d,rfl⟩:∃x,x=wr:=⟨_,rfl⟩;clear r;by_cases o:k<n
  ·have L:(k:Int)< (n:Int):=kH;have v:=H.below m;obtain⟨b,off,rfl,R,y⟩:=v.at_ kH;have h:=H.ok.len k o;have z:=H.ok.one k o;have g:∀j Q,(f k)[j]?=some Q->d.cell? ⟨b,off+k*32+j,none⟩=some Q:=fun j Q D=>by
    have K:j<32:=by have:=(lb.1 D).1;rw[h]at this;exact this
    rw[y k j o K];exact D
   have P:(prog.info? 32).map (·.size)=some (f k).length:=by rw[h];exact aJ
   have q:(prog.info? 32).map (·.size)=some (f k).toArray.size:=by rw[k8,h];exact aJ
   have F:zH.toArray.size=(f k).toArray.size:=by rw[k8,k8,h];rfl
   have t:=bAl d (.cells (f k).toArray 32);have M:Blk (d.alloc (.cells (f k).toArray 32)) 32 d.1.size (f k):=ao d _ _;have I:=s.below t;have p:Hid _:=m.trans (t.mono m.size);clear y v s t m;go_upto_region 5 with(first|(refine dm rfl 32 _ rfl b (off+k*32) rfl (f k) _ g qa rfl P ?_)|(refine aL rfl 32 _ _ rfl d zH.toArray (f k).toArray 32 rfl rfl q F (dP z) ?_))
   change Code.wp _ _ _ _ (d.alloc (.cells (f k).toArray 32));generalize d.alloc (.cells (f k).toArray 32)=V at*;generalize d.1.size=O at*;clear g;go_wp2_with (first|(refine qi rfl 32 _ rfl O rfl 32 (f k).toArray (0,0) _ M qa rfl q ?_)|(refine wJ rfl _ _ _ _ rfl _ _ Mn underlying292 w.1.size f k rfl I rfl (fun i W=>A i kH) ?_;rintro Y J N));go_roundw
   case rel=>exact⟨k+1,by go_num,kH,J,p.out.trans (N.below kE p.out.size)⟩
   case measure=>simp[intOf];omega
  ·have B:k=n:=kH;subst B;have T:¬(k:Int)< (k:Int):=kH;have u:Hid _:=m;have G:Hid _:=Br f k;clear H m A;go_wp2_with (refine wK rfl _ _ rfl _ _ underlying292 w.1.size f k rfl s ?_);go_ret;rw[<-G.out];exact⟨rfl,u.out⟩
theorem Mp(a n c f w)(H:RRow w 33 a n c f)(A:∀i,i<n->∃l,keyOf prog 52 (.agg (f i).toArray)=some l)(X:n<=1048576):
 Calls prog 173 #[.slice a n c] w fun e w'=>e= .returned (.bool (dfB f n))/\Below w.1.size w w':=by
 have E:=bAl w (.map #[] 0);have r:=kG E (wG w f);clear E;go_enter func173,ntmps173;have C:= @run_makeMap prog;go_upto_region 2 with fail
 clear C;generalize w.alloc (.map #[] 0)=U at*;go_wp2_with fail;go_loopw [9] (fun i wr=> ∃k:Nat,i= .int .i64 (k:Nat)/\k<=n/\SetM wr w.1.size f k/\Below w.1.size w wr) (fun i _=>n-(intOf i).toNat)
 case atStart=>exact⟨0,rfl,kX _,r.out.2,r.out.1⟩
 case round=>
  obtain⟨k,rfl,S,s,m⟩:=hrel;obtain⟨d,rfl⟩:∃x,x=wr:=⟨_,rfl⟩;clear r;by_cases o:k<n
  ·have L:(k:Int)< (n:Int):=kH;have v:=H.below m;obtain⟨b,off,rfl,R,y⟩:=v.at_ kH;have h:=H.ok.len k o;have z:=H.ok.one k o;have g:∀j Q,(f k)[j]?=some Q->d.cell? ⟨b,off+k*33+j,none⟩=some Q:=fun j Q D=>by
    have K:j<33:=by have:=(lb.1 D).1;rw[h]at this;exact this
    rw[y k j o K];exact D
   have P:(prog.info? 52).map (·.size)=some (f k).length:=by rw[h];exact gl
   have q:(prog.info? 52).map (·.size)=some (f k).toArray.size:=by rw[k8,h];exact gl
   have F:(pc fy).toArray.size=(f k).toArray.size:=by rw[k8,k8,h];rfl
   have t:=bAl d (.cells (f k).toArray 52);have M:Blk (d.alloc (.cells (f k).toArray 52)) 52 d.1.size (f k):=ao d _ _;have I:=s.below t;have p:Hid _:=m.trans (t.mono m.size);clear y v s t m;go_upto_region 5 with(first|(refine dm rfl 52 _ rfl b (off+k*33) rfl (f k) _ g r9 rfl P ?_)|(refine aL rfl 52 _ _ rfl d (pc fy).toArray (f k).toArray 52 rfl rfl q F (dP z) ?_))
   change Code.wp _ _ _ _ (d.alloc (.cells (f k).toArray 52));generalize d.alloc (.cells (f k).toArray 52)=V at*;generalize d.1.size=O at*;clear g;go_wp2_with (first|(refine qi rfl 52 _ rfl O rfl 52 (f k).toArray (0,0) _ M r9 rfl q ?_)|(refine wJ rfl _ _ _ _ rfl _ _ Bu underlying291 w.1.size f k rfl I rfl (fun i W=>A i kH) ?_;rintro Y J N));go_roundw
   case rel=>exact⟨k+1,by go_num,kH,J,p.out.trans (N.below kE p.out.size)⟩
   case measure=>simp[intOf];omega
  ·have B:k=n:=kH;subst B;have T:¬(k:Int)< (k:Int):=kH;have u:Hid _:=m;have G:Hid _:=Br f k;clear H m A;go_wp2_with (refine wK rfl _ _ rfl _ _ underlying291 w.1.size f k rfl s ?_);go_ret;rw[<-G.out];exact⟨rfl,u.out⟩
