import Derived.Test.YtnohmedccbogkaaGreatDoorCo11
import Derived.Test.YtnohmedccbogkaaGreatDoorCo10
namespace Go.Proofs.YtnohmedccbogkaaGreatDoor
open Go.Proofs.Tryz
open Go.RowKit
set_option linter.unusedVariables false
set_option maxRecDepth 100000
set_option maxHeartbeats 32000000
def tm:List Int:=List.replicate 64 0
theorem IC:prog.built 315 [(0,.agg (ow iw.list).toArray)]=some (hx iw tm 0).toArray:=kO
theorem yp(w)(T:Tabs w):
 Calls prog 198 #[] w fun e w'=>e= .returned (.pointer (some ⟨w.1.size,0,none⟩))/\Below w.1.size w w'/\HSt w' w.1.size []/\w'.1.size=w.1.size+1:=by
 have c:∀j d,(ow iw.list)[j]?=some d->w.cell? ⟨1,0+j,none⟩=some d:=fun j d b=>by
  have a:j<8:=(lb.1 b).1;rw[ld,T.s j a,<-b];exact(iH? iw.list j a).symm
 have f:=IC;go_enter func198,ntmps198;go_wp2_with (first|(refine dm rfl 312 _ rfl 1 0 rfl (ow iw.list) _ c underlying312 rfl lI ?_)|(refine wpList_build rfl 315 _ rfl ?hf ?_));go_ret;refine⟨rfl,bAl _ _,⟨tm,⟨ao w 315 (hx iw tm 0).toArray,rfl,iL 64,vG,?_,?_⟩,rfl⟩,kP⟩
 ·have:=T.lt;omega
 ·have:=T.lt;omega
theorem ID(a n c l w)(T:Tabs w)(h:Bs w a n c l)(O:n<=1048576):
 Calls prog 201 #[.slice a n c] w fun e w'=>e= .returned (hA (dj l))/\Below w.1.size w w':=by
 have k0:=ao w 32 (ob (List.replicate 32 0)).toArray;have b:=bAl w (.cells (ob (List.replicate 32 0)).toArray 32);have F:=h.len_eq;go_enter func201,ntmps201;go_wp2_with fail;change Calls _ _ _ (w.alloc (.cells (ob (List.replicate 32 0)).toArray 32)) _;generalize w.alloc (.cells (ob (List.replicate 32 0)).toArray 32)=p at*;refine(yp p (T.below b)).mono ?_;rintro e w1 ⟨rfl,d,q,P⟩;have s:=(T.below b).below d;have E:=(h.below b).below d;have G:=k0.below d;have i:=q.ne;have M:=k0.lt;have j:0<n->∀g off,a=some ⟨g,off,none⟩->g<w.1.size:=fun m g off e=>by
  obtain⟨N,K,t,k,_⟩:=h.at_ m;rw[e]at t;cases t;exact k
 have f:=kG b d;clear T h k0 b d;go_wp2_with fail;refine(mT p.1.size [] a n c l w1 s q E ?_ (by simp;omega)).mono ?_
 ·intro m g off e;have:=j m g off e;omega
 rintro e L ⟨rfl,o,r⟩;rw[m7]at r;have C:=s.only o i.1 i.2;have H:=G.only o kH;go_wp2_with fail;refine(yl p.1.size l L C r (by rw[F];omega)).mono ?_;rintro e B ⟨rfl,z⟩;have y:=H.only z kH;have A:(prog.info? 32).map (·.size)=some (ob (dj l)).toArray.size:=by rw[aE,jF];exact aJ
 have I:=y.setRow (ob (dj l));have J:=aN B w.1.size (ob (dj l)).toArray;have D:Below w.1.size w (B.setRow w.1.size (ob (dj l)).toArray):=by
  have u:=f.out.1.trans (f.out.2.mono f.out.1.size);have x:=u.trans (((o.trans z).below f.out.1.size u.size));exact x.trans (J.below kE x.size)
 unfold hA;go_wp2_with (refine qB rfl 32 _ _ rfl w.1.size (ob (dj l)).toArray rfl rfl 32 _ y A ?o1 (bQ _) ?_)
 case o1=>rw[aE,aE,jF];rfl
 refine p6 (v:= .agg (ob (dj l)).toArray) ?_ rfl ⟨rfl,D⟩;exact r3 results201 _ _ w.1.size 32 (ob (dj l)).toArray (0,0) _ rfl I qa rfl A
theorem pD(l):IsB (dj l):=by
 intro j;by_cases a:j<32
 ·unfold dj;rw[tj _ j a,<-oz];exact iG _ _ _
 ·have:=jF l;simp[List.getD,this,a]
def dp(l:List Int):List Int:=dj (dj l)
theorem iY(l):(dp l).length=32:=jF _
theorem tn(l):IsB (dp l):=pD _
theorem pE(a n c l w)(h:Bs w a n c l)(t:n<=1048576):
 Calls prog 119 #[.slice a n c] w fun e w'=>e= .returned (.agg (ob (dp l)).toArray)/\Below w.1.size w w':=by
 have k0:=ao w 32 (ob (List.replicate 32 0)).toArray;have f:=bAl w (.cells (ob (List.replicate 32 0)).toArray 32);have o:(prog.info? 32).map (·.size)=some (ob (dp l)).toArray.size:=by rw[aE,iY];exact aJ
 go_enter func119,ntmps119;go_upto_region 1 with fail
 change Code.wp _ _ _ _ (w.alloc (.cells (ob (List.replicate 32 0)).toArray 32));generalize w.alloc (.cells (ob (List.replicate 32 0)).toArray 32)=B at*;have k:=h.below f;have b:=kG k0 f;go_wp2_with fail;refine(yo a n c l B k t).mono ?_;rintro e w1 ⟨rfl,d⟩;have u:=k0.below d;clear k0 k f h;unfold hA;go_wp2_with fail;refine(gj (dj l) w1 (jF l) (pD l)).mono ?_;rintro e C ⟨q,s,rfl,g,z⟩;have x:=u.below g;go_wp2_with fail;refine(yo q 32 s (dj l) C (z.bs (pD l)) kH).mono ?_;rintro e D ⟨rfl,i⟩;have m:=x.below i;have y:=m.setRow (ob (dp l));have A:=aN D w.1.size (ob (dp l)).toArray;have j:=((b.out.2.trans (d.mono b.out.2.size)).trans (g.mono (k2 b.out.2.size d.size))).trans (i.mono (k2 b.out.2.size (k2 d.size g.size)));have r:=j.trans (A.below kE j.size);have p:Hid (hA (dj (dj l))= .agg (ob (dp l)).toArray):=rfl;rw[p.out];go_wp2_with (refine qB rfl 32 _ _ rfl w.1.size (ob (dp l)).toArray rfl rfl 32 _ m o ?o1 (bQ _) ?_)
 case o1=>rw[aE,aE,iY];rfl
 refine p6 (v:= .agg (ob (dp l)).toArray) ?_ rfl ⟨rfl,r⟩;exact r3 results119 _ _ w.1.size 32 (ob (dp l)).toArray (0,0) _ rfl y qa rfl o
theorem Blk.bs{w j g l}(h:Blk w j g (ob l))(n)(b:l.length=n)(d:n<=1048576)(a:IsB l):Bs w (some ⟨g,0,none⟩) n n l:=
 ⟨b,kE,by unfold maxLen;omega,fun e=>(by cases e),fun f=>⟨g,0,rfl,h.lt,fun i c=>by rw[ld,h.cell];exact de? l i kH⟩,a⟩
def du(L:Nat->List Int):Nat->List Int
 |0=>[]
 |k+1=>du L k++L k
theorem tp(a)(N:Nat->Nat):∀k,(∀i,i<k->(a i).length=N i/\N i<=1048576)->(du a k).length<=k*1048576
 |0,_=>by simp[du]
 |k+1,h=>by
  have:=tp a N k (fun i b=>h i kH);have:=h k kH;simp[du];omega
theorem tq(q n c)(V:Nat->Option Addr)(N W:Nat->Nat)(f w)(T:Tabs w)(a4:n<=2)(M:q<w.1.size)(C:∀i,i<n->w.cell? ⟨q,i,none⟩=some (.slice (V i) (N i) (W i)))(m:∀i,i<n->Bs w (V i) (N i) (W i) (f i))(S:∀i,i<n->N i<=1000000):
 Calls prog 171 #[.slice (some ⟨q,0,none⟩) n c] w fun e w'=>e= .returned (.agg (ob (dp (du f n))).toArray)/\Below w.1.size w w':=by
 have k0:=ao w 32 (ob (List.replicate 32 0)).toArray;have A:=bAl w (.cells (ob (List.replicate 32 0)).toArray 32);have ai:(prog.info? 32).map (·.size)=some (ob (dp (du f n))).toArray.size:=by rw[aE,iY];exact aJ
 have aH:(prog.info? 32).map (·.size)=some (ob (dj (du f n))).toArray.size:=by rw[aE,jF];exact aJ
 go_enter func171,ntmps171;go_wp2_with fail;change Calls _ _ _ (w.alloc (.cells (ob (List.replicate 32 0)).toArray 32)) _;generalize w.alloc (.cells (ob (List.replicate 32 0)).toArray 32)=x at*;refine(yp x (T.below A)).mono ?_;rintro e w1 ⟨rfl,H,G,a5⟩;have d:=A.trans (H.mono A.size);have t:=(T.below A).below H;have E:=k0.below H;have j:=G.ne;have a0:=k0.lt;have b:∀i,i<n->0<N i->∀g off,V i=some ⟨g,off,none⟩->g≠x.1.size:=fun i D J g off e=>by
  obtain⟨z,l,B,r,_⟩:=(m i D).at_ J;rw[e]at B;cases B;omega
 have X:=kG d (kR t (kR E (kR G (kR b (kR C m)))));clear T k0 A H t E G b C m d;go_wp2;go_loopw [10] (fun i wr=> ∃k,k<=n/\i= .int .i64 (k:Nat)/\OnlyB x.1.size w1 wr/\HSt wr x.1.size (du f k)) (fun i _=>n-(intOf i).toNat)
 case atStart=>exact⟨0,kX _,rfl,OnlyB.refl _ _,X.out.2.2.2.1⟩
 case round=>
  obtain⟨k,a3,rfl,h,K⟩:=hrel;obtain⟨d,t,E,G,b,C,m⟩:=X.out;by_cases o:k<n
  ·have a2:wr.cell? ⟨q,k,none⟩=some (.slice (V k) (N k) (W k)):=by
    rw[r8 (a:=⟨q,k,none⟩) (h.block q (lk M d.size) kH),d.cell (p:=⟨q,k,none⟩) M];exact C k o
   have L:Bs wr (V k) (N k) (W k) (f k):=by
    have u:=(m k o).below d;exact⟨u.len_eq,u.le,u.le',u.nil,fun J=>by
     obtain⟨z,l,B,r,I⟩:=u.at_ J;have ad:=b k o J z l B;exact⟨z,l,B,lk r h.size,fun i D=>by rw[r8 (a:=⟨z,l+i,none⟩) (h.block z r ad)];exact I i D⟩,u.byte⟩
   have U:=tp f N k (fun i D=>⟨(m i kH).len_eq,by have:=S i kH;omega⟩);have aX:=S k o;have ab:=mT x.1.size (du f k) (V k) (N k) (W k) (f k) wr (t.only h j.1 j.2) K L (b k o) kH;have a1:(k:Int)< (n:Int):=kH;clear K L;go_wp2_with fail;refine ab.mono ?_;rintro e y ⟨rfl,s,ak⟩;have ar:=h.trans s;clear ab h s;go_wp2;go_roundw
   case rel=>exact⟨k+1,kH,by go_num,ar,ak⟩
   case measure=>simp[intOf];omega
  ·have e:k=n:=kH;subst e;have U:=tp f N k (fun i D=>⟨(m i kH).len_eq,by have:=S i kH;omega⟩);have P:=t.only h j.1 j.2;have ae:=E.only h kH;have O:=yl x.1.size (du f k) wr P K kH;unfold hA at O;clear C m b K;go_wp2_with fail;refine O.mono ?_;rintro e y ⟨rfl,s⟩;have Z:=P.only s j.1 j.2;have af:=ae.only s kH;have R:=d.trans (((h.trans s).below kH d.size));clear O P ae s h E t;go_wp2_with (refine aL rfl 32 _ _ rfl y _ (ob (dj (du f k))).toArray 32 rfl rfl aH ?z2 (bQ _) ?_)
   case z2=>rw[aE,jF];rfl
   have ag:=ao y 32 (ob (dj (du f k))).toArray;have F:=bAl y (.cells (ob (dj (du f k))).toArray 32);have Y:=ID (some ⟨y.1.size,0,none⟩) 32 32 (dj (du f k)) (y.alloc (.cells (ob (dj (du f k))).toArray 32)) (Z.below F) (Blk.bs ag 32 (jF _) kH (pD _)) kH;refine Y.mono ?_;rintro e aO ⟨rfl,Q⟩;have ah:=(af.below F).below Q;have ac:=(R.trans (F.mono R.size)).trans (Q.mono (k2 R.size F.size));have ap:=ah.setRow (ob (dp (du f k)));have aw:=aN aO w.1.size (ob (dp (du f k))).toArray;have an:=ac.trans (aw.below kE ac.size);have am:Hid (hA (dj (dj (du f k)))= .agg (ob (dp (du f k))).toArray):=rfl;rw[am.out];clear Y ag F Q Z af;go_wp2_with (refine qB rfl 32 _ _ rfl w.1.size (ob (dp (du f k))).toArray rfl rfl 32 _ ah ai ?o1 (bQ _) ?_)
   case o1=>rw[aE,aE,iY];rfl
   refine p6 (v:= .agg (ob (dp (du f k))).toArray) ?_ rfl ⟨rfl,an⟩;exact r3 results171 _ _ w.1.size 32 (ob (dp (du f k))).toArray (0,0) _ rfl ap qa rfl ai
def aK:List Int:=List.replicate 32 0
def aZ(K:TxK):List Int:=if aF K=true then dp (bT K)else aK
theorem fW(K):(aZ K).length=32:=by unfold aZ;split;exact iY _;simp[aK]
theorem kQ(K):IsB (aZ K):=by unfold aZ;split;exact tn _;exact iL 32
theorem yq{K}(h:aF K=true):aZ K=dp (bT K):=by unfold aZ;rw[qb h]
theorem yr{K}(h:aF K=false):aZ K=aK:=by unfold aZ;rw[q4 (by simp[h])]
theorem jr{P:Program}{b:Func}{p q:Tmp}{a:TypeId}(h:b.results=#[.cell p a,.tmp q])(tmps:Array Value)(w:World)(g:Nat)(n:TypeId)(cs:Array Value)(d:TypeDesc){v:Value}
 (k:tmps.getD p undef= .pointer (some ⟨g,0,none⟩))(i:w.heap[g]?=some (.cells cs n (0,0)))
 (m:P.underlying a=some d)(f:(match d with| .struct _| .array _ _=>true|_=>false)=true)(j:(P.info? a).map (·.size)=some cs.size)(l:tmps.getD q undef=v):
 (results b tmps).run P w= .ok (.tuple #[.agg cs,v]) w:=by
 have c:tmps[p]?.getD undef= .pointer (some ⟨g,0,none⟩):=by simpa using k
 have e:tmps[q]?.getD undef=v:=by simpa using l
 simp[results,h,c,e,asAddr,run_loadVar_row w g n a cs (0,0) d i m f j]
theorem IE(v K w)(H:RTx w v K)(G:K.ni<=1048576)(F:K.no<=1048576):
 Calls prog 118 #[dM v K] w fun e w'=>e= .returned (.tuple #[.agg (ob (aZ K)).toArray,.bool (aF K)])/\Below w.1.size w w':=by
 unfold dM;have i:=(ao w 121 (txc v K).toArray).below (kF.alloc kE (.cells (ob aK).toArray 32));have p:=ao (w.alloc (.cells (txc v K).toArray 121)) 32 (ob aK).toArray;have C:(w.alloc (.cells (txc v K).toArray 121)).1.size=w.1.size+1:=by simp
 rw[C]at p;have n:Below w.1.size w ((w.alloc (.cells (txc v K).toArray 121)).alloc (.cells (ob aK).toArray 32)):=eT w _ _;go_enter func118,ntmps118;go_upto_region 1 with fail
 change Code.wp _ _ _ _ ((w.alloc (.cells (txc v K).toArray 121)).alloc (.cells (ob aK).toArray 32));generalize (w.alloc (.cells (txc v K).toArray 121)).alloc (.cells (ob aK).toArray 32)=q at*;have J:q.cell? ⟨w.1.size,0,none⟩=some (.slice v.ia K.ni v.ic):=by rw[Blk.cell i];rfl
 have u:q.cell? ⟨w.1.size,1,none⟩=some (.slice v.oa K.no v.oc):=by rw[Blk.cell i];rfl
 have L:q.cell? ⟨w.1.size,2,none⟩=some (.int .i64 K.h):=by rw[Blk.cell i];rfl
 have l:Hid (Blk q 32 (w.1.size+1) (ob aK)/\Below w.1.size w q):=⟨p,n⟩;have r:=xJ v K q (H.below n) G F;have f:=H.pts;clear i p C n;go_wp2_with fail;refine r.mono ?_;rintro e w1 ⟨D,u,rfl,s,z⟩;have h:=l.out.1.below s;have d:=l.out.2.trans (s.mono l.out.2.size);clear r;by_cases b:aF K=true
 ·have c:Hid (aF K=true):=b;have k:Hid (aZ K=dp (bT K)):=yq b;have E:=sU f;have A:=z.bs (sR f);have j:=pE D (bT K).length u (bT K) w1 A kH;rw[<-k.out]at j;rw[b];go_wp2_with fail;refine j.mono ?_;rintro e B ⟨rfl,t⟩;have y:=h.below t;have x:=d.trans (t.mono d.size);have g:(prog.info? 32).map (·.size)=some (ob (aZ K)).toArray.size:=by rw[aE,fW];exact aJ
  have I:(ob aK).toArray.size=(ob (aZ K)).toArray.size:=by rw[aE,aE,fW];rfl
  have o:=y.setRow (ob (aZ K));have m:Below w.1.size w (B.setRow (w.1.size+1) (ob (aZ K)).toArray):=x.trans ((aN B (w.1.size+1) _).below kH x.size);clear j A z h d;go_wp2_with (refine qB rfl 32 _ _ rfl (w.1.size+1) (ob (aZ K)).toArray rfl rfl 32 _ y g I (bQ _) ?_);refine p6 (v:= .tuple #[.agg (ob (aZ K)).toArray,.bool true]) ?_ rfl ⟨by rw[c.out],m⟩;exact jr results118 _ _ (w.1.size+1) 32 (ob (aZ K)).toArray _ rfl o qa rfl g rfl
 ·have a:aF K=false:=by simpa using b
  have c:Hid (aF K=false):=a;have k:Hid (aZ K=aK):=yr a;have g:(prog.info? 32).map (·.size)=some (ob aK).toArray.size:=aJ;have o:=h.setRow (ob aK);have m:Below w.1.size w (w1.setRow (w.1.size+1) (ob aK).toArray):=d.trans ((aN w1 (w.1.size+1) _).below kH d.size);rw[a];go_upto_region 3 with fail
  go_wp2_with (refine qB rfl 32 _ _ rfl (w.1.size+1) (ob aK).toArray rfl rfl 32 _ h g rfl (bQ _) ?_);refine p6 (v:= .tuple #[.agg (ob aK).toArray,.bool false]) ?_ rfl ⟨by rw[c.out,k.out],m⟩;exact jr results118 _ _ (w.1.size+1) 32 (ob aK).toArray _ rfl o qa rfl g rfl
theorem IF(v K w)(T:Tabs w)(H:RTx w v K)(R:K.ni<=1048576)(Q:K.no<=1048576):
 Calls prog 126 #[dM v K] w fun e w'=>e= .returned (.tuple #[.agg (ob (aZ K)).toArray,.bool (aF K)])/\Below w.1.size w w':=by
 unfold dM;have m:=(ao w 121 (txc v K).toArray).below (kF.alloc kE (.cells (ob aK).toArray 32));have y:=ao (w.alloc (.cells (txc v K).toArray 121)) 32 (ob aK).toArray;have N:(w.alloc (.cells (txc v K).toArray 121)).1.size=w.1.size+1:=by simp
 rw[N]at y;have t:Below w.1.size w ((w.alloc (.cells (txc v K).toArray 121)).alloc (.cells (ob aK).toArray 32)):=eT w _ _;go_enter func126,ntmps126;go_upto_region 1 with fail
 change Code.wp _ _ _ _ ((w.alloc (.cells (txc v K).toArray 121)).alloc (.cells (ob aK).toArray 32));generalize (w.alloc (.cells (txc v K).toArray 121)).alloc (.cells (ob aK).toArray 32)=z at*;have U:z.cell? ⟨w.1.size,0,none⟩=some (.slice v.ia K.ni v.ic):=by rw[Blk.cell m];rfl
 have b:z.cell? ⟨w.1.size,1,none⟩=some (.slice v.oa K.no v.oc):=by rw[Blk.cell m];rfl
 have V:z.cell? ⟨w.1.size,2,none⟩=some (.int .i64 K.h):=by rw[Blk.cell m];rfl
 have r:Hid (Blk z 32 (w.1.size+1) (ob aK)/\Below w.1.size w z):=⟨y,t⟩;have A:=Ie v K z (H.below t) R Q;have k:=H.pts;clear m y N t;go_wp2_with fail;refine A.mono ?_;rintro e w1 ⟨g,b,rfl,D,J⟩;have d:=r.out.1.below D;have a:=r.out.2.trans (D.mono r.out.2.size);clear A;by_cases f:aF K=true
 ·have h:Hid (aF K=true):=f;have q:Hid (aZ K=dp (bT K)):=yq f;have P:=sU k;have L:=J.bs (sR k);have C:=T.below a;rw[f];have j:=bAl w1 (.cells #[Value.slice g (bT K).length b] 70);have x:Blk (w1.alloc (.cells #[Value.slice g (bT K).length b] 70)) 70 w1.1.size [Value.slice g (bT K).length b]:=ao w1 70 _;have p:=tq w1.1.size 1 1 (fun _=>g) (fun _=>(bT K).length) (fun _=>b) (fun _=>bT K) _ (C.below j) kH x.lt
   (fun i O=>by rw[x.cell];obtain rfl:i=0:=kH;rfl) (fun i O=>L.below j) (fun _ _=>by omega)
  have G:du (fun _=>bT K) 1=bT K:=by simp[du]
  rw[G,<-q.out]at p;have o:=d.below j;have n:=a.trans (j.mono a.size);have B:Hid (Blk (w1.alloc (.cells #[Value.slice g (bT K).length b] 70)) 32 (w.1.size+1) (ob aK)/\Below w.1.size w (w1.alloc (.cells #[Value.slice g (bT K).length b] 70))):=⟨o,n⟩;clear G x j C d a L J o n;go_wp2_with fail;refine p.mono ?_;rintro e M ⟨rfl,E⟩;obtain⟨d,a⟩:=B.out;have I:=d.below E;have F:=a.trans (E.mono a.size);have l:(prog.info? 32).map (·.size)=some (ob (aZ K)).toArray.size:=by rw[aE,fW];exact aJ
  have S:(ob aK).toArray.size=(ob (aZ K)).toArray.size:=by rw[aE,aE,fW];rfl
  have u:=I.setRow (ob (aZ K));have s:Below w.1.size w (M.setRow (w.1.size+1) (ob (aZ K)).toArray):=F.trans ((aN M (w.1.size+1) _).below kH F.size);clear p d a;go_wp2_with (refine qB rfl 32 _ _ rfl (w.1.size+1) (ob (aZ K)).toArray rfl rfl 32 _ I l S (bQ _) ?_);refine p6 (v:= .tuple #[.agg (ob (aZ K)).toArray,.bool true]) ?_ rfl ⟨by rw[h.out],s⟩;exact jr results126 _ _ (w.1.size+1) 32 (ob (aZ K)).toArray _ rfl u qa rfl l rfl
 ·have c:aF K=false:=by simpa using f
  have h:Hid (aF K=false):=c;have q:Hid (aZ K=aK):=yr c;have l:(prog.info? 32).map (·.size)=some (ob aK).toArray.size:=aJ;have u:=d.setRow (ob aK);have s:Below w.1.size w (w1.setRow (w.1.size+1) (ob aK).toArray):=a.trans ((aN w1 (w.1.size+1) _).below kH a.size);rw[c];go_upto_region 3 with fail
  go_wp2_with (refine qB rfl 32 _ _ rfl (w.1.size+1) (ob aK).toArray rfl rfl 32 _ d l rfl (bQ _) ?_);refine p6 (v:= .tuple #[.agg (ob aK).toArray,.bool false]) ?_ rfl ⟨by rw[h.out,q.out],s⟩;exact jr results126 _ _ (w.1.size+1) 32 (ob aK).toArray _ rfl u qa rfl l rfl
def nxt(h:Nat->List Int)(n:Nat):Nat->List Int:=fun i=>dp (h (2*i)++h (if 2*i+1<n then 2*i+1 else 2*i))
theorem tr(h n k):IsHs (nxt h n) k:=⟨fun i _=>iY _,fun i _=>tn _⟩
def gC:Nat->(Nat->List Int)->Nat->List Int
 |0,h,_=>h 0
 |f+1,h,n=>if n<=1 then h 0 else gC f (nxt h n) ((n+1)/2)
def dO(h:Nat->List Int)(n:Nat):List Int:=if n=0\/1000<n then aD else gC n h n
theorem yt(f h):gC f h 1=h 0:=by cases f<;>simp[gC]
theorem yu(f h n)(a:1<n):gC (f+1) h n=gC f (nxt h n) ((n+1)/2):=by rw[gC,q4 kH]
theorem mU{B w a c h k}(H:OHs B w a (k+1) c (ji h k (h k))):OHs B w a (k+1) c h:=by
 unfold OHs at H ⊢;rw[rL (k+1) (h:=h) (h':=ji h k (h k)) (fun i b=>by by_cases e:i=k<;>simp[ji,e])];exact H
theorem yw{w u o b K T S}(A:o.guard=none)(s x)(M:o.op= .call {callee:= .builtin .append,args:=#[s,x],argTypes:=#[70,70]})(B a n c xs)(N:b.eval s= .slice a n c)(r:Own B w a n c xs)(g m d l)(hx:b.eval x= .slice (some ⟨g,0,none⟩) m d)(t:Bs w (some ⟨g,0,none⟩) m d l)(L:n+m<=140737488355328)(y:B<=w.1.size)(h:∀f p w',Own B w' f (n+m) p (xs++l)->Below B w w'->K (b.put o.dst (.slice f (n+m) p)) w'):
 if Region.wanted o (yielded u b.tmps)=true then Oper.wp prog o b w K T else S:=by
 have P:Region.wanted o (yielded u b.tmps)=true:=by simp[Region.wanted,A]
 rw[qb P];obtain⟨i,I,D,E,F⟩:=sk i7;refine wp_append_own w s x _ M B 5 i _ 1 1 rC I D E F rfl kH _ n (ob xs) N r ⟨g,0,none⟩ m d (ob l) hx (by simp[ob,t.len_eq]) ?_ (ev l) (by unfold maxLen;omega) kH y ?_
 ·intro j V v;have C:j<l.length:=by have:=(lb.1 v).1;simpa [ob]using this
  obtain⟨U,off,e,_,H⟩:=t.at_ (by have:=t.len_eq;omega);cases e;rw[de? l j C]at v;rw[sj,H j (by have:=t.len_eq;omega)];exact v
 ·intro v' w' q z _;have e:ob xs++ob l=ob (xs++l):=by simp[ob]
  rw[e]at q;have O:∃f p,v'= .slice f (n+m) p:=by
   rcases q.2 with⟨rfl,G⟩|⟨g,Q,R,rfl,_⟩
   ·exact⟨none,0,by rw[G]⟩
   ·exact⟨_,_,rfl⟩
  obtain⟨f,p,rfl⟩:=O;exact h f p w' q (kF.grown z y (fun k J=>(r.lt k J).1))
theorem yx{B w w'}(h:Below B w.drew w'):Below B w w':=⟨h.os,h.tape,h.output,h.size,h.block⟩
theorem yy{w g y}(h:Blk w 32 g (ob y))(a:y.length=32):(Instr.loadAt 32 (.pointer (some ⟨g,0,none⟩))).run prog w= .ok (.agg (ob y).toArray) w:=by
 have s:(prog.info? 32).map (·.size)=some (ob y).toArray.size:=by rw[aE,a];exact aJ
 simp only[Instr.loadAt,Instr.sureAddr,q9,r2,Result.andThen];exact sL w g 32 32 (ob y).toArray (0,0) _ h qa rfl s
theorem yz:∀(xs:List Value)(k:Nat)(Z:Array Value),Z.size=k+xs.length->(xs.zipIdx k).foldl (fun cs x=>cs.setIfInBounds x.2 x.1) Z=(Z.toList.take k++xs).toArray
 |[],k,Z,h=>by
  simp only[List.zipIdx_nil,List.foldl_nil,lj];rw[mm (by simp at h;simp;omega)]
 |x::xs,k,Z,h=>by
  rw[List.zipIdx_cons,List.foldl_cons,yz xs (k+1) (Z.setIfInBounds k x) (by simp at h ⊢;omega)];have a:k<Z.toList.length:=by simp at h ⊢;omega
  rw[Array.toList_setIfInBounds,n6 (by simpa using a),List.getElem_set_self,List.take_set_of_le (kS k)];simp
theorem IG(a)(c:a.length=32):Instr.fill (fun i=>some (i*32,32)) ((Array.range (1*32)).map ((ob aD).toArray[· %(ob aD).toArray.size]!)) [(0,.agg (ob a).toArray)]=some (ob a).toArray:=by
 have e:((Array.range (1*32)).map ((ob aD).toArray[· %(ob aD).toArray.size]!)).size=32:=by simp
 generalize (Array.range (1*32)).map ((ob aD).toArray[· %(ob aD).toArray.size]!)=Z at*;have d:(ob a).length=32:=by rw[au,c]
 have b:=yz (ob a) 0 Z kH;simp only[o7,m7]at b;simp[Instr.fill,Value.cells];exact⟨⟨d,kH⟩,b⟩
theorem II(a)(f:a.length=32)(w):(Instr.buildSlice 117 1 #[(0,.agg (ob a).toArray)]).run prog w= .ok (.slice (some ⟨w.1.size,0,none⟩) 1 1) (w.alloc (.cells (ob a).toArray 32)):=by
 obtain⟨i,h,c,d,j⟩:=sk wl;have g:=IG a f;simp[Instr.buildSlice,Sem.run_bind,run_underlying underlying117 w,sizeOf,typeInfo,h,d,zeroValue,c];generalize e:Instr.fill (fun i=>some (i*32,32)) _ [(0,Value.agg (ob a).toArray)]=k;have b:k=some (ob a).toArray:=by rw[<-e];exact g
 rw[b];simp[newRow,go_sem]
theorem mV{P:Program}{o:Oper}{a:Act}{w w':World}{K:Act->World->Prop}{g:Exit->Act->World->Prop}(f:TypeId)(c:Nat)(b:Array (Nat×Operand))(e:o.op= .buildSlice f c b){v:Value}
 (h:(Instr.buildSlice f c (b.map fun(i,x)=>(i,a.eval x))).run P w= .ok v w')(d:K (a.put o.dst v) w'):o.wp P a w K g:=by
 unfold Oper.wp execOp;simp only[e,q9,h,sr,r2];exact d
theorem mW(x a)(hx:x= .agg (ob a).toArray)(b:a.length=32)(w):(Instr.buildSlice 117 1 #[(0,x)]).run prog w= .ok (.slice (some ⟨w.1.size,0,none⟩) 1 1) (w.alloc (.cells (ob a).toArray 32)):=by
 subst hx;exact II a b w
theorem pF(x)(a: -9223372036854775808<=x)(b:x<=9223372036854775807):IntKind.i64.wrap x=x:=by
 simp[IntKind.wrap,IntKind.bits,IntKind.signed];omega
theorem jM{P}{o:Oper}{a w K m}(c x y)(j:o.op= .store c x y)(g)(cs:List Value)(hx:a.eval x= .pointer (some ⟨g,0,none⟩))(k:a.eval y= .agg cs.toArray)(l:TypeId)(b)(f:Blk w l g b)(i:(P.info? c).map (·.size)=some cs.length)(n:cs.length=b.length)(d:∀v∈cs,v.oneCell'=true)(h:K (a.put o.dst undef) (w.setRow g cs.toArray)):o.wp P a w K m:=by
 have e:b.take 0++cs++b.drop (0+cs.length)=cs:=by rw[o7,m7,pk kH,lj]
 have:=FH (P:=P) w g 0 c l b cs f i kH d;rw[e]at this;unfold Oper.wp execOp;simp only[j,hx,k,Instr.storeAt,Instr.sureAddr,q9,r2,sr,this];exact h
structure TwoNew(wr:World)(x y:List Int)(W:World)(p q:Nat):Prop where
 k0:Blk W 32 p (ob aD)
 k1:Blk W 32 q (ob aD)
 k1f:Blk (W.setRow p (ob x).toArray) 32 q (ob aD)
 k0s:Blk (W.setRow q (ob x).toArray) 32 p (ob aD)
 bf:Below wr.1.size wr ((W.setRow p (ob x).toArray).setRow q (ob y).toArray)
 bs:Below wr.1.size wr ((W.setRow q (ob x).toArray).setRow p (ob y).toArray)
 x0f:Blk ((W.setRow p (ob x).toArray).setRow q (ob y).toArray) 32 p (ob x)
 y1f:Blk ((W.setRow p (ob x).toArray).setRow q (ob y).toArray) 32 q (ob y)
 x1s:Blk ((W.setRow q (ob x).toArray).setRow p (ob y).toArray) 32 q (ob x)
 y0s:Blk ((W.setRow q (ob x).toArray).setRow p (ob y).toArray) 32 p (ob y)
theorem pG(wr x y)(hx:x.length=32)(h:y.length=32):
 TwoNew wr x y ((wr.drew.alloc (.cells (ob aD).toArray 32)).alloc (.cells (ob aD).toArray 32)) wr.1.size (wr.1.size+1):=by
 have e:Below wr.1.size wr ((wr.drew.alloc (.cells (ob aD).toArray 32)).alloc (.cells (ob aD).toArray 32)):=((kF.drew).alloc kP _).alloc kP _;have k0:Blk ((wr.drew.alloc (.cells (ob aD).toArray 32)).alloc (.cells (ob aD).toArray 32)) 32 wr.1.size (ob aD):=
  (ao wr.drew 32 (ob aD).toArray).below (bAl _ _)
 have d:Blk ((wr.drew.alloc (.cells (ob aD).toArray 32)).alloc (.cells (ob aD).toArray 32)) 32 (wr.1.size+1) (ob aD):=by
  have:=ao (wr.drew.alloc (.cells (ob aD).toArray 32)) 32 (ob aD).toArray;simpa using this
 generalize (wr.drew.alloc (.cells (ob aD).toArray 32)).alloc (.cells (ob aD).toArray 32)=f at*;have a:=fun g(z:List Int)=>aN f g (ob z).toArray;have c:Blk (f.setRow wr.1.size (ob x).toArray) 32 (wr.1.size+1) (ob aD):=d.only (a _ x) kH;have b:Blk (f.setRow (wr.1.size+1) (ob x).toArray) 32 wr.1.size (ob aD):=k0.only (a _ x) kH;have i:=k0.lt;refine⟨k0,d,c,b,?_,?_,?_,c.setRow _,?_,b.setRow _⟩
 ·exact(e.trans ((a _ x).below kE kH)).trans ((aN _ _ _).below kH (by simp[World.setRow];omega))
 ·exact(e.trans ((a _ x).below kH kH)).trans ((aN _ _ _).below kE (by simp[World.setRow];omega))
 ·exact(k0.setRow (ob x)).only (aN _ _ _) kH
 ·exact(d.setRow (ob x)).only (aN _ _ _) kH
theorem IJ(a n c h w)(T:Tabs w)(H:RHs w a n c h)(bf:n<=1000):
 Calls prog 172 #[.slice a n c] w fun e w'=> ∃ad ag,e= .returned (.slice ad ((n+1)/2) ag)/\Below w.1.size w w'/\OHs w.1.size w' ad ((n+1)/2) ag (nxt h n):=by
 go_enter func172,ntmps172;go_wp2;go_loopw [3,4] (fun o i a2=> ∃k E I,k<=(n+1)/2/\i= .int .i64 ((2*k:Nat):Int)/\o= .slice E k I/\Below w.1.size w a2/\OHs w.1.size a2 E k I (nxt h n)) (fun _ i _=>n+2-(intOf i).toNat)
 case atStart=>exact⟨0,_,0,kX _,rfl,rfl,kF,wo _ _ _⟩
 case round=>
  obtain⟨k,E,I,bd,rfl,rfl,J,V⟩:=hrel;have u:=H.below J;have ab:=T.below J;by_cases A:2*k<n
  ·obtain⟨b,off,rfl,a8,ai⟩:=u.at_ kH;have ba:(2*(k:Int))< (n:Int):=kH;have a9:(0:Int)<=2*(k:Int):=kH;have l:=u.ok.len (2*k) A;have aw:=u.ok.byte (2*k) A;obtain⟨r,x⟩:∃r,r=if 2*k+1<n then 2*k+1 else 2*k:=⟨_,rfl⟩;have C:r<n:=by rw[x];split<;>omega
   have R:nxt h n k=dp (h (2*k)++h r):=by unfold nxt;rw[x]
   have m:=u.ok.len r C;have aH:=u.ok.byte r C;have t:=kG J (kR V (kR R ab));clear J V R ab ai H T;go_upto_region 5 with fail
   go_cut [5,6] (fun O P Z=> ∃y z,O= .pointer (some ⟨y,0,none⟩)/\P= .pointer (some ⟨z,0,none⟩)/\Below wr.1.size wr Z/\Blk Z 32 y (ob (h (2*k)))/\Blk Z 32 z (ob (h r)))
   case first=>
    by_cases B:2*k+1<n
    ·rw[qb B]at x;subst x;have be:¬((n:Int)-1<2*(k:Int)+1):=kH;have bb:2*(k:Int)+1< (n:Int):=kH;have an:IntKind.i64.wrap (2*(k:Int)+1)=2*(k:Int)+1:=pF _ kH kH;have ap:IntKind.i64.wrap ((n:Int)-1)=(n:Int)-1:=pF _ kH kH;have ar:(0:Int)<=2*(k:Int)+1:=kH;have bc:(2*(k:Int)+1).toNat=2*k+1:=kH;have am:min (2*(k:Int)+1) ((n:Int)-1)=2*(k:Int)+1:=kH;have q:Hid (∀v:World,Below wr.1.size wr v->(Instr.loadAt 32 (.pointer (some ⟨b,off+2*k*32,none⟩))).run prog v= .ok (.agg (ob (h (2*k))).toArray) v/\(Instr.loadAt 32 (.pointer (some ⟨b,off+(2*k+1)*32,none⟩))).run prog v= .ok (.agg (ob (h (2*k+1))).toArray) v):=fun v K=>⟨(u.below K).load (2*k) A,(u.below K).load (2*k+1) C⟩;refine ay (fun v=>(Instr.loadAt 32 (.pointer (some ⟨b,off+2*k*32,none⟩))).run prog v= .ok (.agg (ob (h (2*k))).toArray) v/\(Instr.loadAt 32 (.pointer (some ⟨b,off+(2*k+1)*32,none⟩))).run prog v= .ok (.agg (ob (h (2*k+1))).toArray) v) (fun j=>decide (15<=j)) kO ?_;have f:=q.out wr.drew kF.drew;refine aa 0 f ?_;refine aa 1 f ?_;refine aa 2 f ?_;refine aC 3 (.agg (ob (h (2*k))).toArray) f ?hyp3 ?_
     case hyp3=>exact fun w s=>bO (p:= .pointer (some ⟨b,off+2*k*32,none⟩)) rfl rfl s.1
     refine aa 4 f ?_;refine aa 5 f ?_;refine aa 6 f ?_;refine aa 7 f ?_;refine aa 8 f ?_;refine aa 9 f ?_;refine aa 10 f ?_;refine aa 11 f ?_;refine aC 12 (.agg (ob (h (2*k+1))).toArray) f ?hyp12 ?_
     case hyp12=>exact fun w s=>bO (p:= .pointer (some ⟨b,off+(2*k+1)*32,none⟩)) rfl rfl s.2
     clear f;refine cI 13 14 kO rfl rfl (fun g d=> ?pf) (fun g d=> ?ps)
     case pf=>
      go_simp;refine d.out _ _ (fun _=>q.out _ (kF.drew.alloc kP _)) ?_;clear d g;refine aT 14 kO rfl (fun g d=> ?_);go_simp;refine d.out _ _ (fun _=>q.out _ ((kF.drew.alloc kP _).alloc kP _)) ?_;clear d g;have ST:=pG wr (h (2*k)) (h (2*k+1)) l m;change bL _ _ _ _ _ _ _ _ _ ((wr.drew.alloc (.cells (ob aD).toArray 32)).alloc (.cells (ob aD).toArray 32));refine aj 15 fun g d=> ?_;refine jM 32 _ _ rfl wr.1.size (ob (h (2*k))) (by rfl) (by rfl) 32 _ ST.k0 (by rw[au,l];exact aJ) (by rw[au,au,l];rfl) (ev _) ?_;refine al d ?_;clear d g;refine aj 16 fun g d=> ?_;refine jM 32 _ _ rfl (wr.1.size+1) (ob (h (2*k+1))) (by rfl) (by rfl) 32 _ ST.k1f (by rw[au,m];exact aJ) (by rw[au,au,m];rfl) (ev _) ?_;refine al d ?_;clear d g;refine ax ?_;go_wp2
      go_meet
      exact⟨wr.1.size,(wr.1.size+1),rfl,rfl,ST.bf,ST.x0f,ST.y1f⟩
     case ps=>
      go_simp;refine d.out _ _ (fun _=>q.out _ (kF.drew.alloc kP _)) ?_;clear d g;refine aT 13 kO rfl (fun g d=> ?_);go_simp;refine d.out _ _ (fun _=>q.out _ ((kF.drew.alloc kP _).alloc kP _)) ?_;clear d g;have ST:=pG wr (h (2*k)) (h (2*k+1)) l m;change bL _ _ _ _ _ _ _ _ _ ((wr.drew.alloc (.cells (ob aD).toArray 32)).alloc (.cells (ob aD).toArray 32));refine aj 15 fun g d=> ?_;refine jM 32 _ _ rfl (wr.1.size+1) (ob (h (2*k))) (by rfl) (by rfl) 32 _ ST.k1 (by rw[au,l];exact aJ) (by rw[au,au,l];rfl) (ev _) ?_;refine al d ?_;clear d g;refine aj 16 fun g d=> ?_;refine jM 32 _ _ rfl wr.1.size (ob (h (2*k+1))) (by rfl) (by rfl) 32 _ ST.k0s (by rw[au,m];exact aJ) (by rw[au,au,m];rfl) (ev _) ?_;refine al d ?_;clear d g;refine ax ?_;go_wp2
      go_meet
      exact⟨(wr.1.size+1),wr.1.size,rfl,rfl,ST.bs,ST.x1s,ST.y0s⟩
    ·rw[q4 B]at x;subst x;have an:IntKind.i64.wrap (2*(k:Int)+1)=2*(k:Int)+1:=pF _ kH kH;have ap:IntKind.i64.wrap ((n:Int)-1)=2*(k:Int):=by rw[pF _ kH kH];omega
     have ar:(2*(k:Int))<2*(k:Int)+1:=kH;have am:min (2*(k:Int)+1) (2*(k:Int))=2*(k:Int):=kH;have q:Hid (∀v:World,Below wr.1.size wr v->(Instr.loadAt 32 (.pointer (some ⟨b,off+2*k*32,none⟩))).run prog v= .ok (.agg (ob (h (2*k))).toArray) v/\(Instr.loadAt 32 (.pointer (some ⟨b,off+(2*k)*32,none⟩))).run prog v= .ok (.agg (ob (h (2*k))).toArray) v):=fun v K=>⟨(u.below K).load (2*k) A,(u.below K).load (2*k) C⟩;refine ay (fun v=>(Instr.loadAt 32 (.pointer (some ⟨b,off+2*k*32,none⟩))).run prog v= .ok (.agg (ob (h (2*k))).toArray) v/\(Instr.loadAt 32 (.pointer (some ⟨b,off+(2*k)*32,none⟩))).run prog v= .ok (.agg (ob (h (2*k))).toArray) v) (fun j=>decide (15<=j)) kO ?_;have f:=q.out wr.drew kF.drew;refine aa 0 f ?_;refine aa 1 f ?_;refine aa 2 f ?_;refine aC 3 (.agg (ob (h (2*k))).toArray) f ?hyq3 ?_
     case hyq3=>exact fun w s=>bO (p:= .pointer (some ⟨b,off+2*k*32,none⟩)) rfl rfl s.1
     refine aa 4 f ?_;refine aa 5 f ?_;refine aa 6 f ?_;refine aa 7 f ?_;refine aa 8 f ?_;refine aa 9 f ?_;refine aa 10 f ?_;refine aa 11 f ?_;refine aC 12 (.agg (ob (h (2*k))).toArray) f ?hyq12 ?_
     case hyq12=>exact fun w s=>bO (p:= .pointer (some ⟨b,off+(2*k)*32,none⟩)) rfl rfl s.2
     clear f;refine cI 13 14 kO rfl rfl (fun g d=> ?qf) (fun g d=> ?qs)
     case qf=>
      go_simp;refine d.out _ _ (fun _=>q.out _ (kF.drew.alloc kP _)) ?_;clear d g;refine aT 14 kO rfl (fun g d=> ?_);go_simp;refine d.out _ _ (fun _=>q.out _ ((kF.drew.alloc kP _).alloc kP _)) ?_;clear d g;have ST:=pG wr (h (2*k)) (h (2*k)) l m;change bL _ _ _ _ _ _ _ _ _ ((wr.drew.alloc (.cells (ob aD).toArray 32)).alloc (.cells (ob aD).toArray 32));refine aj 15 fun g d=> ?_;refine jM 32 _ _ rfl wr.1.size (ob (h (2*k))) (by rfl) (by rfl) 32 _ ST.k0 (by rw[au,l];exact aJ) (by rw[au,au,l];rfl) (ev _) ?_;refine al d ?_;clear d g;refine aj 16 fun g d=> ?_;refine jM 32 _ _ rfl (wr.1.size+1) (ob (h (2*k))) (by rfl) (by rfl) 32 _ ST.k1f (by rw[au,m];exact aJ) (by rw[au,au,m];rfl) (ev _) ?_;refine al d ?_;clear d g;refine ax ?_;go_wp2
      go_meet
      exact⟨wr.1.size,(wr.1.size+1),rfl,rfl,ST.bf,ST.x0f,ST.y1f⟩
     case qs=>
      go_simp;refine d.out _ _ (fun _=>q.out _ (kF.drew.alloc kP _)) ?_;clear d g;refine aT 13 kO rfl (fun g d=> ?_);go_simp;refine d.out _ _ (fun _=>q.out _ ((kF.drew.alloc kP _).alloc kP _)) ?_;clear d g;have ST:=pG wr (h (2*k)) (h (2*k)) l m;change bL _ _ _ _ _ _ _ _ _ ((wr.drew.alloc (.cells (ob aD).toArray 32)).alloc (.cells (ob aD).toArray 32));refine aj 15 fun g d=> ?_;refine jM 32 _ _ rfl (wr.1.size+1) (ob (h (2*k))) (by rfl) (by rfl) 32 _ ST.k1 (by rw[au,l];exact aJ) (by rw[au,au,l];rfl) (ev _) ?_;refine al d ?_;clear d g;refine aj 16 fun g d=> ?_;refine jM 32 _ _ rfl wr.1.size (ob (h (2*k))) (by rfl) (by rfl) 32 _ ST.k0s (by rw[au,m];exact aJ) (by rw[au,au,m];rfl) (ev _) ?_;refine al d ?_;clear d g;refine ax ?_;go_wp2
      go_meet
      exact⟨(wr.1.size+1),wr.1.size,rfl,rfl,ST.bs,ST.x1s,ST.y0s⟩
   case rest=>
    obtain⟨y,z,rfl,rfl,N,aO,aX⟩:=hcut;have O:=Blk.bs aO 32 l kH aw;have P:=Blk.bs aX 32 m kH aH;have ac:=t.out.2.2.2.below N;have M:=kG O (kR P ac);clear O P ac aO aX u;go_wp2_with fail;refine ay (fun _=>True) (fun _=>false) kO ?_;have f:=trivial;refine aa 0 f ?_;refine aC 1 (.slice (some ⟨y,0,none⟩) 32 32) f ?hyr1 ?_
    case hyr1=>(intro w s;unfold execOp;go_simp)
    refine aC 2 (.slice (some ⟨z,0,none⟩) 32 32) f ?hyr2 ?_
    case hyr2=>(intro w s;unfold execOp;go_simp)
    refine aj 3 fun g d=> ?_;go_wp2_with fail;refine al d ?_;clear d g;have D:Below wc.1.size wc (wc.drew.alloc (.cells #[Value.slice (some ⟨y,0,none⟩) 32 32,Value.slice (some ⟨z,0,none⟩) 32 32] 70)):=(kF.drew).alloc kP _;have W:Blk (wc.drew.alloc (.cells #[Value.slice (some ⟨y,0,none⟩) 32 32,Value.slice (some ⟨z,0,none⟩) 32 32] 70)) 70 wc.1.size [Value.slice (some ⟨y,0,none⟩) 32 32,Value.slice (some ⟨z,0,none⟩) 32 32]:=ao wc.drew 70 _;have S:=tq wc.1.size 2 2 (fun i=>if i=0 then some ⟨y,0,none⟩else some ⟨z,0,none⟩) (fun _=>32) (fun _=>32) (fun i=>if i=0 then h (2*k)else h r) _ (M.out.2.2.below D) kH W.lt
     (fun i a6=>by rw[W.cell];rcases(show i=0\/i=1 by omega)with rfl|rfl<;>rfl) (fun i a6=>by rcases(show i=0\/i=1 by omega)with rfl|rfl;exact M.out.1.below D;exact M.out.2.1.below D) (fun _ _=>by omega)
    have ah:du (fun i=>if i=0 then h (2*k)else h r) 2=h (2*k)++h r:=by simp[du]
    rw[ah,<-t.out.2.2.1]at S;have Q:(nxt h n k).length=32:=by rw[t.out.2.2.1];exact iY _
    have a0:=t.out.2.1.below N;have F:=t.out.1.trans (N.mono t.out.1.size);have a7:=F.size;have L:=kG (a0.below D) (F.trans (D.mono a7));clear W a0 F M ah D N;refine aj 4 fun g d=> ?_;go_wp2_with fail;refine S.mono ?_;rintro e Y ⟨rfl,U⟩;have a1:=L.out.1.below U;have a3:=L.out.2.size;have G:=L.out.2.trans (U.mono a3);clear U L S;go_wp2_with fail;refine al d ?_;clear d g;refine aj 5 fun g d=> ?_;refine mV _ _ _ rfl (v:= .slice (some ⟨Y.1.size,0,none⟩) 1 1) (w':=Y.alloc (.cells (ob (nxt h n k)).toArray 32)) ?bs ?_
    ·simp only[k9,k4,k7];refine mW _ (nxt h n k) ?_ Q Y;go_simp
    refine al d ?_;clear d g;refine aj 6 fun g d=> ?_;refine mL _ _ rfl w.1.size E k I (nxt h n) rfl a1 (nxt h n k) Q rfl kH G.size ?_;intro a4 a5 bg X af _;have ae:=G.trans af;replace X:=mU X;clear a1 G af;refine al d ?_;clear d g;refine aT 7 kO rfl (fun g d=> ?_);go_simp;refine al d ?_;clear d g;refine ax ?_;clear t;go_wp2;go_roundw
    case rel=>exact⟨k+1,a4,a5,kH,by go_num,rfl,ae,X⟩
    case measure=>simp[intOf];omega
  ·have ak:k=(n+1)/2:=kH;subst ak;go_wp2;go_ret;exact⟨E,I,rfl,J,V⟩
theorem IK(a n c h w)(T:Tabs w)(H:RHs w a n c h)(ag:n<=1048576):
 Calls prog 127 #[.slice a n c] w fun e w'=>e= .returned (.agg (ob (dO h n)).toArray)/\Below w.1.size w w':=by
 have k0:=ao w 32 (ob aD).toArray;have k:=bAl w (.cells (ob aD).toArray 32);go_enter func127,ntmps127;go_upto_region 1 with fail
 change Code.wp _ _ _ _ (w.alloc (.cells (ob aD).toArray 32));generalize w.alloc (.cells (ob aD).toArray 32)=I at*;have J:=H.below k;have K:=T.below k;by_cases g:n=0\/1000<n
 ·have C:Hid (dO h n=aD):=by show _= _;unfold dO;rw[qb g]
  have p:(prog.info? 32).map (·.size)=some (ob aD).toArray.size:=aJ;have y:=k0.setRow (ob aD);have G:=aN I w.1.size (ob aD).toArray;have u:=k.trans (G.below kE k.size);rcases g with e|e
  ·subst e;go_upto_region 2 with fail
   go_wp2_with (refine qB rfl 32 _ _ rfl w.1.size (ob aD).toArray rfl rfl 32 _ k0 p rfl (bQ _) ?_);refine p6 (v:= .agg (ob aD).toArray) ?_ rfl ⟨rfl,u⟩;exact r3 results127 _ _ w.1.size 32 (ob aD).toArray (0,0) _ rfl y qa rfl p
  ·have W:((n:Int)==0)=false:=by simp;omega
   have X:(1000:Int)< (n:Int):=kH;go_upto_region 2 with fail
   go_wp2_with (refine qB rfl 32 _ _ rfl w.1.size (ob aD).toArray rfl rfl 32 _ k0 p rfl (bQ _) ?_);refine p6 (v:= .agg (ob aD).toArray) ?_ rfl ⟨by rw[C.out],u⟩;exact r3 results127 _ _ w.1.size 32 (ob aD).toArray (0,0) _ rfl y qa rfl p
 ·have ad:n≠0:=fun e=>g (kV e);have P:n<=1000:=by rcases nr 1000 n with h1|h1;exact absurd (kT h1) g;exact h1
  have C:Hid (dO h n=gC n h n):=by show _= _;unfold dO;rw[q4 g]
  have W:((n:Int)==0)=false:=by simp;omega
  have X:¬(1000:Int)< (n:Int):=kH;have q:=kG k0 (kR k (kR J K));clear g k0 k J H T K;go_wp2;go_loopw [0] (fun o wr=> ∃f h' d t x,o= .slice t d x/\1<=d/\d<=1000/\d<=f+1/\gC n h n=gC f h' d/\RHs wr t d x h'/\Below I.1.size I wr) (fun o _=>jh o)
  case atStart=>exact⟨n,h,n,a,c,rfl,kH,P,kH,rfl,q.out.2.2.1,kF⟩
  case round=>
   obtain⟨f,h',d,t,x,rfl,ae,Q,af,i,r,l⟩:=hrel;by_cases N:1<d
   ·have Y:(1:Int)< (d:Int):=kH;have L:=q.out.2.2.2.below l;go_wp2_with fail;refine(IJ t d x h' wr L r Q).mono ?_;rintro e ah ⟨U,V,rfl,M,S⟩;have D:=S.reads (tr h' d _);obtain⟨f',rfl⟩:∃f',f=f'+1:=⟨f-1,kH⟩;have hr:=i;rw[yu f' h' d N]at hr;have z:=l.trans (M.mono l.size);obtain⟨m,O⟩:∃m,m=(d+1)/2:=⟨_,rfl⟩;rw[<-O]at D hr ⊢;have ac:2*m<=d+1/\d<=2*m:=kH;have B:=kG D (kR z hr);clear D z hr S M l r L i O;go_wp2;go_roundw
    case rel=>exact⟨f',nxt h' d,m,U,V,rfl,kH,kH,kH,B.out.2.2,B.out.1,B.out.2.1⟩
    case measure=>simp[jh];omega
   ·have E:d=1:=kH;subst E;obtain⟨b,off,rfl,Z,ab⟩:=r.at_ kH;have s:=r.ok.len 0 kH;have j:=r.cells 0 kH;rw[Nat.zero_mul,m2]at j;have F:dO h n=h' 0:=by rw[C.out,i,yt]
    have p:(prog.info? 32).map (·.size)=some (ob (h' 0)).length:=by rw[au,s];exact aJ
    have A:(prog.info? 32).map (·.size)=some (ob (h' 0)).toArray.size:=by rw[aE,s];exact aJ
    have R:=q.out.1.below l;have y:=R.setRow (ob (h' 0));have G:=aN wr w.1.size (ob (h' 0)).toArray;have e0:=q.out.2.1.trans (l.mono q.out.2.1.size);have u:=e0.trans (G.below kE e0.size);have sz:(ob aD).toArray.size=(ob (h' 0)).toArray.size:=by rw[aE,aE,s];rfl
    go_upto_region 5 with fail
    go_wp2_with (first|(refine dm rfl 32 _ rfl b off rfl (ob (h' 0)) _ j qa rfl p ?_)|(refine qB rfl 32 _ _ rfl w.1.size (ob (h' 0)).toArray rfl rfl 32 _ R A sz (bQ _) ?_));refine p6 (v:= .agg (ob (h' 0)).toArray) ?_ rfl ⟨by rw[F],u⟩;exact r3 results127 _ _ w.1.size 32 (ob (h' 0)).toArray (0,0) _ rfl y qa rfl A
def cX(K:BlK):List Int:=if bG K.h=true then dp (eu K)else aK
theorem lV(K):(cX K).length=32:=by unfold cX;split;exact iY _;simp[aK]
theorem yA(K):IsB (cX K):=by unfold cX;split;exact tn _;exact iL 32
theorem yB{K}(h:bG K.h=true):cX K=dp (eu K):=by unfold cX;rw[qb h]
theorem yC{K}(h:bG K.h=false):cX K=aK:=by unfold cX;rw[q4 (by simp[h])]
theorem IL(v K w)(n:BlOk K):
 Calls prog 71 #[cK v K] w fun e w'=>e= .returned (.tuple #[.agg (ob (cX K)).toArray,.bool (bG K.h)])/\Below w.1.size w w':=by
 have z:=(ao w 113 (blc v K).toArray).below (kF.alloc kE (.cells (ob aK).toArray 32));have r:=ao (w.alloc (.cells (blc v K).toArray 113)) 32 (ob aK).toArray;have E:(w.alloc (.cells (blc v K).toArray 113)).1.size=w.1.size+1:=by simp
 rw[E]at r;have u:Below w.1.size w ((w.alloc (.cells (blc v K).toArray 113)).alloc (.cells (ob aK).toArray 32)):=eT w _ _;unfold cK;go_enter func71,ntmps71;go_upto_region 1 with fail
 change Code.wp _ _ _ _ ((w.alloc (.cells (blc v K).toArray 113)).alloc (.cells (ob aK).toArray 32));generalize (w.alloc (.cells (blc v K).toArray 113)).alloc (.cells (ob aK).toArray 32)=q at*;have i:Blk q 113 w.1.size (blc v K):=z;have H:q.cell? ⟨w.1.size,64,none⟩=some (.int .i64 K.h):=by rw[i.cell];exact iX v n
 have f:Hid (Blk q 32 (w.1.size+1) (ob aK)/\Below w.1.size w q):=⟨r,u⟩;clear z r E u;by_cases b:bG K.h=true
 ·have d:Hid (bG K.h=true):=b;have j:Hid (cX K=dp (eu K)):=yB b;have x:0<=K.h/\K.h<=1000000:=by simpa [bG]using b
  have C:(prog.info? 113).map (·.size)=some (blc v K).toArray.size:=by rw[ii v n];exact fG
  have g:¬K.h<0:=kH;have l:¬(1000000:Int)<K.h:=kH;go_upto_region 3 with fail
  have p:=xX v K q n x.1 x.2;unfold cK at p;go_wp2_with (refine qi rfl 113 _ rfl w.1.size rfl 113 (blc v K).toArray (0,0) _ i q7 rfl C ?_);refine p.mono ?_;rintro e w1 ⟨F,G,rfl,s,A⟩;have h:=f.out.1.below s;have g:=f.out.2.trans (s.mono f.out.2.size);have B:=A.bs (xV n);clear p i H;have o:=pE F 68 G (eu K) w1 B kH;rw[<-j.out]at o;go_wp2_with fail;refine o.mono ?_;rintro e D ⟨rfl,t⟩;clear o B A;have y:=h.below t;have l:=g.trans (t.mono g.size);have c:(prog.info? 32).map (·.size)=some (ob (cX K)).toArray.size:=by rw[aE,lV];exact aJ
  have J:(ob aK).toArray.size=(ob (cX K)).toArray.size:=by rw[aE,aE,lV];rfl
  have m:=y.setRow (ob (cX K));have k:Below w.1.size w (D.setRow (w.1.size+1) (ob (cX K)).toArray):=l.trans ((aN D (w.1.size+1) _).below kH l.size);clear h g;go_wp2_with (refine qB rfl 32 _ _ rfl (w.1.size+1) (ob (cX K)).toArray rfl rfl 32 _ y c J (bQ _) ?_);refine p6 (v:= .tuple #[.agg (ob (cX K)).toArray,.bool true]) ?_ rfl ⟨by rw[d.out],k⟩;exact jr results71 _ _ (w.1.size+1) 32 (ob (cX K)).toArray _ rfl m qa rfl c rfl
 ·have a:bG K.h=false:=by simpa using b
  have d:Hid (bG K.h=false):=a;have j:Hid (cX K=aK):=yC a;have c:(prog.info? 32).map (·.size)=some (ob aK).toArray.size:=aJ;have h:=f.out.1;have m:=h.setRow (ob aK);have k:Below w.1.size w (q.setRow (w.1.size+1) (ob aK).toArray):=f.out.2.trans ((aN q (w.1.size+1) _).below kH f.out.2.size);have I:K.h<0\/1000000<K.h:=by
   unfold bG at a;rw[decide_eq_false_iff_not]at a;omega
  clear b a;rcases I with g|g
  ·go_upto_region 2 with fail
   go_wp2_with (refine qB rfl 32 _ _ rfl (w.1.size+1) (ob aK).toArray rfl rfl 32 _ h c rfl (bQ _) ?_);refine p6 (v:= .tuple #[.agg (ob aK).toArray,.bool false]) ?_ rfl ⟨by rw[d.out,j.out],k⟩;exact jr results71 _ _ (w.1.size+1) 32 (ob aK).toArray _ rfl m qa rfl c rfl
  ·have l:¬K.h<0:=kH;go_upto_region 2 with fail
   go_wp2_with (refine qB rfl 32 _ _ rfl (w.1.size+1) (ob aK).toArray rfl rfl 32 _ h c rfl (bQ _) ?_);refine p6 (v:= .tuple #[.agg (ob aK).toArray,.bool false]) ?_ rfl ⟨by rw[d.out,j.out],k⟩;exact jr results71 _ _ (w.1.size+1) 32 (ob aK).toArray _ rfl m qa rfl c rfl
theorem IP(v K w)(T:Tabs w)(n:BlOk K):
 Calls prog 135 #[cK v K] w fun e w'=>e= .returned (.tuple #[.agg (ob (cX K)).toArray,.bool (bG K.h)])/\Below w.1.size w w':=by
 have I:=(ao w 113 (blc v K).toArray).below (kF.alloc kE (.cells (ob aK).toArray 32));have y:=ao (w.alloc (.cells (blc v K).toArray 113)) 32 (ob aK).toArray;have O:(w.alloc (.cells (blc v K).toArray 113)).1.size=w.1.size+1:=by simp
 rw[O]at y;have D:Below w.1.size w ((w.alloc (.cells (blc v K).toArray 113)).alloc (.cells (ob aK).toArray 32)):=eT w _ _;unfold cK;go_enter func135,ntmps135;go_upto_region 1 with fail
 change Code.wp _ _ _ _ ((w.alloc (.cells (blc v K).toArray 113)).alloc (.cells (ob aK).toArray 32));generalize (w.alloc (.cells (blc v K).toArray 113)).alloc (.cells (ob aK).toArray 32)=r at*;have l:Blk r 113 w.1.size (blc v K):=I;have P:r.cell? ⟨w.1.size,64,none⟩=some (.int .i64 K.h):=by rw[l.cell];exact iX v n
 have d:Hid (Blk r 32 (w.1.size+1) (ob aK)/\Below w.1.size w r):=⟨y,D⟩;clear I y O D;by_cases c:bG K.h=true
 ·have h:Hid (bG K.h=true):=c;have q:Hid (cX K=dp (eu K)):=yB c;have G:0<=K.h/\K.h<=1000000:=by simpa [bG]using c
  have M:(prog.info? 113).map (·.size)=some (blc v K).toArray.size:=by rw[ii v n];exact fG
  go_upto_region 3 with(go_at_call 99;refine(lP _ _).mono ?_;rintro e S ⟨rfl,t⟩;obtain rfl:=t.symm)
  have p:=Is v K r n G.1 G.2;unfold cK at p;go_wp2_with (refine qi rfl 113 _ rfl w.1.size rfl 113 (blc v K).toArray (0,0) _ l q7 rfl M ?_);refine p.mono ?_;rintro e w1 ⟨f,g,rfl,B,J⟩;have b:=d.out.1.below B;have a:=d.out.2.trans (B.mono d.out.2.size);have L:=J.bs (xV n);clear p l P;have A:=T.below a;have j:=bAl w1 (.cells #[Value.slice f 68 g] 70);have x:Blk (w1.alloc (.cells #[Value.slice f 68 g] 70)) 70 w1.1.size [Value.slice f 68 g]:=ao w1 70 _;have o:=tq w1.1.size 1 1 (fun _=>f) (fun _=>68) (fun _=>g) (fun _=>eu K) _ (A.below j) kH x.lt
   (fun i Q=>by rw[x.cell];obtain rfl:i=0:=kH;rfl) (fun i Q=>L.below j) (fun _ _=>by omega)
  have F:du (fun _=>eu K) 1=eu K:=by simp[du]
  rw[F,<-q.out]at o;have z:Hid (Blk (w1.alloc (.cells #[Value.slice f 68 g] 70)) 32 (w.1.size+1) (ob aK)/\Below w.1.size w (w1.alloc (.cells #[Value.slice f 68 g] 70))):=⟨b.below j,a.trans (j.mono a.size)⟩;clear F x j A b a L J;go_wp2_with fail;refine o.mono ?_;rintro e N ⟨rfl,C⟩;obtain⟨b,a⟩:=z.out;clear o;have H:=b.below C;have E:=a.trans (C.mono a.size);have m:(prog.info? 32).map (·.size)=some (ob (cX K)).toArray.size:=by rw[aE,lV];exact aJ
  have R:(ob aK).toArray.size=(ob (cX K)).toArray.size:=by rw[aE,aE,lV];rfl
  have u:=H.setRow (ob (cX K));have s:Below w.1.size w (N.setRow (w.1.size+1) (ob (cX K)).toArray):=E.trans ((aN N (w.1.size+1) _).below kH E.size);clear b a;go_wp2_with (refine qB rfl 32 _ _ rfl (w.1.size+1) (ob (cX K)).toArray rfl rfl 32 _ H m R (bQ _) ?_);refine p6 (v:= .tuple #[.agg (ob (cX K)).toArray,.bool true]) ?_ rfl ⟨by rw[h.out],s⟩;exact jr results135 _ _ (w.1.size+1) 32 (ob (cX K)).toArray _ rfl u qa rfl m rfl
 ·have k:bG K.h=false:=by simpa using c
  have h:Hid (bG K.h=false):=k;have q:Hid (cX K=aK):=yC k;have m:(prog.info? 32).map (·.size)=some (ob aK).toArray.size:=aJ;have b:=d.out.1;have u:=b.setRow (ob aK);have s:Below w.1.size w (r.setRow (w.1.size+1) (ob aK).toArray):=d.out.2.trans ((aN r (w.1.size+1) _).below kH d.out.2.size);go_upto_region 2 with(go_at_call 99;refine(lP _ _).mono ?_;rintro e S ⟨rfl,t⟩;obtain rfl:=t.symm)
  go_wp2_with (refine qB rfl 32 _ _ rfl (w.1.size+1) (ob aK).toArray rfl rfl 32 _ b m rfl (bQ _) ?_);refine p6 (v:= .tuple #[.agg (ob aK).toArray,.bool false]) ?_ rfl ⟨by rw[h.out,q.out],s⟩;exact jr results135 _ _ (w.1.size+1) 32 (ob aK).toArray _ rfl u qa rfl m rfl
theorem IQ(a n c h w)(H:RHs w a n c h)(cv:n<=1048576):
 Calls prog 112 #[.slice a n c] w fun e w'=>e= .returned (.agg (ob (dO h n)).toArray)/\Below w.1.size w w':=by
 have k0:=ao w 32 (ob aD).toArray;have ap:=bAl w (.cells (ob aD).toArray 32);go_enter func112,ntmps112;go_upto_region 1 with fail
 change Code.wp _ _ _ _ (w.alloc (.cells (ob aD).toArray 32));generalize w.alloc (.cells (ob aD).toArray 32)=a5 at*;have bS:=H.below ap;by_cases F:n=0\/1000<n
 ·have bi:Hid (dO h n=aD):=by show _= _;unfold dO;rw[qb F]
  have N:(prog.info? 32).map (·.size)=some (ob aD).toArray.size:=aJ;have bc:=k0.setRow (ob aD);have bP:=aN a5 w.1.size (ob aD).toArray;have ba:=ap.trans (bP.below kE ap.size);rcases F with e|e
  ·subst e;go_upto_region 2 with fail
   go_wp2_with (refine qB rfl 32 _ _ rfl w.1.size (ob aD).toArray rfl rfl 32 _ k0 N rfl (bQ _) ?_);refine p6 (v:= .agg (ob aD).toArray) ?_ rfl ⟨rfl,ba⟩;exact r3 results112 _ _ w.1.size 32 (ob aD).toArray (0,0) _ rfl bc qa rfl N
  ·have ch:((n:Int)==0)=false:=by simp;omega
   have ci:(1000:Int)< (n:Int):=kH;go_upto_region 2 with fail
   go_wp2_with (refine qB rfl 32 _ _ rfl w.1.size (ob aD).toArray rfl rfl 32 _ k0 N rfl (bQ _) ?_);refine p6 (v:= .agg (ob aD).toArray) ?_ rfl ⟨by rw[bi.out],ba⟩;exact r3 results112 _ _ w.1.size 32 (ob aD).toArray (0,0) _ rfl bc qa rfl N
 ·have cq:n≠0:=fun e=>F (kV e);have b7:n<=1000:=by rcases nr 1000 n with h1|h1;exact absurd (kT h1) F;exact h1
  have bi:Hid (dO h n=gC n h n):=by show _= _;unfold dO;rw[q4 F]
  have ch:((n:Int)==0)=false:=by simp;omega
  have ci:¬(1000:Int)< (n:Int):=kH;have a9:=kG k0 (kR ap bS);clear F k0 ap bS H;go_wp2;go_loopw [0] (fun o wr=> ∃f h' d bk bb,o= .slice bk d bb/\1<=d/\d<=1000/\d<=f+1/\gC n h n=gC f h' d/\RHs wr bk d bb h'/\Below a5.1.size a5 wr) (fun o _=>jh o)
  case atStart=>exact⟨n,h,n,a,c,rfl,kH,b7,kH,rfl,a9.out.2.2,kF⟩
  case round=>
   obtain⟨f,h',d,bk,bb,rfl,cr,cs,ct,R,x,z⟩:=hrel;by_cases b6:1<d
   ·obtain⟨b,off,rfl,b2,be⟩:=x.at_ kH;have bR:=bAl wr (.cells #[] 32);have key:∀v:World,Below wr.1.size (wr.alloc (.cells #[] 32)) v->RHs v (some ⟨b,off,none⟩) d bb h'/\Below a5.1.size a5 v:=fun v ak=>⟨x.below (bR.trans ak),z.trans ((bR.trans ak).mono z.size)⟩;have ce:OHs wr.1.size (wr.alloc (.cells #[] 32)) (some ⟨wr.1.size,0,none⟩) 0 0 (nxt h' d):=by
     have:=World.ownsRow_lit (base:=wr.1.size) (e:=32) (size:=32) wr #[] 0 kE (by unfold maxLen;omega) kP;simpa [OHs,aS]using this
    have bd:wr.1.size<=(wr.alloc (.cells #[] 32)).1.size:=by simp
    have am:=kG key (kR ce R);have cn:(1:Int)< (d:Int):=kH;clear x z R key ce be bR;go_wp2;generalize wr.alloc (.cells #[] 32)=bj at*;generalize wr.1.size=S at*;go_loopw [3,4] (fun o i cg=> ∃k T V,k<=(d+1)/2/\i= .int .i64 ((2*k:Nat):Int)/\o= .slice T k V/\Below S bj cg/\OHs S cg T k V (nxt h' d)) (fun _ i _=>d+2-(intOf i).toNat)
    case atStart=>exact⟨0,_,0,kX _,rfl,rfl,kF,am.out.2.1⟩
    case round=>
     obtain⟨k,T,V,cu,rfl,rfl,z,ai⟩:=hrel;obtain⟨x,ag⟩:=am.out.1 wr z;by_cases K:2*k<d
     ·have t:=x.cells (2*k) K;have D:=x.ok.len (2*k) K;have N:(prog.info? 32).map (·.size)=some (ob (h' (2*k))).length:=by rw[au,D];exact aJ
      have O:(prog.info? 32).map (·.size)=some (ob (h' (2*k))).toArray.size:=by rw[aE,D];exact aJ
      have ah:∀xs:List Int,xs.length=32->(ob aD).toArray.size=(ob xs).toArray.size:=fun xs hx=>by rw[aE,aE,hx];rfl
      have cp:(2*(k:Int))< (d:Int):=kH;have co:(0:Int)<=2*(k:Int):=kH;have L:=x.ok.byte (2*k) K;by_cases E:2*k+1<d
      ·have P:=(x.below ((p4 wr.1.size wr).alloc kE (.cells (ob (h' (2*k))).toArray 32))).cells (2*k+1) E;have W:=x.ok.len (2*k+1) E;have cf:(prog.info? 32).map (·.size)=some (ob (h' (2*k+1))).length:=by rw[au,W];exact aJ
       have bf:(prog.info? 32).map (·.size)=some (ob (h' (2*k+1))).toArray.size:=by rw[aE,W];exact aJ
       have bg:(ob (h' (2*k))).toArray.size=(ob (h' (2*k+1))).toArray.size:=by rw[aE,aE,D,W]
       have b8:(2*(k:Int)+1)< (d:Int):=kH;go_upto_region 8 with fail
       go_wp2_with (first|(refine dm rfl 32 _ rfl b (off+2*k*32) rfl (ob (h' (2*k))) _ t qa rfl N ?_)|(refine dm rfl 32 _ rfl b (off+(2*k+1)*32) rfl (ob (h' (2*k+1))) _ P qa rfl cf ?_)|(refine aL rfl 32 _ _ rfl wr (ob aD).toArray (ob (h' (2*k))).toArray 32 rfl rfl O (ah _ D) (bQ _) ?_)|(refine aL rfl 32 _ _ rfl wr (ob (h' (2*k))).toArray (ob (h' (2*k+1))).toArray 32 rfl rfl bf bg (bQ _) ?_));have M:nxt h' d k=dp (h' (2*k)++h' (2*k+1)):=by unfold nxt;rw[qb E]
       have b9:=W;have a1:=x.ok.byte (2*k+1) E;clear P cf bf bg W;generalize h' (2*k+1)=y at*;have a2:=ao wr 32 (ob y).toArray;have ab:=bAl wr (.cells (ob y).toArray 32);have q:Hid (∀v:World,Below wr.1.size (wr.alloc (.cells (ob y).toArray 32)) v->v.heap[wr.1.size]?=(wr.alloc (.cells (ob y).toArray 32)).heap[wr.1.size]?->(Instr.loadAt 32 (.pointer (some ⟨b,off+2*k*32,none⟩))).run prog v= .ok (.agg (ob (h' (2*k))).toArray) v/\(Instr.loadAt 32 (.pointer (some ⟨wr.1.size,0,none⟩))).run prog v= .ok (.agg (ob y).toArray) v):=fun v ak bz=>
        ⟨(x.below (ab.trans ak)).load (2*k) K,yy (by unfold Blk;rw[bz];exact a2) b9⟩
       have cm:(wr.alloc (.cells (ob y).toArray 32)).1.size=wr.1.size+1:=by simp
       have I:Hid (OHs S (wr.alloc (.cells (ob y).toArray 32)) T k V (nxt h' d)/\Below S bj (wr.alloc (.cells (ob y).toArray 32))):=⟨ai.below ab,z.alloc (k2 bd z.size) _⟩;have cc:=k2 bd z.size;clear a2 ab ai z x ag t N O ah;generalize wr.alloc (.cells (ob y).toArray 32)=an at*;generalize wr.1.size=A at*;refine ay (fun v=>(Instr.loadAt 32 (.pointer (some ⟨b,off+2*k*32,none⟩))).run prog v= .ok (.agg (ob (h' (2*k))).toArray) v/\(Instr.loadAt 32 (.pointer (some ⟨A,0,none⟩))).run prog v= .ok (.agg (ob y).toArray) v) (fun j=>decide (11<=j)) kO ?_;have s:=q.out an.drew kF.drew rfl;refine aa 0 s ?_;refine aa 1 s ?_;refine aa 2 s ?_;refine aa 3 s ?_;refine aC 4 (.agg (ob (h' (2*k))).toArray) s ?hy4 ?_
       case hy4=>exact fun w J=>bO (p:= .pointer (some ⟨b,off+2*k*32,none⟩)) rfl rfl J.1
       refine aC 6 (.agg (ob y).toArray) s ?hy6 ?_
       case hy6=>exact fun w J=>bO (p:= .pointer (some ⟨A,0,none⟩)) rfl rfl J.2
       refine aj 5 fun m l=> ?_;go_wp2_with fail;refine(gj (h' (2*k)) _ D L).mono ?_;rintro e a6 ⟨bl,bt,rfl,u,ac⟩;simp only[s6]at u ac;replace u:=yx u;go_wp2_with fail;refine l.out _ _ (fun _=>q.out a6 (u.mono kH) (u.block A kH)) ?_;clear l m;refine aj 7 fun m l=> ?_;go_wp2_with fail;refine(gj y _ b9 a1).mono ?_;rintro e a7 ⟨bn,bu,rfl,Q,ad⟩;have B:=u.trans (Q.mono u.size);have Z:=ac.below Q;obtain⟨bx,rfl,b3,b5⟩:∃g,bn=some ⟨g,0,none⟩/\a6.1.size<=g/\g<a7.1.size:=by
        rcases ad.2 with⟨_,ck⟩|⟨g,b0,b1,e,bE,bF,_⟩
        ·omega
        ·cases e;exact⟨g,rfl,bE,(k6.1 bF).1⟩
       have ca:=u.size;have cb:=Q.size;clear u ac Q;go_wp2_with fail;refine l.out _ _ (fun _=>q.out a7 (B.mono kH) (B.block A kH)) ?_;clear l m;refine aT 8 kO rfl (fun m l=> ?_);refine yw rfl _ _ rfl an.1.size bl 32 bt (h' (2*k)) rfl Z bx 32 bu y rfl (ad.bs a1) kH kH ?_;intro bp bv a8 a3 aw;have C:=B.trans aw;clear Z ad B;refine l.out _ _ (fun _=>q.out a8 (C.mono kH) (C.block A kH)) ?_;clear l m;refine aj 9 fun m l=> ?_;go_wp2_with fail;refine(pE bp (32+32) bv (h' (2*k)++y) a8 (a3.bs (cY L a1)) kH).mono ?_;rintro e G ⟨rfl,aH⟩;rw[<-M];have r:=C.trans (aH.mono C.size);clear a3 aw aH;go_wp2_with fail;refine l.out _ _ (fun _=>q.out G (r.mono kH) (r.block A kH)) ?_;clear l m;have Y:=r.size;have X:(nxt h' d k).length=32:=by rw[M];exact iY _
       have af:=bAl G (.cells (ob (nxt h' d k)).toArray 32);have a4:=I.out.1.below r;have U:=I.out.2.trans (r.mono kH);have aX:=q.out (G.alloc (.cells (ob (nxt h' d k)).toArray 32)) ((r.trans (af.mono Y)).mono kH) ((r.trans (af.mono Y)).block A kH);refine aj 10 fun m l=> ?_;refine mV _ _ _ rfl (v:= .slice (some ⟨G.1.size,0,none⟩) 1 1) (w':=G.alloc (.cells (ob (nxt h' d k)).toArray 32)) ?bs ?_
       ·simp only[k9,k4,k7];refine mW _ (nxt h' d k) ?_ X G;go_simp
       refine al l ?_;clear l m;refine aj 11 fun m l=> ?_;refine mL _ _ rfl S T k V (nxt h' d) rfl a4 (nxt h' d k) X rfl kH kH ?_;intro bq bw cl ae aO _;have ar:=U.trans aO;replace ae:=mU ae;clear a4 U aO aX af;refine al l ?_;clear l m;refine aT 12 kO rfl (fun m l=> ?_);go_simp;refine al l ?_;clear l m;refine ax ?_;clear s q I M;go_wp2;go_roundw
       case rel=>exact⟨k+1,bq,bw,kH,by go_num,rfl,ar,ae⟩
       case measure=>simp[intOf];omega
      ·have b8:¬(2*(k:Int)+1)< (d:Int):=kH;go_upto_region 8 with fail
       go_wp2_with (first|(refine dm rfl 32 _ rfl b (off+2*k*32) rfl (ob (h' (2*k))) _ t qa rfl N ?_)|(refine aL rfl 32 _ _ rfl wr (ob aD).toArray (ob (h' (2*k))).toArray 32 rfl rfl O (ah _ D) (bQ _) ?_));have M:nxt h' d k=dp (h' (2*k)++h' (2*k)):=by unfold nxt;rw[q4 E]
       have a2:=ao wr 32 (ob (h' (2*k))).toArray;have ab:=bAl wr (.cells (ob (h' (2*k))).toArray 32);have q:Hid (∀v:World,Below wr.1.size (wr.alloc (.cells (ob (h' (2*k))).toArray 32)) v->v.heap[wr.1.size]?=(wr.alloc (.cells (ob (h' (2*k))).toArray 32)).heap[wr.1.size]?->(Instr.loadAt 32 (.pointer (some ⟨b,off+2*k*32,none⟩))).run prog v= .ok (.agg (ob (h' (2*k))).toArray) v/\(Instr.loadAt 32 (.pointer (some ⟨wr.1.size,0,none⟩))).run prog v= .ok (.agg (ob (h' (2*k))).toArray) v):=fun v ak bz=>
        ⟨(x.below (ab.trans ak)).load (2*k) K,yy (by unfold Blk;rw[bz];exact a2) D⟩
       have cm:(wr.alloc (.cells (ob (h' (2*k))).toArray 32)).1.size=wr.1.size+1:=by simp
       have I:Hid (OHs S (wr.alloc (.cells (ob (h' (2*k))).toArray 32)) T k V (nxt h' d)/\Below S bj (wr.alloc (.cells (ob (h' (2*k))).toArray 32))):=⟨ai.below ab,z.alloc (k2 bd z.size) _⟩;have cc:=k2 bd z.size;clear a2 ab ai z x ag t N O ah;generalize wr.alloc (.cells (ob (h' (2*k))).toArray 32)=an at*;generalize wr.1.size=A at*;refine ay (fun v=>(Instr.loadAt 32 (.pointer (some ⟨b,off+2*k*32,none⟩))).run prog v= .ok (.agg (ob (h' (2*k))).toArray) v/\(Instr.loadAt 32 (.pointer (some ⟨A,0,none⟩))).run prog v= .ok (.agg (ob (h' (2*k))).toArray) v) (fun j=>decide (11<=j)) kO ?_;have s:=q.out an.drew kF.drew rfl;refine aa 0 s ?_;refine aa 1 s ?_;refine aa 2 s ?_;refine aa 3 s ?_;refine aC 4 (.agg (ob (h' (2*k))).toArray) s ?hyz4 ?_
       case hyz4=>exact fun w J=>bO (p:= .pointer (some ⟨b,off+2*k*32,none⟩)) rfl rfl J.1
       refine aC 6 (.agg (ob (h' (2*k))).toArray) s ?hyz6 ?_
       case hyz6=>exact fun w J=>bO (p:= .pointer (some ⟨A,0,none⟩)) rfl rfl J.2
       refine aj 5 fun m l=> ?_;go_wp2_with fail;refine(gj (h' (2*k)) _ D L).mono ?_;rintro e a6 ⟨bl,bt,rfl,u,ac⟩;simp only[s6]at u ac;replace u:=yx u;go_wp2_with fail;refine l.out _ _ (fun _=>q.out a6 (u.mono kH) (u.block A kH)) ?_;clear l m;refine aj 7 fun m l=> ?_;go_wp2_with fail;refine(gj (h' (2*k)) _ D L).mono ?_;rintro e a7 ⟨bn,bu,rfl,Q,ad⟩;have B:=u.trans (Q.mono u.size);have Z:=ac.below Q;obtain⟨bx,rfl,b3,b5⟩:∃g,bn=some ⟨g,0,none⟩/\a6.1.size<=g/\g<a7.1.size:=by
        rcases ad.2 with⟨_,ck⟩|⟨g,b0,b1,e,bE,bF,_⟩
        ·omega
        ·cases e;exact⟨g,rfl,bE,(k6.1 bF).1⟩
       have ca:=u.size;have cb:=Q.size;clear u ac Q;go_wp2_with fail;refine l.out _ _ (fun _=>q.out a7 (B.mono kH) (B.block A kH)) ?_;clear l m;refine aT 8 kO rfl (fun m l=> ?_);refine yw rfl _ _ rfl an.1.size bl 32 bt (h' (2*k)) rfl Z bx 32 bu (h' (2*k)) rfl (ad.bs L) kH kH ?_;intro bp bv a8 a3 aw;have C:=B.trans aw;clear Z ad B;refine l.out _ _ (fun _=>q.out a8 (C.mono kH) (C.block A kH)) ?_;clear l m;refine aj 9 fun m l=> ?_;go_wp2_with fail;refine(pE bp (32+32) bv (h' (2*k)++h' (2*k)) a8 (a3.bs (cY L L)) kH).mono ?_;rintro e G ⟨rfl,aH⟩;rw[<-M];have r:=C.trans (aH.mono C.size);clear a3 aw aH;go_wp2_with fail;refine l.out _ _ (fun _=>q.out G (r.mono kH) (r.block A kH)) ?_;clear l m;have Y:=r.size;have X:(nxt h' d k).length=32:=by rw[M];exact iY _
       have af:=bAl G (.cells (ob (nxt h' d k)).toArray 32);have a4:=I.out.1.below r;have U:=I.out.2.trans (r.mono kH);have aX:=q.out (G.alloc (.cells (ob (nxt h' d k)).toArray 32)) ((r.trans (af.mono Y)).mono kH) ((r.trans (af.mono Y)).block A kH);refine aj 10 fun m l=> ?_;refine mV _ _ _ rfl (v:= .slice (some ⟨G.1.size,0,none⟩) 1 1) (w':=G.alloc (.cells (ob (nxt h' d k)).toArray 32)) ?bs2 ?_
       ·simp only[k9,k4,k7];refine mW _ (nxt h' d k) ?_ X G;go_simp
       refine al l ?_;clear l m;refine aj 11 fun m l=> ?_;refine mL _ _ rfl S T k V (nxt h' d) rfl a4 (nxt h' d k) X rfl kH kH ?_;intro bq bw cl ae aO _;have ar:=U.trans aO;replace ae:=mU ae;clear a4 U aO aX af;refine al l ?_;clear l m;refine aT 12 kO rfl (fun m l=> ?_);go_simp;refine al l ?_;clear l m;refine ax ?_;clear s q I M;go_wp2;go_roundw
       case rel=>exact⟨k+1,bq,bw,kH,by go_num,rfl,ar,ae⟩
       case measure=>simp[intOf];omega
     ·have b4:k=(d+1)/2:=kH;have bY:=ai.reads (tr h' d k);obtain⟨f',rfl⟩:∃f',f=f'+1:=⟨f-1,kH⟩;have hr:=am.out.2.2;rw[yu f' h' d b6,<-b4]at hr;have bh:=kG bY (kR ag hr);clear bY ag hr ai z x;go_wp2;go_roundw
      case rel=>exact⟨f',nxt h' d,k,T,V,rfl,kH,kH,kH,bh.out.2.2,bh.out.1,bh.out.2.1⟩
      case measure=>simp[jh];omega
   ·have bH:d=1:=kH;subst bH;obtain⟨b,off,rfl,b2,be⟩:=x.at_ kH;have a0:=x.ok.len 0 kH;have t:=x.cells 0 kH;rw[Nat.zero_mul,m2]at t;have bN:dO h n=h' 0:=by rw[bi.out,R,yt]
    have N:(prog.info? 32).map (·.size)=some (ob (h' 0)).length:=by rw[au,a0];exact aJ
    have O:(prog.info? 32).map (·.size)=some (ob (h' 0)).toArray.size:=by rw[aE,a0];exact aJ
    have cd:=a9.out.1.below z;have bc:=cd.setRow (ob (h' 0));have bP:=aN wr w.1.size (ob (h' 0)).toArray;have e0:=a9.out.2.1.trans (z.mono a9.out.2.1.size);have ba:=e0.trans (bP.below kE e0.size);have sz:(ob aD).toArray.size=(ob (h' 0)).toArray.size:=by rw[aE,aE,a0];rfl
    go_upto_region 13 with fail
    go_wp2_with (first|(refine dm rfl 32 _ rfl b off rfl (ob (h' 0)) _ t qa rfl N ?_)|(refine qB rfl 32 _ _ rfl w.1.size (ob (h' 0)).toArray rfl rfl 32 _ cd O sz (bQ _) ?_));refine p6 (v:= .agg (ob (h' 0)).toArray) ?_ rfl ⟨by rw[bN],ba⟩;exact r3 results112 _ _ w.1.size 32 (ob (h' 0)).toArray (0,0) _ rfl bc qa rfl O
theorem mX(l:List Int)(p)(h:p<l.length):(l.drop p).take 1=[l.getD p 0]:=by
 rw[oF h,List.take_succ_cons,o7];simp[List.getD,h]
theorem iZ(l:List Int)(p k):l.take (p+k)=l.take p++(l.drop p).take k:=List.take_add
theorem yD:∀y:List Int,low (y++[0])=low y
 |[]=>rfl
 |x::a=>by
  have:=yD a;simp only[List.cons_append,low,this]
theorem IR{x}(d:IsB x)(f:x.length=8)(c:x.getD 7 0=0):num (fh x) 8=x:=by
 have e:x=x.take 7++[0]:=by
  have a:=mX x 7 kH;have b:=iZ x 7 1;rw[a,c,mm kH]at b;exact b
 have a:=(od d f).1 c;rw[a,<-yD (x.take 7),<-e,<-f];exact jX d
def dJ(l:List Int):Prop:=dk l<=l.length/\∀i,i<outN l->l.getD (inE l+1+8*i+7) 0=0
theorem yE{l}(a:IsB l):∀j,1+33*j<=l.length->dI (txP l) j=l.take (1+33*j)
 |0,h=>by
  rw[sK];have e:=mX l 0 kH;rw[List.drop_zero]at e;rw[show 1+33*0=1 from rfl,e,(iz a 0).1]
  rfl
 |j+1,h=>by
  have b:1+33*(j+1)=(1+33*j)+32+1:=kH;rw[mS,yE a j kH,b,iZ l (1+33*j+32) 1,iZ l (1+33*j) 32,mX _ _ kH]
  rfl
theorem yF{l}(a:IsB l)(b:inE l+1<=l.length)(c:∀i,i<outN l->l.getD (inE l+1+8*i+7) 0=0):∀j,j<=outN l->inE l+1+8*j<=l.length->fE (txP l) j=l.take (inE l+1+8*j)
 |0,_,h=>by
  rw[sQ];have e:=yE a (inN l) (by unfold inE at b;omega);rw[show(txP l).ni=inN l from rfl,e,show inE l+1+8*0=inE l+1 by omega,iZ l (inE l) 1,mX _ _ kH,(iz a (inE l)).1]
  rfl
 |j+1,k,h=>by
  have d:inE l+1+8*(j+1)=(inE l+1+8*j)+8:=kH;rw[sJ,yF a b c j kH kH,d,iZ l (inE l+1+8*j) 8];congr 1;refine IR (x:=(l.drop (inE l+1+8*j)).take 8) (dR (ff a _) _) (by rw[lw,k3];omega) ?_;have g:=c j kH;have f:((l.drop (inE l+1+8*j)).take 8).getD 7 0=l.getD (inE l+1+8*j+7) 0:=by simp[List.getD]
  rw[f];exact g
theorem IS{l}(a:IsB l)(h:dJ l):fF (txP l)=l.take (dk l):=by
 obtain⟨c,b⟩:=h;have e:dk l=inE l+1+8*outN l+4:=rfl;unfold fF;rw[show(txP l).no=outN l from rfl,yF a kH b _ kE kH,e,iZ l (inE l+1+8*outN l) 4];congr 1;have:=jX (dR (ff a (inE l+1+8*outN l)) 4);rw[lw,k3,Nat.min_eq_left kH]at this;exact this
theorem IU{l}(d:IsB l)(f:dk l<=l.length)(h:aF (txP l)=true):dJ l:=by
 refine⟨f,fun i g=> ?_⟩;have o:=(jJ h).out i g;have e:dk l=inE l+1+8*outN l+4:=rfl;have b:=od (dR (ff d (inE l+1+8*i)) 8) (by rw[lw,k3];omega);have c:((l.drop (inE l+1+8*i)).take 8).getD 7 0=l.getD (inE l+1+8*i+7) 0:=by simp[List.getD]
 rw[c]at b;by_cases a:l.getD (inE l+1+8*i+7) 0=0
 ·exact a
 ·have:=b.2 a;change 1<=fh _/\fh _<=1000000000000 at o;omega
theorem yG{l}(a:IsB l)(b:69<=l.length):∀j,j<=blN l->bZ l j<=l.length->(∀i,i<j->dJ (l.drop (bZ l i)))->fv (blP l) j=l.take (bZ l j)
 |0,_,_,_=>by
  rw[td];have c:num (blP l).h 4=(l.drop 64).take 4:=by
   have:=jX (dR (ff a 64) 4);rw[lw,k3,Nat.min_eq_left kH]at this;exact this
  show eu (blP l)++[((blP l).nt:Int)]=l.take 69;unfold eu;rw[c,show(69:Nat)=68+1 from rfl,iZ l 68 1,show(68:Nat)=64+4 from rfl,iZ l 64 4,show(64:Nat)=32+32 from rfl,iZ l 32 32,mX _ _ kH,(iz a _).1]
  rfl
 |j+1,f,d,h=>by
  have g:bZ l j<=bZ l (j+1):=pu l (n0 j);rw[te,yG a b j kH kH (fun i e=>h i kH)];show _=l.take (bZ l j+dk (l.drop (bZ l j)));rw[iZ,show(blP l).tx j=txP (l.drop (bZ l j))from rfl,IS (ff a _) (h j kH)]
theorem IV{l}(d:IsB l){i}(c:i<blN l)(e:bZ l i<=l.length)(h:¬dJ (l.drop (bZ l i))):(decide (et l=l.length)&&cQ (blP l))=false:=by
 by_cases b:dk (l.drop (bZ l i))<=(l.drop (bZ l i)).length
 ·have:cQ (blP l)=false:=by
   by_cases a:cQ (blP l)=true
   ·exact absurd (IU (ff d _) b ((yg a).2.2 i c)) h
   ·simpa using a
  rw[this,Bool.and_false]
 ·rw[k3]at b;have f:bZ l (i+1)<=et l:=pu l c;have g:bZ l (i+1)=bZ l i+dk (l.drop (bZ l i)):=rfl;rw[q5 kH,Bool.false_and]
