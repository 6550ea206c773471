import Derived.Test.YtglbanolhhjjiaaGreatDoorFo47
import Derived.Test.YtglbanolhhjjiaaGreatDoorFo18
import Derived.Test.YtglbanolhhjjiaaGreatDoorFo46
import Derived.Test.YtglbanolhhjjiaaGreatDoorFo19
namespace Go.Proofs.YtglbanolhhjjiaaGreatDoor
open Go.Proofs.Tryz
open Go.RowKit
set_option linter.unusedVariables false
set_option maxRecDepth 100000
set_option maxHeartbeats 32000000
noncomputable def cu(K:DK)(xs:List OpK)(most:Int):DK:=ppK K (opJ xs) (opM xs) (opB xs) xs.length most
theorem pu{K}(h:dOk K)(xs a):dOk (cu K xs a):=by
 unfold cu;by_cases b:xs.length<=5000
 ·rw[vh h b];exact mj _ _ h _
 ·rw[qI (fun e=>b e.2)];exact h
theorem mH(d K a c xs f w)(h:RDisk w d K)(i:dOk K)(j:ROp w a c xs):
 Calls prog 58 #[av d K,.slice a xs.length c,.int .i64 f] w fun e w'=> ∃g k,e= .returned (.tuple #[av g (cu K xs f),.int .i64 k])/\Below w.1.size w w'/\ODisk w.1.size w' g (cu K xs f):=by
 obtain⟨m,n,l⟩:=j.recs;refine(vP d K a xs.length c (opJ xs) m (opM xs) n (opB xs) f w h (qE h i) l).mono ?_;rintro e w' ⟨g,rfl,b,o⟩;exact⟨g,_,rfl,b,o⟩
theorem pv{Z}{B e s n:Nat}{w w' v xs}(h:w.ownsRow B e s v n xs)(a:OnlyS Z w w')(b:∀k,B<=k->¬Z k):w'.ownsRow B e s v n xs:=by
 refine⟨h.1,?_⟩;rcases h.2 with h2|⟨g,cap,cur,hv,hg,hh,r⟩
 ·exact v7 h2
 ·exact v6 ⟨g,cap,cur,hv,hg,by rw[a.block g (wy.1 hh).1 (b g hg)];exact hh,r⟩
theorem ODisk.low{Z B w w' d K}(h:ODisk B w d K)(a:OnlyS Z w w')(b:∀k,B<=k->¬Z k):ODisk B w' d K:=
 ⟨⟨pv h.safe.row a b,fun i c=>pv (h.safe.data i c) a b,h.safe.byte,h.safe.sep1⟩,⟨pv h.pend.row a b,fun i c=>pv (h.pend.data i c) a b,h.pend.byte,h.pend.sep1⟩,h.sepX⟩
theorem sJ{n}(a:1<=n)(b:n<=4096):dOk (bV n):=⟨⟨a,b,wa _⟩,fun i _=>AY,fun j c=>absurd c (xN _)⟩
noncomputable def iZ(m:Nat):DK:=cu (bV (4*m)) (pwL 4 1 (ip 1 0 2 0)++[opS]) 5
abbrev MdS:=DK×SupK×Nat
noncomputable def fX(l:List Int)(n:Nat)(s:MdS):MdS:=
 if(upR s.1 s.2.1.1 s.2.1.2.1 s.2.1.2.2.1 s.2.1.2.2.2 (fG l n 40 s.2.2).1).2.2=0 then(cu s.1 (upR s.1 s.2.1.1 s.2.1.2.1 s.2.1.2.2.1 s.2.1.2.2.2 (fG l n 40 s.2.2).1).1 (upR s.1 s.2.1.1 s.2.1.2.1 s.2.1.2.2.1 s.2.1.2.2.2 (fG l n 40 s.2.2).1).1.length,(upR s.1 s.2.1.1 s.2.1.2.1 s.2.1.2.2.1 s.2.1.2.2.2 (fG l n 40 s.2.2).1).2.1,(fG l n 40 s.2.2).2)
 else(s.1,s.2.1,(fG l n 40 s.2.2).2)
noncomputable def mdI(l:List Int)(n:Nat):Nat->MdS->MdS
 |0,s=>s
 |j+1,s=>fX l n (mdI l n j s)
noncomputable def mdR(l:List Int)(n p:Nat):MdS:=mdI l n (1+(l.getD p 0/16%4).toNat) (iZ (8+(l.getD p 0%4).toNat*40),(1,0,2,0),rdP n p)
theorem Il{l n s}(h:dOk s.1):dOk (fX l n s).1:=by
 unfold fX;split
 ·exact pu h _ _
 ·exact h
theorem sK{l n s}(h:dOk s.1):∀j,dOk (mdI l n j s).1
 |0=>h
 |j+1=>Il (sK h j)
theorem yR{m}(a:1<=m)(b:m<=1024):dOk (iZ m):=pu (sJ uA uA) _ _
theorem sL(l n p):dOk (mdR l n p).1:=sK (yR uA (by have:(l.getD p 0%4).toNat<=3:=uA;omega)) _
theorem pw:∀(t:Tr)(a:Tk),a.2<=(plT t a).2.1.2
 | .leaf id es,a=>by
  have h:=lu a;rw[plT];split
  ·exact h.1
  ·exact A4 _
 | .node id ks,a=>by
  have b:=pw ks a;have h:=(lu (plT ks a).2.1).1;rw[plT];split
  ·exact Int.le_trans b h
  ·exact b
 | .nil,a=>by rw[plT];exact A4 _
 | .cons s t ks,a=>by
  have b:=pw t a;have c:=pw ks (plT t a).2.1;rw[plT];exact Int.le_trans b c
theorem Im(o a):a.2<=(plO o a).2.1.2:=by
 cases o with
 |none=>exact A4 _
 |some x=>exact pw _ _
theorem yS:∀(f:Nat)(a:Tk)(b ls:List Int),a.2<=(lsL f a b ls).1.2
 |0,a,b,ls=>A4 _
 |f+1,a,b,ls=>by
  rw[lsL];split
  ·exact Int.le_trans (lu a).1 (yS f _ _ _)
  ·exact A4 _
theorem In{K c a b fr cs}(h:(upR K c a b fr cs).2.2=0):2<=(upR K c a b fr cs).2.1.2.2.1/\(upR K c a b fr cs).2.1.2.2.1<=1024:=by
 unfold upR at h ⊢;by_cases d:whS K c a b fr=true/\c≠1000000000000
 ·rw[B4 d]at h ⊢;obtain⟨l,own,_,e⟩:=yP d.1;have j:=(mW e.sup).1;by_cases f:gu cs=true
  ·rw[B4 f]at h ⊢;by_cases g:(dn cs (upT K a,false)).2=true
   ·rw[B4 g]at h ⊢;unfold wrR wrY at h ⊢;have m:=Im (dn cs (upT K a,false)).1 (((flT K fr).getD ([],[])).1,b);generalize plO (dn cs (upT K a,false)).1 (((flT K fr).getD ([],[])).1,b)=r at*;have n:=yS (idZ r (tpL K a) ((flT K fr).getD ([],[])).2).length r.2.1 (idZ r (tpL K a) ((flT K fr).getD ([],[])).2) [];generalize lsL (idZ r (tpL K a) ((flT K fr).getD ([],[])).2).length r.2.1 (idZ r (tpL K a) ((flT K fr).getD ([],[])).2) []=k at*;unfold wrZ at h ⊢;by_cases i:((nPg K:Nat):Int)<k.1.2
    ·rw[B4 i]at h;exact absurd h uB
    ·rw[CH i];have o:=(gK e.ok).1.2.1;have p:nPg K<=1024:=by unfold nPg;omega
     show 2<=k.1.2/\k.1.2<=1024;omega
   ·rw[CH g];exact⟨j.2.2.1,j.2.2.2⟩
  ·rw[CH f]at h;exact absurd h (show¬(2:Int)=0 by decide)
 ·rw[CH d]at h;exact absurd h (show¬(1:Int)=0 by decide)
theorem Io{l n s}(h:2<=s.2.1.2.2.1/\s.2.1.2.2.1<=1024):2<=(fX l n s).2.1.2.2.1/\(fX l n s).2.1.2.2.1<=1024:=by
 unfold fX;split
 ·rename_i a;exact In a
 ·exact h
theorem yT{l n s}(h:2<=s.2.1.2.2.1/\s.2.1.2.2.1<=1024):∀j,2<=(mdI l n j s).2.1.2.2.1/\(mdI l n j s).2.1.2.2.1<=1024
 |0=>h
 |j+1=>Io (yT h j)
theorem Ip(l n p):2<=(mdR l n p).2.1.2.2.1/\(mdR l n p).2.1.2.2.1<=1024:=yT ⟨(by decide:(2:Int)<=2),(by decide:(2:Int)<=1024)⟩ _
def Firm(B:Nat)(w:World)(d:DV)(K:DK):Prop:= ∀u,OnlyS (fun k=>k<B) w u->RDisk u d K
theorem ODisk.firm{B w d K}(h:ODisk B w d K):Firm B w d K:=fun u a=>(h.low a (fun k b e=>by omega)).reads
def dt(K:DK):Prop:=(K.n<=4096/\K.m<=5000)/\(∀i,i<K.n->(K.S i).length=64)/\∀j,j<K.m->(K.D j).length=64
theorem dOk.low{K}(h:dOk K):dt K:=⟨h.1.2,h.2.1,fun j a=>(h.2.2 j a).2.2⟩
theorem px{w d K}(j:RDisk w d K)(h:dt K):Small d K:=by
 obtain⟨⟨b,c⟩,e,f⟩:=h;have k:∀i,i<K.n->d.sN i=64:=fun i a=>by have:=(j.safe.data i a).len_eq;rw[<-this];exact e i a
 have g:∀i,i<K.m->d.pN i=64:=fun i a=>by have:=(j.pend.data i a).len_eq;rw[<-this];exact f i a
 refine⟨uA,uA,fun i a=>by rw[k i a];omega,fun i a=>by rw[g i a];omega,?_⟩;show mk 1 d.pN (mk 0 d.sN 1 K.n) K.m<=_;rw[l5,l5,mh _ 64 _ k,mh _ 64 _ g];simp;omega
theorem mI{K}(h:dt K)(xs a):dt (cu K xs a):=by
 by_cases b:dOk K
 ·exact(pu b xs a).low
 ·unfold cu;rw[qI (fun e=>b e.1)];exact h
theorem Iq(d K a c xs f w)(h:RDisk w d K)(i:dt K)(j:ROp w a c xs):
 Calls prog 58 #[av d K,.slice a xs.length c,.int .i64 f] w fun e w'=> ∃g k,e= .returned (.tuple #[av g (cu K xs f),.int .i64 k])/\Below w.1.size w w'/\ODisk w.1.size w' g (cu K xs f):=by
 obtain⟨m,n,l⟩:=j.recs;refine(vP d K a xs.length c (opJ xs) m (opM xs) n (opB xs) f w h (px h i) l).mono ?_;rintro e w' ⟨g,rfl,b,o⟩;exact⟨g,_,rfl,b,o⟩
def flK(K:DK)(v:Int):DK:=⟨K.n,upd K.S (v%(K.n:Int)).toNat ((K.S (v%(K.n:Int)).toNat).set (v%64).toNat (bits .xor .u8 ((K.S (v%(K.n:Int)).toNat).getD (v%64).toNat 0) 1)),K.m,K.At,K.D⟩
def trK(K:DK)(z:Int):DK:=if z< (K.n:Int)then⟨z.toNat,K.S,K.m,K.At,K.D⟩else K
def dB(v:Int):List Int:=if v%6=0 then []else if v%6=1 then [1,97,0]else if v%6=2 then [1,97,0,1,97,0]else if v%6=3 then [2,0,0,0]else if v%6=4 then [3,0,0,0,1,98,4,0,0,0]else [0,0,0,0,2,0,0,0]
def sO(v:Int):List OpK:=(pwO 2 3 [3,0,0,0,1,99,4,0,0,0]++pwO 3 2 [1,97+v%4,0])++pwO 4 2 [1,98+v/4%4,1,120]
noncomputable def fJ(K:DK)(G R U F v j:Int)(q:Nat):MdS:=
 if j=0 then(flK K v,(G,R,U,F),q)
 else if j=1 then(K,(G,v%(U+1),U,F),q)
 else if j=2 then(K,(G,R,U,v%(U+1)),q)
 else if j=3 then(K,(G,R,U+(v%3-1),F),q)
 else if j=4 then(K,(if v%3=0 then 0 else if v%3=1 then 1000000000000 else 1000000000001,R,U,F),q)
 else if j=5 then(cu K (pwO (2+v/6%3) (2+v/18%3) (dB v)) 4,(G,R,U,F),q)
 else if j=6 then(cu K (sO v) 12,(1,2,5,0),q)
 else(trK K (4*(U-1)+v%6),(G,R,U,F),q)
noncomputable def mJ(l:List Int)(n:Nat)(k:Int)(M:MdS):MdS:=if k%4=3 then fJ M.1 M.2.1.1 M.2.1.2.1 M.2.1.2.2.1 M.2.1.2.2.2 (l.getD M.2.2 0) (k/4%8) (rdP n M.2.2)else M
noncomputable def lE(l:List Int)(n p:Nat):MdS:=mJ l n (l.getD p 0) (mdR l n (rdP n p))
theorem Ir{K}(h:dt K)(v):dt (flK K v):=by
 refine⟨h.1,fun i a=> ?_,h.2.2⟩;show(upd K.S (v%(K.n:Int)).toNat ((K.S (v%(K.n:Int)).toNat).set (v%64).toNat (bits .xor .u8 ((K.S (v%(K.n:Int)).toNat).getD (v%64).toNat 0) 1)) i).length=64;by_cases e:i=(v%(K.n:Int)).toNat
 ·subst e;rw[be,BD];exact h.2.1 _ a
 ·rw[bw _ _ _ e];exact h.2.1 i a
theorem Is{K}(h:dt K)(b):dt (trK K b):=by
 unfold trK;split
 ·exact⟨⟨by have:=h.1.1;show b.toNat<=_;omega,h.1.2⟩,fun i a=>h.2.1 i (wQ a (by show b.toNat<=_;omega)),h.2.2⟩
 ·exact h
theorem It{K}(h:dt K)(G R U a v j q):dt (fJ K G R U a v j q).1:=by
 unfold fJ;split
 ·exact Ir h v
 split
 ·exact h
 split
 ·exact h
 split
 ·exact h
 split
 ·exact h
 split
 ·exact mI h _ _
 split
 ·exact mI h _ _
 ·exact Is h _
theorem Iu(l n p):dt (lE l n p).1:=by
 unfold lE mJ;split
 ·exact It (sL _ _ _).low _ _ _ _ _ _ _
 ·exact(sL _ _ _).low
theorem OnlyB.gB{g w w'}(h:OnlyB g w w'):w.grownBy w' (some g):=⟨h.os,h.tape,h.output,h.size,fun k a b=>h.block k a (fun e=>b (by rw[e]))⟩
def HasOx(xs:List OpK)(B:Nat)(wx:World)(oa:Option Addr)(on oc:Nat):Prop:=on=xs.length/\OOp B wx oa oc xs
theorem HasOx.below{xs B a d b on c}(h:HasOx xs B a b on c)(e:Below a.1.size a d):HasOx xs B d b on c:=⟨h.1,h.2.below e⟩
theorem HasOx.mono{xs B B' c a on b}(h:HasOx xs B c a on b)(d:B'<=B):HasOx xs B' c a on b:=⟨h.1,h.2.mono d⟩
theorem HasOx.kept{xs B g a e c on d cs}(h:HasOx xs B a c on d)(b:OnlyB g a e)(hx:a.heap[g]?=some (.cells cs 149 (0,0))):HasOx xs B e c on d:=
 ⟨h.1,h.2.keep (cx b hx uB) (cx b hx uB)⟩
theorem Iv(a w)(f:1<=a)(g:a<=4096)(K)(c:K=bV a.toNat):
 Calls prog 90 #[.int .i64 a] w fun e w'=> ∃d,e= .returned (.tuple #[av d K,.bool true])/\Below w.1.size w w'/\ODisk w.1.size w' d K/\dOk K:=by
 obtain⟨n,rfl⟩:=x2 (show 0<=a by omega);subst c;refine(uM n w uA uA).mono ?_;rintro e w' ⟨d,rfl,b,o⟩;exact⟨d,rfl,b,o,sJ uA uA⟩
theorem Iw(G R U d w):
 Calls prog 92 #[.agg #[.int .i64 G,.int .i64 R,.int .i64 U,.int .i64 d]] w fun e w'=> ∃a on c,e= .returned (.tuple #[.slice a on c,.bool (bG G R U d)])/\Below w.1.size w w'/\HasOx (suO (G,R,U,d)) w.1.size w' a on c:=by
 refine(pS G R U d w).mono ?_;rintro e w' ⟨f,g,rfl,b,o⟩;exact⟨_,_,_,rfl,b,by unfold suO;rw[gV],o.rop⟩
theorem yU(id d a n c l w)(h:Bs w a n c l)(p:n<=1048576)(m:l.length=n):
 Calls prog 93 #[.int .i64 id,.int .i64 d,.slice a n c] w fun e w'=> ∃g on i,e= .returned (.tuple #[.slice g on i,.bool (bL id d n)])/\Below w.1.size w w'/\HasOx (pwO id d l) w.1.size w' g on i:=by
 subst m;unfold pwO;cases f:bL id d l.length with
 |true=>
  refine(pK id d a _ c l w h f).mono ?_;rintro e w' ⟨j,k,rfl,b,o⟩;exact⟨_,_,_,rfl,b,by rw[gV];rfl,o.rop⟩
 |false=>
  refine(tH id d a _ c w p f (page id d l)).mono ?_;rintro e w' ⟨j,k,rfl,b,o⟩;exact⟨_,_,_,rfl,b,by rw[gV];rfl,o.rop⟩
theorem sQ(d K B g on i xs c w)(h:RDisk w d K)(f:dOk K)(l:HasOx xs B w g on i)(K')(j:K'=cu K xs c):
 Calls prog 58 #[.agg #[.slice d.sa K.n d.sc,.slice d.pa K.m d.pc],.slice g on i,.int .i64 c] w fun e w'=> ∃a t,e= .returned (.tuple #[.agg #[.slice a.sa K'.n a.sc,.slice a.pa K'.m a.pc],.int .i64 t])/\Below w.1.size w w'/\ODisk w.1.size w' a K'/\dOk K':=by
 subst j;obtain⟨rfl,o⟩:=l;refine(mH d K g i xs c w h f o.reads).mono ?_;rintro e w' ⟨a,k,rfl,b,m⟩;exact⟨a,k,rfl,b,m,pu f _ _⟩
theorem Ix(w:World)(B)(b:B<=w.1.size):HasOx [opS] B (w.alloc (.cells #[.int .i64 2,.int .i64 0,.slice none 0 0] 157)) (some ⟨w.1.size,0,none⟩) 1 1:=
 ⟨rfl,fun _=>(none,0),lL (f:=opF [opS] fun _=>(none,0)) (n:=1) (aq w 157 #[.int .i64 2,.int .i64 0,.slice none 0 0]) (jb _ _ _) b uA,fun i c=>by
  have a:i=0:=by simp at c;omega
  subst a;exact⟨jO _ _,eX⟩⟩
def dsO(k16:Int)(s:SupK):List OpK×Bool:=if k16=15 then(pwO ((s.1.tmod 2+3).tmod 2) 1 (sbT s.1 s.2.1 s.2.2.1 s.2.2.2),bL ((s.1.tmod 2+3).tmod 2) 1 20)else(suO s,bG s.1 s.2.1 s.2.2.1 s.2.2.2)
noncomputable def dsP(l:List Int)(n:Nat)(K:DK)(X:List OpK×Bool)(q:Nat):DK×Nat:=if X.2=true then(cu K X.1 (4-(l.getD q 0).tdiv 200),rdP n q)else(K,q)
noncomputable def sW(l:List Int)(n:Nat)(k16:Int)(s:DK×Nat):DK×Nat:=dsP l n s.1 (dsO k16 (suD l n s.2).1) (suD l n s.2).2
noncomputable def dsI(l:List Int)(n:Nat)(k16:Int)(s0:DK×Nat):Nat->DK×Nat
 |0=>s0
 |j+1=>sW l n k16 (dsI l n k16 s0 j)
noncomputable def dsX(K:DK)(k2:Int)(X:List OpK×Bool):DK:=if X.2=true/\k2=1 then cu K X.1 4 else K
noncomputable def dsE(l:List Int)(n:Nat)(k2 k4:Int)(s:DK×Nat):DK:=
 if 0<k4 then cu (dsX s.1 k2 (pwO ((l.getD s.2 0).tmod 4) (1+(l.getD (rdP n s.2) 0).tmod 4) (iz l n (rdP n (rdP n s.2))),bL ((l.getD s.2 0).tmod 4) (1+(l.getD (rdP n s.2) 0).tmod 4) (iz l n (rdP n (rdP n s.2))).length)) [opS] 1
 else dsX s.1 k2 (pwO ((l.getD s.2 0).tmod 4) (1+(l.getD (rdP n s.2) 0).tmod 4) (iz l n (rdP n (rdP n s.2))),bL ((l.getD s.2 0).tmod 4) (1+(l.getD (rdP n s.2) 0).tmod 4) (iz l n (rdP n (rdP n s.2))).length)
noncomputable def dsR(l:List Int)(n:Nat)(k:Int)(p1:Nat):DK:=dsE l n (k.tmod 2) (k.tmod 4) (dsI l n (k.tmod 16) (bV (4*(3+k.tmod 5)+(k.tdiv 64).tmod 4).toNat,p1) (1+(k.tdiv 8).tmod 4).toNat)
structure LSt(w:World)(g gb:Nat)(a:Option Addr)(n c p:Nat)(d:DV)(K:DK)(wx:World):Prop where
 only:OnlyB g w wx
 box:wx.heap[g]?=some (.cells #[.slice a n c,.int .i64 (p:Nat)] 149 (0,0))
 at_:p<=n
 res:wx.heap[w.1.size]?=some (.cells #[.slice none 0 0,.slice none 0 0] 35 (0,0))
 dk:IsBox wx gb d K
 gt:w.1.size<gb
 own:ODisk (w.1.size+1) wx d K
 ok:dOk K
theorem LSt.below{w g f a n c p d K e i}(h:LSt w g f a n c p d K e)(k:g<w.1.size)(b:Below e.1.size e i):LSt w g f a n c p d K i:=by
 have l:=h.dk.lt;have j:=h.gt;exact⟨h.only.thenB2 b h.only.size,(b.block g uA).trans h.box,h.at_,(b.block _ uA).trans h.res,h.dk.below b,j,h.own.below b,h.ok⟩
theorem LSt.rd{w g e a n c p i l d K b}(h:LSt w g e a n c p d K b)(f:IsRd w g a n c l i):IsRd b g a n c l p:=f.only h.only h.box h.at_
theorem LSt.next{w g i a n c p m l d K o f}(h:LSt w g i a n c p d K o)(s:g<w.1.size)(b:OnlyB g o f)(j:IsRd f g a n c l m):LSt w g i a n c m d K f:=by
 have r:=h.dk.lt;have q:=h.gt;exact⟨h.only.trans b,j.box,j.at_,(b.block _ uA uA).trans h.res,(b.block _ r uA).trans h.dk,q,h.own.keptR b.gB (fun k e=>by cases e;omega),h.ok⟩
theorem LSt.put{w g f a n c p B d b K K' i}(h:LSt w g f a n c p d K i)(t:g<w.1.size)(o:ODisk B i b K')(l:f<B)(m:dOk K'):LSt w g f a n c p b K' ((i.setCell ⟨f,0,none⟩ (.slice b.sa K'.n b.sc)).setCell ⟨f,1,none⟩ (.slice b.pa K'.m b.pc)):=by
 have j:=h.gt;have q:=((B2 f i).setCell (p:=⟨f,0,none⟩) t6 (.slice b.sa K'.n b.sc)).setCell (p:=⟨f,1,none⟩) t6 (.slice b.pa K'.m b.pc);have r:=heap_setCell_same i f 0 _ _ (.slice b.sa K'.n b.sc) h.dk;have s:=heap_setCell_same _ f 1 _ _ (.slice b.pa K'.m b.pc) r;refine⟨h.only.thenB2 q uA,(q.block g uA).trans h.box,h.at_,(q.block _ j).trans h.res,s,j,?_,m⟩;exact(o.keptR (mi (mi (qF i (some f)) 0 _) 1 _) (fun k e=>by cases e;exact l)).mono uA
theorem LSt.fin{w b g f a n c p i l d K}(S:LSt w g f a n c p d K b)(h:IsRd w g a n c l i)(j:g<w.1.size):
 OnlyB g w ((b.setCell ⟨w.1.size,0,none⟩ (.slice d.sa K.n d.sc)).setCell ⟨w.1.size,1,none⟩ (.slice d.pa K.m d.pc))/\Firm w.1.size ((b.setCell ⟨w.1.size,0,none⟩ (.slice d.sa K.n d.sc)).setCell ⟨w.1.size,1,none⟩ (.slice d.pa K.m d.pc)) d K:=by
 have q:=((B2 w.1.size b).setCell (p:=⟨w.1.size,0,none⟩) t6 (.slice d.sa K.n d.sc)).setCell (p:=⟨w.1.size,1,none⟩) t6 (.slice d.pa K.m d.pc);exact⟨S.only.thenB2 q t6,(S.own.keptR (mi (mi (qF b (some w.1.size)) 0 _) 1 _) (fun k e=>by cases e;omega)).mono (x0 _)|>.firm⟩
theorem Iy(G:Int): -1<=G.tmod 2/\G.tmod 2<=1:=by
 rcases Int.le_total 0 G with h|h
 ·rw[A3 h];omega
 ·obtain⟨y,rfl⟩:∃y,G= -y:=⟨-G,uA⟩;rw[Int.neg_tmod,A3 uA];omega
theorem Iz(g a n c l p w)(h:IsRd w g a n c l p)(b3)(cX:b3=dsR l n (l.getD p 0) (rdP n p)):
 Calls prog 54 #[.pointer (some ⟨g,0,none⟩)] w fun e w'=> ∃d,e= .returned (av d b3)/\OnlyB g w w'/\Firm w.1.size w' d b3/\dOk b3:=by
 unfold dsR at cX;have a5:Hid _:=cX;clear cX;have b4:Hid (∀i,0<=l.getD i 0/\l.getD i 0<256):=h.bs.byte;have u:=h.lt;have c3:=bAl w (.cells #[.slice none 0 0,.slice none 0 0] 35);have eB:=D6 w (.cells #[.slice none 0 0,.slice none 0 0] 35);have en:=h.below c3;have ac:Hid _:=h;have ea:=Below.onlyB c3 g;have fa:(w.alloc (.cells #[.slice none 0 0,.slice none 0 0] 35)).1.size=w.1.size+1:=by simp
 clear h c3;go_enter func54,ntmps54;go_wp2_with fail;generalize d4:w.alloc (.cells #[.slice none 0 0,.slice none 0 0] 35)=dc at*;clear d4;refine(cZ g a n c l p dc en).mono ?_;rintro e w1 ⟨rfl,b9,c5⟩;have eC:=(b9.block w.1.size uA uA).trans eB;have fc:=b9.size;have u1:=ea.trans b9;obtain⟨k0,f4⟩:=b4.out p;generalize l.getD p 0=k at*;clear ea b9 eB en;generalize rdP n p=ej at*;obtain⟨b5,bP⟩:=cO (k.tmod 5);obtain⟨b0,aT⟩:=cO (k.tdiv 64);have dr:0<=b5/\b5<=4:=by rw[A3 k0]at bP;omega
 have bv:0<=b0/\b0<=3:=by rw[z2 k0]at aT;omega
 obtain⟨ae,bR⟩:=cO (b0.tmod 4);have dE:0<=ae/\ae<=3:=by rw[A3 bv.1]at bR;omega
 obtain⟨dp,dq⟩:=dr;obtain⟨ds,dD⟩:=dE;obtain⟨bs,bu⟩:=bv;go_wp2_with fail;rw[bP,aT,bR]at a5;obtain⟨K,z⟩:=aa (bV (4*(3+b5)+ae).toNat);rw[<-z]at a5;refine(Iv (4*(3+b5)+ae) w1 uA uA K z).mono ?_;rintro e a0 ⟨d,rfl,bn,cB,cA⟩;clear z;have M:=bAl a0 (.cells #[.slice d.sa K.n d.sc,.slice d.pa K.m d.pc] 35);have fd:=bn.size;have y:LSt w g a0.1.size a n c ej d K (a0.alloc (.cells #[.slice d.sa K.n d.sc,.slice d.pa K.m d.pc] 35)):=
  ⟨(u1.thenB2 bn u1.size).thenB2 M uA,(M.block g uA).trans ((bn.block g uA).trans c5.box),c5.at_,(M.block _ uA).trans ((bn.block _ uA).trans eC),nz a0 d K,uA,(cB.below M).mono uA,cA⟩
 have m:Hid _:=y;clear y M bn cB c5 eC u1;unfold av;go_upto_region 3 with fail
 generalize a0.alloc (.cells #[.slice d.sa K.n d.sc,.slice d.pa K.m d.pc] 35)=eL at*;generalize a0.1.size=A at*;clear bP aT bR dp dq ds dD bs bu fa fc fd cA dc w1 a0;obtain⟨c4,bW⟩:=cO (k.tdiv 8);have cj:0<=c4/\c4<=31:=by rw[z2 k0]at bW;omega
 obtain⟨ba,bX⟩:=cO (c4.tmod 4);have dV:0<=ba/\ba<=3:=by rw[A3 cj.1]at bX;omega
 obtain⟨dP,dS⟩:=dV;obtain⟨bs,bu⟩:=cj;obtain⟨r,bT⟩:=cO (k.tmod 16);rw[bW,bX,bT]at a5;obtain⟨Q,bY⟩:∃s:DK×Nat,s=(K,ej):=⟨_,rfl⟩;have bk:Hid (LSt w g A a n c Q.2 d Q.1 eL):=by rw[bY];exact m.out
 rw[<-bY]at a5;have cg:Hid _:=a5.out;clear m a5 bY;go_wp2_with fail;go_loopw [6] (fun i wr=> ∃(j:Nat)(d:DV),(j:Int)<=1+ba/\i= .int .i64 (j:Nat)/\LSt w g A a n c (dsI l n r Q j).2 d (dsI l n r Q j).1 wr) (fun i _=>(1+ba).toNat-(intOf i).toNat)
 case atStart=>exact⟨0,d,uA,rfl,bk.out⟩
 case round=>
  clear bk;obtain⟨j,d,f3,rfl,y⟩:=hrel;have a1:Hid (dsI l n r Q (j+1)=sW l n r (dsI l n r Q j)):=rfl;generalize cl:dsI l n r Q j=e8 at y a1;obtain⟨K,O⟩:=e8;obtain⟨ex,D⟩:=aa wr;subst D;have m:Hid _:=y;clear y;by_cases d8:(j:Int)<1+ba
  ·go_wp2_with fail;obtain⟨Z,c0⟩:=aa (suD l n O);have ce:Hid (dsI l n r Q (j+1)=dsP l n K (dsO r Z.1) Z.2):=by show _= _;rw[a1.out,sW,c0]
   refine(Id g a n c l O ex (m.out.rd ac.out) Z c0).mono ?_;clear c0 a1;obtain⟨⟨G,R,U,bf⟩,aX⟩:=Z;rintro e Y ⟨rfl,V,a8,a9⟩
   try simp only at V a8 a9
   obtain⟨ch,an⟩:=aa (dsO r (G,R,U,bf));have cR:Hid _:=an;have cf:Hid (dsI l n r Q (j+1)=dsP l n K ch aX):=by show _= _;rw[ce.out,an]
   clear ce an;have aA:=m.out.next u a8 a9;have ek:=bAl Y (.cells #[.int .i64 G,.int .i64 R,.int .i64 U,.int .i64 bf] 36);have bc:=D6 Y (.cells #[.int .i64 G,.int .i64 R,.int .i64 U,.int .i64 bf] 36);have L:=aA.below u ek;have eK:Y.1.size< (Y.alloc (.cells #[.int .i64 G,.int .i64 R,.int .i64 U,.int .i64 bf] 36)).1.size:=by simp
   clear m a8 a9 aA ek;have m:Hid _:=L;clear L;go_upto_region 7 with fail
   generalize Y.alloc (.cells #[.int .i64 G,.int .i64 R,.int .i64 U,.int .i64 bf] 36)=dd at*;generalize Y.1.size=ak at*;clear Y;have e0:=DC _ _ 0 _ _ _ bc;have d1:=DC _ _ 1 _ _ _ bc;have eW:=DC _ _ 2 _ _ _ bc;have e1:=DC _ _ 3 _ _ _ bc;go_wp2_with fail;refine(Iw G R U bf dd).mono ?_;rintro e bb ⟨W,on,X,rfl,ae,E⟩;have L:=m.out.below u ae;have c7:=(ae.block ak eK).trans bc;have cm:=E.mono m.out.only.size;have hoB:Hid (HasOx _ dd.1.size bb W on X):=E;have a4:=m.out.dk.lt;clear m e0 d1 eW e1 ae bc E;have m:Hid _:=L;have t:Hid (HasOx _ _ _ _ _ _):=cm;clear L cm;go_upto_if 43 with fail
   go_cut [8,9] (fun e6 e7 ab=> ∃W on X,e6= .slice W on X/\e7= .bool ch.2/\LSt w g A a n c aX d K ab/\HasOx ch.1 (A+1) ab W on X)
   case first=>
    by_cases a2:r=15
    ·have es:(r==15)=true:=by simp[a2]
     go_upto_region 9 with fail
     have a7:=bDr bb;have P:=m.out.below u a7;have bd:bb.drew.heap[ak]?=some (.cells #[.int .i64 G,.int .i64 R,.int .i64 U,.int .i64 bf] 36 (0,0)):=c7;clear m a7 c7;have m:Hid _:=P;clear P;refine az (fun v=>v.cell? ⟨ak,0,none⟩=some (.int .i64 G)/\v.cell? ⟨ak,1,none⟩=some (.int .i64 R)/\v.cell? ⟨ak,2,none⟩=some (.int .i64 U)/\v.cell? ⟨ak,3,none⟩=some (.int .i64 bf)) (fun k=>decide (13<=k)) vk ?_;generalize bb.drew=cS at*;have cs:=vJ (DC _ _ 0 _ _ _ bd) (vJ (DC _ _ 1 _ _ _ bd) (vJ (DC _ _ 2 _ _ _ bd) (DC _ _ 3 _ _ _ bd)));have fm:=(wy.1 bd).1;obtain⟨x,hx⟩:=cO (G.tmod 2);have d9:=Iy G;rw[hx]at d9;have fP:IntKind.i64.wrap (x+3)=x+3:=by simp[IntKind.wrap,IntKind.bits,IntKind.signed];omega
     obtain⟨id,d5⟩:=cO ((x+3).tmod 2);refine gO 0 cs ?_;refine gO 1 cs ?_;refine gO 2 cs ?_;refine gO 3 cs ?_;refine gO 4 cs ?_;refine gO 5 cs ?_;refine ah 6 fun T z=> ?_;go_wp2_with fail;refine(B7 G R U bf cS (by have:=V.1;omega) V.1.2 (by have:=V.2.1;omega) (by have:=V.2.1;omega) (by have:=V.2.2.1;omega) (by have:=V.2.2.1;omega) (by have:=V.2.2.2;omega) (by have:=V.2.2.2;omega)).mono ?_;rintro e b1 ⟨cV,cW,rfl,b6,N,ag⟩;have ap:=N.bs ag|>.len_eq;have da:Hid (ch=(pwO id 1 (sbT G R U bf),bL id 1 20)):=by show ch= _;rw[cR.out,dsO,B4 a2];simp only[hx,d5]
     have aB:=m.out.below u b6;have b2:=(b6.block ak fm).trans bd;have dW:=vJ (DC _ _ 0 _ _ _ b2) (vJ (DC _ _ 1 _ _ _ b2) (vJ (DC _ _ 2 _ _ _ b2) (DC _ _ 3 _ _ _ b2)));have dF:=N.bs ag;have f0:=b6.size;clear m b6 N;have m:Hid _:=aB;clear aB;go_wp2_with fail;refine z.out _ _ (fun _=>dW) ?_;clear z T;refine ah 7 fun T z=> ?_;go_wp2_with fail;refine(yU id 1 cV 20 cW (sbT G R U bf) b1 dF uA ap).mono ?_;rintro e c6 ⟨fV,a3,fZ,rfl,a6,H⟩;have C:=m.out.below u a6;have cb:=(a6.block ak uA).trans b2;have F:=vJ (DC _ _ 0 _ _ _ cb) (vJ (DC _ _ 1 _ _ _ cb) (vJ (DC _ _ 2 _ _ _ cb) (DC _ _ 3 _ _ _ cb)));have cn:=H.mono (show A+1<=b1.1.size by have:=m.out.dk.lt;omega);clear m a6 H;have m:=uv C cn;clear C cn;go_wp2_with fail;refine z.out _ _ (fun _=>F) ?_;clear z T;refine gO 8 F ?_;refine gO 9 F ?_;refine gO 11 F ?_;refine gO 10 F ?_;refine gO 12 F ?_;refine bi ?_;go_wp2_with fail
     go_meet
     rw[da.out];exact⟨_,_,_,rfl,rfl,m.out.1,m.out.2⟩
    ·have es:(r==15)=false:=by simp[a2]
     go_wp2_with fail
     go_meet
     rw[cR.out,dsO,CH a2];exact⟨_,_,_,rfl,rfl,m.out,hoB.out.mono uA⟩
   case rest=>
   clear m t hoB a4 c7 eK;obtain⟨W,on,X,rfl,rfl,y,E⟩:=hcut;clear cR;obtain⟨xs,q⟩:=ch
   try simp only at E
   obtain⟨dk,D⟩:=aa wc;subst D;have m:Hid _:=y;have t:Hid (HasOx _ _ _ _ _ _):=E;clear y E;cases q with
   |true=>
    go_upto_region 11 with fail
    have a7:=bDr dk;have P:=m.out.below u a7;have cp:=t.out.below a7;clear m t a7;refine l7 (fun v=>v.cell? ⟨A,0,none⟩=some (.slice d.sa K.n d.sc)/\v.cell? ⟨A,1,none⟩=some (.slice d.pa K.m d.pc)) 10 vk ?_;generalize dk.drew=cS at*;have cs:=vJ P.dk.c0 P.dk.c1;have m:Hid _:=P;have t:Hid (HasOx _ _ _ _ _ _):=cp;clear P cp;refine l8 0 (.agg #[.slice d.sa K.n d.sc,.slice d.pa K.m d.pc]) cs ?hypa0 ?_
    case hypa0=>(intro w d3;obtain⟨fB,fD⟩:=d3;go_simp;try with_reducible rfl)
    refine cK 1 ?_;refine cK 2 ?_;refine eO 3 fun T z=> ?_;go_wp2_with fail;refine(cZ g a n c l aX cS (m.out.rd ac.out)).mono ?_;rintro e c6 ⟨rfl,a3,cL⟩;obtain⟨cT,dl⟩:=b4.out aX;obtain⟨b,c1⟩:=aa (l.getD aX 0);rw[<-c1]at cT dl ⊢;have c8:Hid (b=l.getD aX 0):=c1;clear c1;have C:=m.out.next u a3 cL;have H:=t.out.kept a3 m.out.box;have F:=vJ C.dk.c0 C.dk.c1;clear m t a3 cL;have m:Hid _:=C;have t:Hid (HasOx _ _ _ _ _ _):=H;clear C H;obtain⟨M,cr⟩:=cO (b.tdiv 200);have ft:0<=M/\M<=1:=by rw[z2 cT]at cr;omega
    have fM:IntKind.i64.wrap (4-M)=4-M:=by simp[IntKind.wrap,IntKind.bits,IntKind.signed];omega
    go_wp2_with fail;refine z.out _ _ (fun _=>F) ?_;clear z T;refine cK 4 ?_;refine cK 5 ?_;refine eO 6 fun T z=> ?_;go_wp2_with fail;obtain⟨db,bB⟩:=aa (cu K xs (4-M));have c9:Hid (dsI l n r Q (j+1)=(db,rdP n aX)):=by show _= _;rw[cf.out,dsP,B4 (by first|rfl|trivial),bB,<-cr,c8.out]
    refine(sQ d K (A+1) W on X xs (4-M) c6 m.out.own.reads m.out.ok t.out db bB).mono ?_;rintro e ev ⟨dX,et,rfl,af,I,J⟩;clear bB;have a4:=m.out.dk.lt;have o:=m.out.below u af;have ad:Hid _:=o.put u I uA J;have S:=vJ o.dk.c0 o.dk.c1;have b7:=frozen_of_row _ _ 0 _ _ o.dk;have f1:=frozen_of_row _ _ 1 _ _ o.dk;clear m t af o I J;go_wp2_with fail;refine z.out _ _ (fun _=>S) ?_;clear z T;refine cK 7 ?_;refine cK 8 ?_;refine cK 9 ?_;obtain⟨bx,bz⟩:=S;refine eO 10 fun T z=> ?_;go_wp2_with fail;refine goR z ?_;clear z T;refine l9 ?_;go_wp2;go_roundw
    case rel=>exact⟨j+1,_,uA,by go_num,by rw[c9.out];exact ad.out⟩
    case measure=>simp[intOf];omega
   |false=>
    go_wp2;go_roundw
    case rel=>exact⟨j+1,_,uA,by go_num,by rw[cf.out,dsP,CH vo];exact m.out⟩
    case measure=>simp[intOf];omega
  ·have e2:=d8;have B:Hid (b3=dsE l n (k.tmod 2) (k.tmod 4) (K,O)):=by show b3= _;rw[cg.out,show(1+ba).toNat=j by omega,cl]
   unfold dsE at B;clear cg a1 cl;go_upto_region 12 with fail
   clear bW bX bT dP dS bs bu;go_wp2_with fail;refine(cZ g a n c l O ex (m.out.rd ac.out)).mono ?_;rintro e Y ⟨rfl,a8,a9⟩;obtain⟨cT,dl⟩:=b4.out O
   try simp only at B
   generalize l.getD O 0=b at*;have aA:=m.out.next u a8 a9;clear m a8 a9;have m:Hid _:=aA;clear aA;obtain⟨c2,hi4⟩:=cO (b.tmod 4);go_wp2_with fail;refine(cZ g a n c l _ Y (m.out.rd ac.out)).mono ?_;rintro e bb ⟨rfl,eb,cD⟩;obtain⟨b7,f1⟩:=b4.out (rdP n O);generalize l.getD (rdP n O) 0=f at*;have L:=m.out.next u eb cD;clear m eb cD;have m:Hid _:=L;clear L;obtain⟨bA,bS⟩:=cO (f.tmod 4);have dI:0<=bA/\bA<=3:=by rw[A3 b7]at bS;omega
   obtain⟨fo,fs⟩:=dI;go_wp2_with fail;have cc:=B9 ac.out.bs.byte n (rdP n (rdP n O));rw[hi4,bS]at B;obtain⟨br,aS⟩:=aa (iz l n (rdP n (rdP n O)));obtain⟨ca,cq⟩:=aa (uP l n (rdP n (rdP n O)));rw[<-aS]at B cc;refine(Ca g a n c l _ bb (m.out.rd ac.out) br ca aS cq).mono ?_;clear aS cq;rintro e b1 ⟨cV,cW,rfl,ef,eq,N⟩;obtain⟨ag,ck⟩:=cc;obtain⟨ch,an⟩:=aa (pwO c2 (1+bA) br,bL c2 (1+bA) br.length);rw[<-an]at B;have aB:=m.out.next u ef eq;clear m ef eq;have m:Hid _:=aB;clear aB;go_wp2_with fail;obtain⟨eR,ap⟩:=aa br.length;rw[<-ap]at an N ck ⊢;refine(yU c2 (1+bA) cV eR cW br b1 (N.bs ag) uA ap.symm).mono ?_;obtain⟨xs,q⟩:=ch;obtain⟨cv,cz⟩:=Prod.mk.inj an;rw[<-cv,<-cz];rintro e c6 ⟨W,on,X,rfl,a6,H⟩;clear an cv cz ap;have C:=m.out.below u a6;have E:=H.mono (show A+1<=b1.1.size from m.out.dk.lt);clear m a6 H N ag ck hi4 bS;have m:Hid _:=C;have t:Hid (HasOx _ _ _ _ _ _):=E;clear C E;obtain⟨b8,d6⟩:=cO (k.tmod 2);obtain⟨e3,d7⟩:=cO (k.tmod 4);rw[d6,d7]at B;go_upto_region 13 with fail
   go_cut [84] (fun e9 ab=>e9= .bool (q&&(b8==1))/\LSt w g A a n c ca d K ab/\HasOx xs (A+1) ab W on X)
   case first=>
    cases q with
    |true=>
     go_wp2_with fail
     go_meet
     exact⟨rfl,m.out,t.out⟩
    |false=>
     go_wp2_with fail
     go_meet
     exact⟨rfl,m.out,t.out⟩
   case rest=>
   clear m t;obtain⟨rfl,y,E⟩:=hcut;obtain⟨bl,bC⟩:=aa (dsX K b8 (xs,q));rw[<-bC]at B;have bE:bl=if(q&&(b8==1))=true then cu K xs 4 else K:=by rw[bC,dsX];simp
   have bg:Hid _:=bE;clear bC bE;generalize (q&&(b8==1))=em at*;obtain⟨eM,D⟩:=aa wc;subst D;have m:Hid _:=y;have t:Hid (HasOx _ _ _ _ _ _):=E;clear y E;go_upto_if 84 with fail
   go_cut [] (fun ab=> ∃d,LSt w g A a n c ca d bl ab)
   case first=>
    cases em with
    |true=>
     have eU:=m.out.dk.c0;have eV:=m.out.dk.c1;go_wp2_with fail;have am:bl=cu K xs 4:=by rw[bg.out,B4 (by first|rfl|trivial)]
     refine(sQ d K (A+1) W on X xs 4 eM m.out.own.reads m.out.ok t.out bl am).mono ?_;clear am;rintro e ev ⟨dX,et,rfl,af,I,J⟩;have a4:=m.out.dk.lt;have o:=m.out.below u af;have ad:Hid _:=o.put u I uA J;have S:=vJ o.dk.c0 o.dk.c1;have b7:=frozen_of_row _ _ 0 _ _ o.dk;have f1:=frozen_of_row _ _ 1 _ _ o.dk;clear m t af o I J;obtain⟨bx,bz⟩:=S;go_wp2_with fail
     go_meet
     exact⟨_,ad.out⟩
    |false=>
     go_wp2_with fail
     go_meet
     rw[bg.out,CH vo];exact⟨_,m.out⟩
   case rest=>
   clear m t;clear bg;clear d K;obtain⟨d,y⟩:=hcut;obtain⟨K,bZ⟩:=aa bl;subst bZ;obtain⟨bm,D⟩:=aa wc;subst D;have m:Hid _:=y;clear y;go_upto_if 93 with fail
   go_cut [] (fun ab=> ∃d,LSt w g A a n c ca d b3 ab)
   case first=>
    by_cases d2:0<e3
    ·go_upto_region 16 with fail
     have e5:=bAl bm (.cells #[.int .i64 2,.int .i64 0,.slice none 0 0] 157);have fn:=m.out.dk.lt;have so:=Ix bm (A+1) fn;have eU:=m.out.dk.c0;have eV:=m.out.dk.c1;have cM:=m.out.below u e5;clear m;have m:Hid _:=cM;have t:Hid (HasOx _ _ _ _ _ _):=so;clear cM so;have fl:(bm.alloc (.cells #[.int .i64 2,.int .i64 0,.slice none 0 0] 157)).1.size=bm.1.size+1:=by simp
     clear fl;go_wp2_with fail;generalize bm.alloc (.cells #[.int .i64 2,.int .i64 0,.slice none 0 0] 157)=eN at*;have am:b3=cu K [opS] 1:=by rw[B.out,B4 d2]
     refine(sQ d K (A+1) _ 1 1 [opS] 1 eN m.out.own.reads m.out.ok t.out b3 am).mono ?_;clear am;rintro e ev ⟨dX,et,rfl,af,I,J⟩;have a4:=m.out.dk.lt;have o:=m.out.below u af;have ad:Hid _:=o.put u I uA J;have S:=vJ o.dk.c0 o.dk.c1;have b7:=frozen_of_row _ _ 0 _ _ o.dk;have f1:=frozen_of_row _ _ 1 _ _ o.dk;clear m t af o I J;obtain⟨bx,bz⟩:=S;go_wp2_with fail
     go_meet
     exact⟨_,ad.out⟩
    ·have fz:=d2;go_wp2_with fail
     go_meet
     rw[B.out,CH uA];exact⟨_,m.out⟩
   case rest=>
   clear m;clear B;clear d K;obtain⟨d,y⟩:=hcut;obtain⟨K,bZ⟩:=aa b3;subst bZ;obtain⟨f2,D⟩:=aa wc;subst D;have bF:=y.res;have e0:=y.dk.c0;have d1:=y.dk.c1;have l0:=DC _ _ 0 _ _ _ bF;have e4:=DC _ _ 1 _ _ _ bF;have u0:=frozen_of_row _ _ 0 _ _ bF;have u1:=frozen_of_row _ _ 1 _ _ bF;have cP:Hid _:=y;clear y bF;go_wp2;refine B3 (v:= .agg #[.slice d.sa K.n d.sc,.slice d.pa K.m d.pc]) (by simp[results,results54,go_sem,l0,e4]) rfl ?_;exact⟨d,rfl,(cP.out.fin ac.out u).1,(cP.out.fin ac.out u).2,cP.out.ok⟩
theorem IA{K}(h:dt K)(c):dt (iC K c):=by
 by_cases a:dOk K
 ·rw[vQ a];exact(Dk c a).low
 ·rw[vS a];exact h
noncomputable def py(l:List Int)(n:Nat)(k:Int)(K:DK)(ops:List OpK)(q:Nat):DK:=
 if k%16=15 then iC (cu K ops (l.getD q 0)) (ki l n (rdP n q))else cu K ops (l.getD q 0)
noncomputable def lF(l:List Int)(n:Nat)(k:Int)(M:MdS):DK:=
 if k%8=7 then py l n k M.1 (upR M.1 M.2.1.1 M.2.1.2.1 M.2.1.2.2.1 M.2.1.2.2.2 (fG l n 9 M.2.2).1).1 (fG l n 9 M.2.2).2 else M.1
noncomputable def sY(l:List Int)(n p:Nat):DK:=if 248<=l.getD p 0 then dsR l n (l.getD (rdP n p) 0) (rdP n (rdP n p))else lF l n (l.getD p 0) (lE l n (rdP n p))
