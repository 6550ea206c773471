import Derived.Test.YtglbanolhhjjiaaGreatDoorFo47
import Derived.Test.YtglbanolhhjjiaaGreatDoorFo18
import Derived.Test.YtglbanolhhjjiaaGreatDoorFo46
import Derived.Test.YtglbanolhhjjiaaGreatDoorFo19
namespace Go.Proofs.YtglbanolhhjjiaaGreatDoor
open Go.Proofs.Tryz
open Go.RowKit
set_option linter.unusedVariables false
set_option maxRecDepth 100000
set_option maxHeartbeats 32000000
noncomputable def cu(K:DK)(xs:List OpK)(most:Int):DK:=ppK K (opJ xs) (opM xs) (opB xs) xs.length most
theorem pu{K}(c:dOk K)(xs a):dOk (cu K xs a):=by
 unfold cu;by_cases b:xs.length<=5000
 ·rw[vh c b];exact mj _ _ c _
 ·rw[qI (fun e=>b e.2)];exact c
theorem mH(d K a c xs f w)(l:RDisk w d K)(h:dOk K)(i:ROp w a c xs):
 Calls prog 58 #[av d K,.slice a xs.length c,.int .i64 f] w fun e w'=> ∃g k,e= .returned (.tuple #[av g (cu K xs f),.int .i64 k])/\Below w.1.size w w'/\ODisk w.1.size w' g (cu K xs f):=by
 obtain⟨m,n,j⟩:=i.recs;refine(vP d K a xs.length c (opJ xs) m (opM xs) n (opB xs) f w l (qE l h) j).mono ?_;rintro e w' ⟨g,rfl,b,o⟩;exact⟨g,_,rfl,b,o⟩
theorem pv{Z}{B e s n:Nat}{w w' v xs}(c:w.ownsRow B e s v n xs)(a:OnlyS Z w w')(b:∀k,B<=k->¬Z k):w'.ownsRow B e s v n xs:=by
 refine⟨c.1,?_⟩;rcases c.2 with h2|⟨g,cap,cur,hv,hg,hh,r⟩
 ·exact u5 h2
 ·exact u4 ⟨g,cap,cur,hv,hg,by rw[a.block g (vR.1 hh).1 (b g hg)];exact hh,r⟩
theorem ODisk.low{Z B w w' d K}(a:ODisk B w d K)(b:OnlyS Z w w')(c:∀k,B<=k->¬Z k):ODisk B w' d K:=
 ⟨⟨pv a.safe.row b c,fun i e=>pv (a.safe.data i e) b c,a.safe.byte,a.safe.sep1⟩,⟨pv a.pend.row b c,fun i e=>pv (a.pend.data i e) b c,a.pend.byte,a.pend.sep1⟩,a.sepX⟩
theorem sJ{n}(a:1<=n)(b:n<=4096):dOk (bV n):=⟨⟨a,b,u6 _⟩,fun i _=>AY,fun j c=>absurd c (w8 _)⟩
noncomputable def iZ(m:Nat):DK:=cu (bV (4*m)) (pwL 4 1 (ip 1 0 2 0)++[opS]) 5
abbrev MdS:=DK×SupK×Nat
noncomputable def fX(l:List Int)(n:Nat)(s:MdS):MdS:=
 if(upR s.1 s.2.1.1 s.2.1.2.1 s.2.1.2.2.1 s.2.1.2.2.2 (fG l n 40 s.2.2).1).2.2=0 then(cu s.1 (upR s.1 s.2.1.1 s.2.1.2.1 s.2.1.2.2.1 s.2.1.2.2.2 (fG l n 40 s.2.2).1).1 (upR s.1 s.2.1.1 s.2.1.2.1 s.2.1.2.2.1 s.2.1.2.2.2 (fG l n 40 s.2.2).1).1.length,(upR s.1 s.2.1.1 s.2.1.2.1 s.2.1.2.2.1 s.2.1.2.2.2 (fG l n 40 s.2.2).1).2.1,(fG l n 40 s.2.2).2)
 else(s.1,s.2.1,(fG l n 40 s.2.2).2)
noncomputable def mdI(l:List Int)(n:Nat):Nat->MdS->MdS
 |0,s=>s
 |j+1,s=>fX l n (mdI l n j s)
noncomputable def mdR(l:List Int)(n p:Nat):MdS:=mdI l n (1+(l.getD p 0/16%4).toNat) (iZ (8+(l.getD p 0%4).toNat*40),(1,0,2,0),rdP n p)
theorem Il{l n s}(a:dOk s.1):dOk (fX l n s).1:=by
 unfold fX;split
 ·exact pu a _ _
 ·exact a
theorem sK{l n s}(a:dOk s.1):∀j,dOk (mdI l n j s).1
 |0=>a
 |j+1=>Il (sK a j)
theorem yR{m}(a:1<=m)(b:m<=1024):dOk (iZ m):=pu (sJ t7 t7) _ _
theorem sL(l n p):dOk (mdR l n p).1:=sK (yR t7 (by have:(l.getD p 0%4).toNat<=3:=t7;omega)) _
theorem pw:∀(t:Tr)(a:Tk),a.2<=(plT t a).2.1.2
 | .leaf id es,a=>by
  have c:=lu a;rw[plT];split
  ·exact c.1
  ·exact z7 _
 | .node id ks,a=>by
  have b:=pw ks a;have c:=(lu (plT ks a).2.1).1;rw[plT];split
  ·exact Int.le_trans b c
  ·exact b
 | .nil,a=>by rw[plT];exact z7 _
 | .cons s t ks,a=>by
  have b:=pw t a;have d:=pw ks (plT t a).2.1;rw[plT];exact Int.le_trans b d
theorem Im(o a):a.2<=(plO o a).2.1.2:=by
 cases o with
 |none=>exact z7 _
 |some x=>exact pw _ _
theorem yS:∀(f:Nat)(a:Tk)(b ls:List Int),a.2<=(lsL f a b ls).1.2
 |0,a,b,ls=>z7 _
 |f+1,a,b,ls=>by
  rw[lsL];split
  ·exact Int.le_trans (lu a).1 (yS f _ _ _)
  ·exact z7 _
theorem In{K c a b fr cs}(d:(upR K c a b fr cs).2.2=0):2<=(upR K c a b fr cs).2.1.2.2.1/\(upR K c a b fr cs).2.1.2.2.1<=1024:=by
 unfold upR at d ⊢;by_cases e:whS K c a b fr=true/\c≠1000000000000
 ·rw[BC e]at d ⊢;obtain⟨m,l,_,f⟩:=yP e.1;have j:=(mW f.sup).1;by_cases g:gu cs=true
  ·rw[BC g]at d ⊢;by_cases h:(dn cs (upT K a,false)).2=true
   ·rw[BC h]at d ⊢;unfold wrR wrY at d ⊢;have n:=Im (dn cs (upT K a,false)).1 (((flT K fr).getD ([],[])).1,b);generalize plO (dn cs (upT K a,false)).1 (((flT K fr).getD ([],[])).1,b)=r at*;have o:=yS (idZ r (tpL K a) ((flT K fr).getD ([],[])).2).length r.2.1 (idZ r (tpL K a) ((flT K fr).getD ([],[])).2) [];generalize lsL (idZ r (tpL K a) ((flT K fr).getD ([],[])).2).length r.2.1 (idZ r (tpL K a) ((flT K fr).getD ([],[])).2) []=k at*;unfold wrZ at d ⊢;by_cases i:((nPg K:Nat):Int)<k.1.2
    ·rw[BC i]at d;exact absurd d uv
    ·rw[BX i];have p:=(gK f.ok).1.2.1;have q:nPg K<=1024:=by unfold nPg;omega
     show 2<=k.1.2/\k.1.2<=1024;omega
   ·rw[BX h];exact⟨j.2.2.1,j.2.2.2⟩
  ·rw[BX g]at d;exact absurd d (show¬(2:Int)=0 by decide)
 ·rw[BX e]at d;exact absurd d (show¬(1:Int)=0 by decide)
theorem Io{l n s}(b:2<=s.2.1.2.2.1/\s.2.1.2.2.1<=1024):2<=(fX l n s).2.1.2.2.1/\(fX l n s).2.1.2.2.1<=1024:=by
 unfold fX;split
 ·rename_i a;exact In a
 ·exact b
theorem yT{l n s}(a:2<=s.2.1.2.2.1/\s.2.1.2.2.1<=1024):∀j,2<=(mdI l n j s).2.1.2.2.1/\(mdI l n j s).2.1.2.2.1<=1024
 |0=>a
 |j+1=>Io (yT a j)
theorem Ip(l n p):2<=(mdR l n p).2.1.2.2.1/\(mdR l n p).2.1.2.2.1<=1024:=yT ⟨(by decide:(2:Int)<=2),(by decide:(2:Int)<=1024)⟩ _
def Firm(B:Nat)(w:World)(d:DV)(K:DK):Prop:= ∀u,OnlyS (fun k=>k<B) w u->RDisk u d K
theorem ODisk.firm{B w d K}(b:ODisk B w d K):Firm B w d K:=fun u a=>(b.low a (fun k c e=>by omega)).reads
def dt(K:DK):Prop:=(K.n<=4096/\K.m<=5000)/\(∀i,i<K.n->(K.S i).length=64)/\∀j,j<K.m->(K.D j).length=64
theorem dOk.low{K}(a:dOk K):dt K:=⟨a.1.2,a.2.1,fun j b=>(a.2.2 j b).2.2⟩
theorem px{w d K}(h:RDisk w d K)(k:dt K):Small d K:=by
 obtain⟨⟨b,c⟩,e,f⟩:=k;have j:∀i,i<K.n->d.sN i=64:=fun i a=>by have:=(h.safe.data i a).len_eq;rw[<-this];exact e i a
 have g:∀i,i<K.m->d.pN i=64:=fun i a=>by have:=(h.pend.data i a).len_eq;rw[<-this];exact f i a
 refine⟨t7,t7,fun i a=>by rw[j i a];omega,fun i a=>by rw[g i a];omega,?_⟩;show mk 1 d.pN (mk 0 d.sN 1 K.n) K.m<=_;rw[l5,l5,mh _ 64 _ j,mh _ 64 _ g];simp;omega
theorem mI{K}(c:dt K)(xs a):dt (cu K xs a):=by
 by_cases b:dOk K
 ·exact(pu b xs a).low
 ·unfold cu;rw[qI (fun e=>b e.1)];exact c
theorem Iq(d K a c xs f w)(l:RDisk w d K)(h:dt K)(i:ROp w a c xs):
 Calls prog 58 #[av d K,.slice a xs.length c,.int .i64 f] w fun e w'=> ∃g k,e= .returned (.tuple #[av g (cu K xs f),.int .i64 k])/\Below w.1.size w w'/\ODisk w.1.size w' g (cu K xs f):=by
 obtain⟨m,n,j⟩:=i.recs;refine(vP d K a xs.length c (opJ xs) m (opM xs) n (opB xs) f w l (px l h) j).mono ?_;rintro e w' ⟨g,rfl,b,o⟩;exact⟨g,_,rfl,b,o⟩
def flK(K:DK)(v:Int):DK:=⟨K.n,upd K.S (v%(K.n:Int)).toNat ((K.S (v%(K.n:Int)).toNat).set (v%64).toNat (bits .xor .u8 ((K.S (v%(K.n:Int)).toNat).getD (v%64).toNat 0) 1)),K.m,K.At,K.D⟩
def trK(K:DK)(z:Int):DK:=if z< (K.n:Int)then⟨z.toNat,K.S,K.m,K.At,K.D⟩else K
def dB(v:Int):List Int:=if v%6=0 then []else if v%6=1 then [1,97,0]else if v%6=2 then [1,97,0,1,97,0]else if v%6=3 then [2,0,0,0]else if v%6=4 then [3,0,0,0,1,98,4,0,0,0]else [0,0,0,0,2,0,0,0]
def sO(v:Int):List OpK:=(pwO 2 3 [3,0,0,0,1,99,4,0,0,0]++pwO 3 2 [1,97+v%4,0])++pwO 4 2 [1,98+v/4%4,1,120]
noncomputable def fJ(K:DK)(G R U F v j:Int)(q:Nat):MdS:=
 if j=0 then(flK K v,(G,R,U,F),q)
 else if j=1 then(K,(G,v%(U+1),U,F),q)
 else if j=2 then(K,(G,R,U,v%(U+1)),q)
 else if j=3 then(K,(G,R,U+(v%3-1),F),q)
 else if j=4 then(K,(if v%3=0 then 0 else if v%3=1 then 1000000000000 else 1000000000001,R,U,F),q)
 else if j=5 then(cu K (pwO (2+v/6%3) (2+v/18%3) (dB v)) 4,(G,R,U,F),q)
 else if j=6 then(cu K (sO v) 12,(1,2,5,0),q)
 else(trK K (4*(U-1)+v%6),(G,R,U,F),q)
noncomputable def mJ(l:List Int)(n:Nat)(k:Int)(M:MdS):MdS:=if k%4=3 then fJ M.1 M.2.1.1 M.2.1.2.1 M.2.1.2.2.1 M.2.1.2.2.2 (l.getD M.2.2 0) (k/4%8) (rdP n M.2.2)else M
noncomputable def lE(l:List Int)(n p:Nat):MdS:=mJ l n (l.getD p 0) (mdR l n (rdP n p))
theorem Ir{K}(b:dt K)(v):dt (flK K v):=by
 refine⟨b.1,fun i a=> ?_,b.2.2⟩;show(upd K.S (v%(K.n:Int)).toNat ((K.S (v%(K.n:Int)).toNat).set (v%64).toNat (bits .xor .u8 ((K.S (v%(K.n:Int)).toNat).getD (v%64).toNat 0) 1)) i).length=64;by_cases e:i=(v%(K.n:Int)).toNat
 ·subst e;rw[be,A1];exact b.2.1 _ a
 ·rw[bw _ _ _ e];exact b.2.1 i a
theorem Is{K}(a:dt K)(c):dt (trK K c):=by
 unfold trK;split
 ·exact⟨⟨by have:=a.1.1;show c.toNat<=_;omega,a.1.2⟩,fun i b=>a.2.1 i (ws b (by show c.toNat<=_;omega)),a.2.2⟩
 ·exact a
theorem It{K}(a:dt K)(G R U b v j q):dt (fJ K G R U b v j q).1:=by
 unfold fJ;split
 ·exact Ir a v
 split
 ·exact a
 split
 ·exact a
 split
 ·exact a
 split
 ·exact a
 split
 ·exact mI a _ _
 split
 ·exact mI a _ _
 ·exact Is a _
theorem Iu(l n p):dt (lE l n p).1:=by
 unfold lE mJ;split
 ·exact It (sL _ _ _).low _ _ _ _ _ _ _
 ·exact(sL _ _ _).low
theorem OnlyB.gB{g w w'}(a:OnlyB g w w'):w.grownBy w' (some g):=⟨a.os,a.tape,a.output,a.size,fun k b c=>a.block k b (fun e=>c (by rw[e]))⟩
def HasOx(xs:List OpK)(B:Nat)(wx:World)(oa:Option Addr)(on oc:Nat):Prop:=on=xs.length/\OOp B wx oa oc xs
theorem HasOx.below{xs B a d b on c}(f:HasOx xs B a b on c)(e:Below a.1.size a d):HasOx xs B d b on c:=⟨f.1,f.2.below e⟩
theorem HasOx.mono{xs B B' c a on b}(e:HasOx xs B c a on b)(d:B'<=B):HasOx xs B' c a on b:=⟨e.1,e.2.mono d⟩
theorem HasOx.kept{xs B g a e c on d cs}(f:HasOx xs B a c on d)(b:OnlyB g a e)(hx:a.heap[g]?=some (.cells cs 149 (0,0))):HasOx xs B e c on d:=
 ⟨f.1,f.2.keep (cx b hx uv) (cx b hx uv)⟩
theorem Iv(a w)(f:1<=a)(g:a<=4096)(K)(c:K=bV a.toNat):
 Calls prog 90 #[.int .i64 a] w fun e w'=> ∃d,e= .returned (.tuple #[av d K,.bool true])/\Below w.1.size w w'/\ODisk w.1.size w' d K/\dOk K:=by
 obtain⟨n,rfl⟩:=xb (show 0<=a by omega);subst c;refine(uM n w t7 t7).mono ?_;rintro e w' ⟨d,rfl,b,o⟩;exact⟨d,rfl,b,o,sJ t7 t7⟩
theorem Iw(G R U d w):
 Calls prog 92 #[.agg #[.int .i64 G,.int .i64 R,.int .i64 U,.int .i64 d]] w fun e w'=> ∃a on c,e= .returned (.tuple #[.slice a on c,.bool (bG G R U d)])/\Below w.1.size w w'/\HasOx (suO (G,R,U,d)) w.1.size w' a on c:=by
 refine(pS G R U d w).mono ?_;rintro e w' ⟨f,g,rfl,b,o⟩;exact⟨_,_,_,rfl,b,by unfold suO;rw[gV],o.rop⟩
theorem yU(id d a n c l w)(p:Bs w a n c l)(m:n<=1048576)(k:l.length=n):
 Calls prog 93 #[.int .i64 id,.int .i64 d,.slice a n c] w fun e w'=> ∃g on h,e= .returned (.tuple #[.slice g on h,.bool (bL id d n)])/\Below w.1.size w w'/\HasOx (pwO id d l) w.1.size w' g on h:=by
 subst k;unfold pwO;cases f:bL id d l.length with
 |true=>
  refine(pK id d a _ c l w p f).mono ?_;rintro e w' ⟨i,j,rfl,b,o⟩;exact⟨_,_,_,rfl,b,by rw[gV];rfl,o.rop⟩
 |false=>
  refine(tH id d a _ c w m f (page id d l)).mono ?_;rintro e w' ⟨i,j,rfl,b,o⟩;exact⟨_,_,_,rfl,b,by rw[gV];rfl,o.rop⟩
theorem sQ(d K B g on h xs c w)(m:RDisk w d K)(f:dOk K)(j:HasOx xs B w g on h)(K')(i:K'=cu K xs c):
 Calls prog 58 #[.agg #[.slice d.sa K.n d.sc,.slice d.pa K.m d.pc],.slice g on h,.int .i64 c] w fun e w'=> ∃a t,e= .returned (.tuple #[.agg #[.slice a.sa K'.n a.sc,.slice a.pa K'.m a.pc],.int .i64 t])/\Below w.1.size w w'/\ODisk w.1.size w' a K'/\dOk K':=by
 subst i;obtain⟨rfl,o⟩:=j;refine(mH d K g h xs c w m f o.reads).mono ?_;rintro e w' ⟨a,k,rfl,b,l⟩;exact⟨a,k,rfl,b,l,pu f _ _⟩
theorem Ix(w:World)(B)(b:B<=w.1.size):HasOx [opS] B (w.alloc (.cells #[.int .i64 2,.int .i64 0,.slice none 0 0] 157)) (some ⟨w.1.size,0,none⟩) 1 1:=
 ⟨rfl,fun _=>(none,0),lL (f:=opF [opS] fun _=>(none,0)) (n:=1) (aq w 157 #[.int .i64 2,.int .i64 0,.slice none 0 0]) (jb _ _ _) b t7,fun i c=>by
  have a:i=0:=by simp at c;omega
  subst a;exact⟨jO _ _,eX⟩⟩
def dsO(k16:Int)(s:SupK):List OpK×Bool:=if k16=15 then(pwO ((s.1.tmod 2+3).tmod 2) 1 (sbT s.1 s.2.1 s.2.2.1 s.2.2.2),bL ((s.1.tmod 2+3).tmod 2) 1 20)else(suO s,bG s.1 s.2.1 s.2.2.1 s.2.2.2)
noncomputable def dsP(l:List Int)(n:Nat)(K:DK)(X:List OpK×Bool)(q:Nat):DK×Nat:=if X.2=true then(cu K X.1 (4-(l.getD q 0).tdiv 200),rdP n q)else(K,q)
noncomputable def sW(l:List Int)(n:Nat)(k16:Int)(s:DK×Nat):DK×Nat:=dsP l n s.1 (dsO k16 (suD l n s.2).1) (suD l n s.2).2
noncomputable def dsI(l:List Int)(n:Nat)(k16:Int)(s0:DK×Nat):Nat->DK×Nat
 |0=>s0
 |j+1=>sW l n k16 (dsI l n k16 s0 j)
noncomputable def dsX(K:DK)(k2:Int)(X:List OpK×Bool):DK:=if X.2=true/\k2=1 then cu K X.1 4 else K
noncomputable def dsE(l:List Int)(n:Nat)(k2 k4:Int)(s:DK×Nat):DK:=
 if 0<k4 then cu (dsX s.1 k2 (pwO ((l.getD s.2 0).tmod 4) (1+(l.getD (rdP n s.2) 0).tmod 4) (iz l n (rdP n (rdP n s.2))),bL ((l.getD s.2 0).tmod 4) (1+(l.getD (rdP n s.2) 0).tmod 4) (iz l n (rdP n (rdP n s.2))).length)) [opS] 1
 else dsX s.1 k2 (pwO ((l.getD s.2 0).tmod 4) (1+(l.getD (rdP n s.2) 0).tmod 4) (iz l n (rdP n (rdP n s.2))),bL ((l.getD s.2 0).tmod 4) (1+(l.getD (rdP n s.2) 0).tmod 4) (iz l n (rdP n (rdP n s.2))).length)
noncomputable def dsR(l:List Int)(n:Nat)(k:Int)(p1:Nat):DK:=dsE l n (k.tmod 2) (k.tmod 4) (dsI l n (k.tmod 16) (bV (4*(3+k.tmod 5)+(k.tdiv 64).tmod 4).toNat,p1) (1+(k.tdiv 8).tmod 4).toNat)
structure LSt(w:World)(g gb:Nat)(a:Option Addr)(n c p:Nat)(d:DV)(K:DK)(wx:World):Prop where
 only:OnlyB g w wx
 box:wx.heap[g]?=some (.cells #[.slice a n c,.int .i64 (p:Nat)] 149 (0,0))
 at_:p<=n
 res:wx.heap[w.1.size]?=some (.cells #[.slice none 0 0,.slice none 0 0] 35 (0,0))
 dk:IsBox wx gb d K
 gt:w.1.size<gb
 own:ODisk (w.1.size+1) wx d K
 ok:dOk K
theorem LSt.below{w g h a n c p d K f i}(e:LSt w g h a n c p d K f)(k:g<w.1.size)(b:Below f.1.size f i):LSt w g h a n c p d K i:=by
 have l:=e.dk.lt;have j:=e.gt;exact⟨e.only.thenB2 b e.only.size,(b.block g t7).trans e.box,e.at_,(b.block _ t7).trans e.res,e.dk.below b,j,e.own.below b,e.ok⟩
theorem LSt.rd{w g e a n c p i l d K b}(f:LSt w g e a n c p d K b)(h:IsRd w g a n c l i):IsRd b g a n c l p:=h.only f.only f.box f.at_
theorem LSt.next{w g i a n c p m l d K o h}(f:LSt w g i a n c p d K o)(s:g<w.1.size)(b:OnlyB g o h)(j:IsRd h g a n c l m):LSt w g i a n c m d K h:=by
 have r:=f.dk.lt;have q:=f.gt;exact⟨f.only.trans b,j.box,j.at_,(b.block _ t7 t7).trans f.res,(b.block _ r t7).trans f.dk,q,f.own.keptR b.gB (fun k e=>by cases e;omega),f.ok⟩
theorem LSt.put{w g f a n c p B d b K K' h}(i:LSt w g f a n c p d K h)(t:g<w.1.size)(o:ODisk B h b K')(l:f<B)(m:dOk K'):LSt w g f a n c p b K' ((h.setCell ⟨f,0,none⟩ (.slice b.sa K'.n b.sc)).setCell ⟨f,1,none⟩ (.slice b.pa K'.m b.pc)):=by
 have j:=i.gt;have q:=((Bn f h).setCell (p:=⟨f,0,none⟩) t1 (.slice b.sa K'.n b.sc)).setCell (p:=⟨f,1,none⟩) t1 (.slice b.pa K'.m b.pc);have r:=heap_setCell_same h f 0 _ _ (.slice b.sa K'.n b.sc) i.dk;have s:=heap_setCell_same _ f 1 _ _ (.slice b.pa K'.m b.pc) r;refine⟨i.only.thenB2 q t7,(q.block g t7).trans i.box,i.at_,(q.block _ j).trans i.res,s,j,?_,m⟩;exact(o.keptR (mi (mi (qF h (some f)) 0 _) 1 _) (fun k e=>by cases e;exact l)).mono t7
theorem LSt.fin{w b g f a n c p h l d K}(S:LSt w g f a n c p d K b)(j:IsRd w g a n c l h)(i:g<w.1.size):
 OnlyB g w ((b.setCell ⟨w.1.size,0,none⟩ (.slice d.sa K.n d.sc)).setCell ⟨w.1.size,1,none⟩ (.slice d.pa K.m d.pc))/\Firm w.1.size ((b.setCell ⟨w.1.size,0,none⟩ (.slice d.sa K.n d.sc)).setCell ⟨w.1.size,1,none⟩ (.slice d.pa K.m d.pc)) d K:=by
 have q:=((Bn w.1.size b).setCell (p:=⟨w.1.size,0,none⟩) t1 (.slice d.sa K.n d.sc)).setCell (p:=⟨w.1.size,1,none⟩) t1 (.slice d.pa K.m d.pc);exact⟨S.only.thenB2 q t1,(S.own.keptR (mi (mi (qF b (some w.1.size)) 0 _) 1 _) (fun k e=>by cases e;omega)).mono (xa _)|>.firm⟩
theorem Iy(G:Int): -1<=G.tmod 2/\G.tmod 2<=1:=by
 rcases Int.le_total 0 G with h|h
 ·rw[z6 h];omega
 ·obtain⟨y,rfl⟩:∃y,G= -y:=⟨-G,t7⟩;rw[Int.neg_tmod,z6 t7];omega
theorem Iz(g a n c l p w)(dX:IsRd w g a n c l p)(b2)(cW:b2=dsR l n (l.getD p 0) (rdP n p)):
 Calls prog 54 #[.pointer (some ⟨g,0,none⟩)] w fun e w'=> ∃d,e= .returned (av d b2)/\OnlyB g w w'/\Firm w.1.size w' d b2/\dOk b2:=by
 unfold dsR at cW;have a4:Hid _:=cW;clear cW;have b3:Hid (∀i,0<=l.getD i 0/\l.getD i 0<256):=dX.bs.byte;have t:=dX.lt;have c2:=bAl w (.cells #[.slice none 0 0,.slice none 0 0] 35);have ex:=DI w (.cells #[.slice none 0 0,.slice none 0 0] 35);have em:=dX.below c2;have ab:Hid _:=dX;have d9:=Below.onlyB c2 g;have e9:(w.alloc (.cells #[.slice none 0 0,.slice none 0 0] 35)).1.size=w.1.size+1:=by simp
 clear dX c2;go_enter func54,ntmps54;go_wp2_with fail;generalize d3:w.alloc (.cells #[.slice none 0 0,.slice none 0 0] 35)=db at*;clear d3;refine(cZ g a n c l p db em).mono ?_;rintro e w1 ⟨rfl,b8,c4⟩;have eB:=(b8.block w.1.size t7 t7).trans ex;have fa:=b8.size;have u1:=d9.trans b8;obtain⟨k0,f3⟩:=b3.out p;generalize l.getD p 0=k at*;clear d9 b8 ex em;generalize rdP n p=ef at*;obtain⟨b4,bF⟩:=cO (k.tmod 5);obtain⟨bZ,aS⟩:=cO (k.tdiv 64);have dq:0<=b4/\b4<=4:=by rw[z6 k0]at bF;omega
 have bu:0<=bZ/\bZ<=3:=by rw[y6 k0]at aS;omega
 obtain⟨ad,bP⟩:=cO (bZ.tmod 4);have dD:0<=ad/\ad<=3:=by rw[z6 bu.1]at bP;omega
 obtain⟨dl,dp⟩:=dq;obtain⟨dr,ds⟩:=dD;obtain⟨br,bs⟩:=bu;go_wp2_with fail;rw[bF,aS,bP]at a4;obtain⟨K,y⟩:=aa (bV (4*(3+b4)+ad).toNat);rw[<-y]at a4;refine(Iv (4*(3+b4)+ad) w1 t7 t7 K y).mono ?_;rintro e aX ⟨d,rfl,bm,cA,cz⟩;clear y;have L:=bAl aX (.cells #[.slice d.sa K.n d.sc,.slice d.pa K.m d.pc] 35);have fc:=bm.size;have u:LSt w g aX.1.size a n c ef d K (aX.alloc (.cells #[.slice d.sa K.n d.sc,.slice d.pa K.m d.pc] 35)):=
  ⟨(u1.thenB2 bm u1.size).thenB2 L t7,(L.block g t7).trans ((bm.block g t7).trans c4.box),c4.at_,(L.block _ t7).trans ((bm.block _ t7).trans eB),nz aX d K,t7,(cA.below L).mono t7,cz⟩
 have h:Hid _:=u;clear u L bm cA c4 eB u1;unfold av;go_upto_region 3 with fail
 generalize aX.alloc (.cells #[.slice d.sa K.n d.sc,.slice d.pa K.m d.pc] 35)=eK at*;generalize aX.1.size=z at*;clear bF aS bP dl dp dr ds br bs e9 fa fc cz db w1 aX;obtain⟨c3,bT⟩:=cO (k.tdiv 8);have ch:0<=c3/\c3<=31:=by rw[y6 k0]at bT;omega
 obtain⟨a9,bW⟩:=cO (c3.tmod 4);have dS:0<=a9/\a9<=3:=by rw[z6 ch.1]at bW;omega
 obtain⟨dI,dP⟩:=dS;obtain⟨br,bs⟩:=ch;obtain⟨o,bS⟩:=cO (k.tmod 16);rw[bT,bW,bS]at a4;obtain⟨P,bX⟩:∃s:DK×Nat,s=(K,ef):=⟨_,rfl⟩;have bg:Hid (LSt w g z a n c P.2 d P.1 eK):=by rw[bX];exact h.out
 rw[<-bX]at a4;have cf:Hid _:=a4.out;clear h a4 bX;go_wp2_with fail;go_loopw [6] (fun i wr=> ∃(j:Nat)(d:DV),(j:Int)<=1+a9/\i= .int .i64 (j:Nat)/\LSt w g z a n c (dsI l n o P j).2 d (dsI l n o P j).1 wr) (fun i _=>(1+a9).toNat-(intOf i).toNat)
 case atStart=>exact⟨0,d,t7,rfl,bg.out⟩
 case round=>
  clear bg;obtain⟨j,d,f2,rfl,u⟩:=hrel;have a0:Hid (dsI l n o P (j+1)=sW l n o (dsI l n o P j)):=rfl;generalize ck:dsI l n o P j=e7 at u a0;obtain⟨K,N⟩:=e7;obtain⟨ev,C⟩:=aa wr;subst C;have h:Hid _:=u;clear u;by_cases d7:(j:Int)<1+a9
  ·go_wp2_with fail;obtain⟨Z,cX⟩:=aa (suD l n N);have cc:Hid (dsI l n o P (j+1)=dsP l n K (dsO o Z.1) Z.2):=by show _= _;rw[a0.out,sW,cX]
   refine(Id g a n c l N ev (h.out.rd ab.out) Z cX).mono ?_;clear cX a0;obtain⟨⟨G,R,U,bd⟩,aT⟩:=Z;rintro e X ⟨rfl,T,a7,a8⟩
   try simp only at T a7 a8
   obtain⟨cg,am⟩:=aa (dsO o (G,R,U,bd));have cP:Hid _:=am;have ce:Hid (dsI l n o P (j+1)=dsP l n K cg aT):=by show _= _;rw[cc.out,am]
   clear cc am;have ap:=h.out.next t a7 a8;have ej:=bAl X (.cells #[.int .i64 G,.int .i64 R,.int .i64 U,.int .i64 bd] 36);have bb:=DI X (.cells #[.int .i64 G,.int .i64 R,.int .i64 U,.int .i64 bd] 36);have J:=ap.below t ej;have eC:X.1.size< (X.alloc (.cells #[.int .i64 G,.int .i64 R,.int .i64 U,.int .i64 bd] 36)).1.size:=by simp
   clear h a7 a8 ap ej;have h:Hid _:=J;clear J;go_upto_region 7 with fail
   generalize X.alloc (.cells #[.int .i64 G,.int .i64 R,.int .i64 U,.int .i64 bd] 36)=dc at*;generalize X.1.size=ag at*;clear X;have e0:=CV _ _ 0 _ _ _ bb;have dW:=CV _ _ 1 _ _ _ bb;have eV:=CV _ _ 2 _ _ _ bb;have eW:=CV _ _ 3 _ _ _ bb;go_wp2_with fail;refine(Iw G R U bd dc).mono ?_;rintro e ba ⟨V,on,W,rfl,ad,D⟩;have J:=h.out.below t ad;have c6:=(ad.block ag eC).trans bb;have cl:=D.mono h.out.only.size;have hoB:Hid (HasOx _ dc.1.size ba V on W):=D;have a3:=h.out.dk.lt;clear h e0 dW eV eW ad bb D;have h:Hid _:=J;have r:Hid (HasOx _ _ _ _ _ _):=cl;clear J cl;go_upto_if 43 with fail
   go_cut [8,9] (fun e5 e6 Y=> ∃V on W,e5= .slice V on W/\e6= .bool cg.2/\LSt w g z a n c aT d K Y/\HasOx cg.1 (z+1) Y V on W)
   case first=>
    by_cases a1:o=15
    ·have eq:(o==15)=true:=by simp[a1]
     go_upto_region 9 with fail
     have a6:=bDr ba;have O:=h.out.below t a6;have bc:ba.drew.heap[ag]?=some (.cells #[.int .i64 G,.int .i64 R,.int .i64 U,.int .i64 bd] 36 (0,0)):=c6;clear h a6 c6;have h:Hid _:=O;clear O;refine az (fun v=>v.cell? ⟨ag,0,none⟩=some (.int .i64 G)/\v.cell? ⟨ag,1,none⟩=some (.int .i64 R)/\v.cell? ⟨ag,2,none⟩=some (.int .i64 U)/\v.cell? ⟨ag,3,none⟩=some (.int .i64 bd)) (fun k=>decide (13<=k)) uA ?_;generalize ba.drew=cR at*;have cs:=u2 (CV _ _ 0 _ _ _ bc) (u2 (CV _ _ 1 _ _ _ bc) (u2 (CV _ _ 2 _ _ _ bc) (CV _ _ 3 _ _ _ bc)));have fl:=(vR.1 bc).1;obtain⟨x,hx⟩:=cO (G.tmod 2);have d8:=Iy G;rw[hx]at d8;have fM:IntKind.i64.wrap (x+3)=x+3:=by simp[IntKind.wrap,IntKind.bits,IntKind.signed];omega
     obtain⟨id,d4⟩:=cO ((x+3).tmod 2);refine gO 0 cs ?_;refine gO 1 cs ?_;refine gO 2 cs ?_;refine gO 3 cs ?_;refine gO 4 cs ?_;refine gO 5 cs ?_;refine ah 6 fun S y=> ?_;go_wp2_with fail;refine(B7 G R U bd cR (by have:=T.1;omega) T.1.2 (by have:=T.2.1;omega) (by have:=T.2.1;omega) (by have:=T.2.2.1;omega) (by have:=T.2.2.1;omega) (by have:=T.2.2.2;omega) (by have:=T.2.2.2;omega)).mono ?_;rintro e b0 ⟨cT,cV,rfl,b5,M,af⟩;have an:=M.bs af|>.len_eq;have c9:Hid (cg=(pwO id 1 (sbT G R U bd),bL id 1 20)):=by show cg= _;rw[cP.out,dsO,BC a1];simp only[hx,d4]
     have aA:=h.out.below t b5;have b1:=(b5.block ag fl).trans bc;have dU:=u2 (CV _ _ 0 _ _ _ b1) (u2 (CV _ _ 1 _ _ _ b1) (u2 (CV _ _ 2 _ _ _ b1) (CV _ _ 3 _ _ _ b1)));have dE:=M.bs af;have fZ:=b5.size;clear h b5 M;have h:Hid _:=aA;clear aA;go_wp2_with fail;refine y.out _ _ (fun _=>dU) ?_;clear y S;refine ah 7 fun S y=> ?_;go_wp2_with fail;refine(yU id 1 cT 20 cV (sbT G R U bd) b0 dE t7 an).mono ?_;rintro e c5 ⟨fP,a2,fV,rfl,a5,F⟩;have B:=h.out.below t a5;have ca:=(a5.block ag t7).trans b1;have E:=u2 (CV _ _ 0 _ _ _ ca) (u2 (CV _ _ 1 _ _ _ ca) (u2 (CV _ _ 2 _ _ _ ca) (CV _ _ 3 _ _ _ ca)));have cm:=F.mono (show z+1<=b0.1.size by have:=h.out.dk.lt;omega);clear h a5 F;have h:=t6 B cm;clear B cm;go_wp2_with fail;refine y.out _ _ (fun _=>E) ?_;clear y S;refine gO 8 E ?_;refine gO 9 E ?_;refine gO 11 E ?_;refine gO 10 E ?_;refine gO 12 E ?_;refine bi ?_;go_wp2_with fail
     go_meet
     rw[c9.out];exact⟨_,_,_,rfl,rfl,h.out.1,h.out.2⟩
    ·have eq:(o==15)=false:=by simp[a1]
     go_wp2_with fail
     go_meet
     rw[cP.out,dsO,BX a1];exact⟨_,_,_,rfl,rfl,h.out,hoB.out.mono t7⟩
   case rest=>
   clear h r hoB a3 c6 eC;obtain⟨V,on,W,rfl,rfl,u,D⟩:=hcut;clear cP;obtain⟨xs,q⟩:=cg
   try simp only at D
   obtain⟨dd,C⟩:=aa wc;subst C;have h:Hid _:=u;have r:Hid (HasOx _ _ _ _ _ _):=D;clear u D;cases q with
   |true=>
    go_upto_region 11 with fail
    have a6:=bDr dd;have O:=h.out.below t a6;have cn:=r.out.below a6;clear h r a6;refine l7 (fun v=>v.cell? ⟨z,0,none⟩=some (.slice d.sa K.n d.sc)/\v.cell? ⟨z,1,none⟩=some (.slice d.pa K.m d.pc)) 10 uA ?_;generalize dd.drew=cR at*;have cs:=u2 O.dk.c0 O.dk.c1;have h:Hid _:=O;have r:Hid (HasOx _ _ _ _ _ _):=cn;clear O cn;refine l8 0 (.agg #[.slice d.sa K.n d.sc,.slice d.pa K.m d.pc]) cs ?hypa0 ?_
    case hypa0=>(intro w d2;obtain⟨fz,fB⟩:=d2;go_simp;try with_reducible rfl)
    refine cK 1 ?_;refine cK 2 ?_;refine eO 3 fun S y=> ?_;go_wp2_with fail;refine(cZ g a n c l aT cR (h.out.rd ab.out)).mono ?_;rintro e c5 ⟨rfl,a2,cD⟩;obtain⟨cS,dk⟩:=b3.out aT;obtain⟨b,c0⟩:=aa (l.getD aT 0);rw[<-c0]at cS dk ⊢;have c7:Hid (b=l.getD aT 0):=c0;clear c0;have B:=h.out.next t a2 cD;have F:=r.out.kept a2 h.out.box;have E:=u2 B.dk.c0 B.dk.c1;clear h r a2 cD;have h:Hid _:=B;have r:Hid (HasOx _ _ _ _ _ _):=F;clear B F;obtain⟨L,cq⟩:=cO (b.tdiv 200);have fs:0<=L/\L<=1:=by rw[y6 cS]at cq;omega
    have fD:IntKind.i64.wrap (4-L)=4-L:=by simp[IntKind.wrap,IntKind.bits,IntKind.signed];omega
    go_wp2_with fail;refine y.out _ _ (fun _=>E) ?_;clear y S;refine cK 4 ?_;refine cK 5 ?_;refine eO 6 fun S y=> ?_;go_wp2_with fail;obtain⟨da,bA⟩:=aa (cu K xs (4-L));have c8:Hid (dsI l n o P (j+1)=(da,rdP n aT)):=by show _= _;rw[ce.out,dsP,BC (by first|rfl|trivial),bA,<-cq,c7.out]
    refine(sQ d K (z+1) V on W xs (4-L) c5 h.out.own.reads h.out.ok r.out da bA).mono ?_;rintro e et ⟨dV,es,rfl,ae,H,I⟩;clear bA;have a3:=h.out.dk.lt;have m:=h.out.below t ae;have ac:Hid _:=m.put t H t7 I;have Q:=u2 m.dk.c0 m.dk.c1;have b6:=frozen_of_row _ _ 0 _ _ m.dk;have f1:=frozen_of_row _ _ 1 _ _ m.dk;clear h r ae m H I;go_wp2_with fail;refine y.out _ _ (fun _=>Q) ?_;clear y S;refine cK 7 ?_;refine cK 8 ?_;refine cK 9 ?_;obtain⟨bv,bx⟩:=Q;refine eO 10 fun S y=> ?_;go_wp2_with fail;refine goR y ?_;clear y S;refine l9 ?_;go_wp2;go_roundw
    case rel=>exact⟨j+1,_,t7,by go_num,by rw[c8.out];exact ac.out⟩
    case measure=>simp[intOf];omega
   |false=>
    go_wp2;go_roundw
    case rel=>exact⟨j+1,_,t7,by go_num,by rw[ce.out,dsP,BX uB];exact h.out⟩
    case measure=>simp[intOf];omega
  ·have e1:=d7;have A:Hid (b2=dsE l n (k.tmod 2) (k.tmod 4) (K,N)):=by show b2= _;rw[cf.out,show(1+a9).toNat=j by omega,ck]
   unfold dsE at A;clear cf a0 ck;go_upto_region 12 with fail
   clear bT bW bS dI dP br bs;go_wp2_with fail;refine(cZ g a n c l N ev (h.out.rd ab.out)).mono ?_;rintro e X ⟨rfl,a7,a8⟩;obtain⟨cS,dk⟩:=b3.out N
   try simp only at A
   generalize l.getD N 0=b at*;have ap:=h.out.next t a7 a8;clear h a7 a8;have h:Hid _:=ap;clear ap;obtain⟨c1,hi4⟩:=cO (b.tmod 4);go_wp2_with fail;refine(cZ g a n c l _ X (h.out.rd ab.out)).mono ?_;rintro e ba ⟨rfl,ea,cB⟩;obtain⟨b6,f1⟩:=b3.out (rdP n N);generalize l.getD (rdP n N) 0=f at*;have J:=h.out.next t ea cB;clear h ea cB;have h:Hid _:=J;clear J;obtain⟨bz,bR⟩:=cO (f.tmod 4);have dF:0<=bz/\bz<=3:=by rw[z6 b6]at bR;omega
   obtain⟨fn,fo⟩:=dF;go_wp2_with fail;have cb:=B9 ab.out.bs.byte n (rdP n (rdP n N));rw[hi4,bR]at A;obtain⟨bn,aB⟩:=aa (iz l n (rdP n (rdP n N)));obtain⟨b9,cp⟩:=aa (uP l n (rdP n (rdP n N)));rw[<-aB]at A cb;refine(Ca g a n c l _ ba (h.out.rd ab.out) bn b9 aB cp).mono ?_;clear aB cp;rintro e b0 ⟨cT,cV,rfl,eb,en,M⟩;obtain⟨af,cj⟩:=cb;obtain⟨cg,am⟩:=aa (pwO c1 (1+bz) bn,bL c1 (1+bz) bn.length);rw[<-am]at A;have aA:=h.out.next t eb en;clear h eb en;have h:Hid _:=aA;clear aA;go_wp2_with fail;obtain⟨eN,an⟩:=aa bn.length;rw[<-an]at am M cj ⊢;refine(yU c1 (1+bz) cT eN cV bn b0 (M.bs af) t7 an.symm).mono ?_;obtain⟨xs,q⟩:=cg;obtain⟨cr,cv⟩:=Prod.mk.inj am;rw[<-cr,<-cv];rintro e c5 ⟨V,on,W,rfl,a5,F⟩;clear am cr cv an;have B:=h.out.below t a5;have D:=F.mono (show z+1<=b0.1.size from h.out.dk.lt);clear h a5 F M af cj hi4 bR;have h:Hid _:=B;have r:Hid (HasOx _ _ _ _ _ _):=D;clear B D;obtain⟨b7,d5⟩:=cO (k.tmod 2);obtain⟨e2,d6⟩:=cO (k.tmod 4);rw[d5,d6]at A;go_upto_region 13 with fail
   go_cut [84] (fun e8 Y=>e8= .bool (q&&(b7==1))/\LSt w g z a n c b9 d K Y/\HasOx xs (z+1) Y V on W)
   case first=>
    cases q with
    |true=>
     go_wp2_with fail
     go_meet
     exact⟨rfl,h.out,r.out⟩
    |false=>
     go_wp2_with fail
     go_meet
     exact⟨rfl,h.out,r.out⟩
   case rest=>
   clear h r;obtain⟨rfl,u,D⟩:=hcut;obtain⟨bk,bB⟩:=aa (dsX K b7 (xs,q));rw[<-bB]at A;have bC:bk=if(q&&(b7==1))=true then cu K xs 4 else K:=by rw[bB,dsX];simp
   have bf:Hid _:=bC;clear bB bC;generalize (q&&(b7==1))=ek at*;obtain⟨eL,C⟩:=aa wc;subst C;have h:Hid _:=u;have r:Hid (HasOx _ _ _ _ _ _):=D;clear u D;go_upto_if 84 with fail
   go_cut [] (fun Y=> ∃d,LSt w g z a n c b9 d bk Y)
   case first=>
    cases ek with
    |true=>
     have eR:=h.out.dk.c0;have eU:=h.out.dk.c1;go_wp2_with fail;have ak:bk=cu K xs 4:=by rw[bf.out,BC (by first|rfl|trivial)]
     refine(sQ d K (z+1) V on W xs 4 eL h.out.own.reads h.out.ok r.out bk ak).mono ?_;clear ak;rintro e et ⟨dV,es,rfl,ae,H,I⟩;have a3:=h.out.dk.lt;have m:=h.out.below t ae;have ac:Hid _:=m.put t H t7 I;have Q:=u2 m.dk.c0 m.dk.c1;have b6:=frozen_of_row _ _ 0 _ _ m.dk;have f1:=frozen_of_row _ _ 1 _ _ m.dk;clear h r ae m H I;obtain⟨bv,bx⟩:=Q;go_wp2_with fail
     go_meet
     exact⟨_,ac.out⟩
    |false=>
     go_wp2_with fail
     go_meet
     rw[bf.out,BX uB];exact⟨_,h.out⟩
   case rest=>
   clear h r;clear bf;clear d K;obtain⟨d,u⟩:=hcut;obtain⟨K,bY⟩:=aa bk;subst bY;obtain⟨bl,C⟩:=aa wc;subst C;have h:Hid _:=u;clear u;go_upto_if 93 with fail
   go_cut [] (fun Y=> ∃d,LSt w g z a n c b9 d b2 Y)
   case first=>
    by_cases d1:0<e2
    ·go_upto_region 16 with fail
     have e4:=bAl bl (.cells #[.int .i64 2,.int .i64 0,.slice none 0 0] 157);have fm:=h.out.dk.lt;have so:=Ix bl (z+1) fm;have eR:=h.out.dk.c0;have eU:=h.out.dk.c1;have cL:=h.out.below t e4;clear h;have h:Hid _:=cL;have r:Hid (HasOx _ _ _ _ _ _):=so;clear cL so;have fd:(bl.alloc (.cells #[.int .i64 2,.int .i64 0,.slice none 0 0] 157)).1.size=bl.1.size+1:=by simp
     clear fd;go_wp2_with fail;generalize bl.alloc (.cells #[.int .i64 2,.int .i64 0,.slice none 0 0] 157)=eM at*;have ak:b2=cu K [opS] 1:=by rw[A.out,BC d1]
     refine(sQ d K (z+1) _ 1 1 [opS] 1 eM h.out.own.reads h.out.ok r.out b2 ak).mono ?_;clear ak;rintro e et ⟨dV,es,rfl,ae,H,I⟩;have a3:=h.out.dk.lt;have m:=h.out.below t ae;have ac:Hid _:=m.put t H t7 I;have Q:=u2 m.dk.c0 m.dk.c1;have b6:=frozen_of_row _ _ 0 _ _ m.dk;have f1:=frozen_of_row _ _ 1 _ _ m.dk;clear h r ae m H I;obtain⟨bv,bx⟩:=Q;go_wp2_with fail
     go_meet
     exact⟨_,ac.out⟩
    ·have ft:=d1;go_wp2_with fail
     go_meet
     rw[A.out,BX t7];exact⟨_,h.out⟩
   case rest=>
   clear h;clear A;clear d K;obtain⟨d,u⟩:=hcut;obtain⟨K,bY⟩:=aa b2;subst bY;obtain⟨f0,C⟩:=aa wc;subst C;have bE:=u.res;have e0:=u.dk.c0;have dW:=u.dk.c1;have l0:=CV _ _ 0 _ _ _ bE;have e3:=CV _ _ 1 _ _ _ bE;have u0:=frozen_of_row _ _ 0 _ _ bE;have u1:=frozen_of_row _ _ 1 _ _ bE;have cM:Hid _:=u;clear u bE;go_wp2;refine BB (v:= .agg #[.slice d.sa K.n d.sc,.slice d.pa K.m d.pc]) (by simp[results,results54,go_sem,l0,e3]) rfl ?_;exact⟨d,rfl,(cM.out.fin ab.out t).1,(cM.out.fin ab.out t).2,cM.out.ok⟩
theorem IA{K}(b:dt K)(c):dt (iC K c):=by
 by_cases a:dOk K
 ·rw[vQ a];exact(Dk c a).low
 ·rw[vS a];exact b
noncomputable def py(l:List Int)(n:Nat)(k:Int)(K:DK)(ops:List OpK)(q:Nat):DK:=
 if k%16=15 then iC (cu K ops (l.getD q 0)) (ki l n (rdP n q))else cu K ops (l.getD q 0)
noncomputable def lF(l:List Int)(n:Nat)(k:Int)(M:MdS):DK:=
 if k%8=7 then py l n k M.1 (upR M.1 M.2.1.1 M.2.1.2.1 M.2.1.2.2.1 M.2.1.2.2.2 (fG l n 9 M.2.2).1).1 (fG l n 9 M.2.2).2 else M.1
noncomputable def sY(l:List Int)(n p:Nat):DK:=if 248<=l.getD p 0 then dsR l n (l.getD (rdP n p) 0) (rdP n (rdP n p))else lF l n (l.getD p 0) (lE l n (rdP n p))
