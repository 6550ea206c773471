import Derived.Test.YtnohmedccbogkaaGreatDoorCo18
namespace Go.Proofs.YtnohmedccbogkaaGreatDoor
open Go.RowKit
set_option linter.unusedVariables false
set_option maxRecDepth 100000
set_option maxHeartbeats 32000000
def aA:Tr->List (ByteArray×Tr)
 | .cons s t ks=>(s,t)::aA ks
 |_=>[]
def frB(b:Bool)(low:ByteArray)(L:List (ByteArray×Tr))(m:Nat):ByteArray:=if b=true/\m=0 then low else lz low (L.getD m t0).1
def toB(high:ByteArray)(L:List (ByteArray×Tr))(m:Nat):ByteArray:=if m+1<L.length then nQ high (L.getD (m+1) t0).1 else high
theorem JE(f n):(List.range (n+1)).all f=(f 0&&(List.range n).all (fun m=>f (m+1))):=by
 rw[List.range_succ_eq_map,List.all_cons,List.all_map]
 rfl
theorem zf:∀(ks:Tr)(b:Bool)(low a:ByteArray),isT ks=false->full ks b->okT ks b low a=(List.range (aA ks).length).all (fun m=>okT ((aA ks).getD m t0).2 true (frB b low (aA ks) m) (toB a (aA ks) m))
 | .leaf _ _,_,_,_,h,_=>by simp[isT]at h
 | .node _ _,_,_,_,h,_=>by simp[isT]at h
 | .nil,b,low,a,_,_=>by simp[okT,aA]
 | .cons s f ks,b,low,a,_,c=>by
  rw[full]at c;have ih:=zf ks false low a c.2.2.1 c.2.2.2.2;rw[okT,aA,m1,JE,ih];congr 1
  ·have d:frB b low ((s,f)::aA ks) 0=if b=true then low else lz low s:=by
    unfold frB;cases b<;>simp
   have e:toB a ((s,f)::aA ks) 0=j5 a (hdS ks):=by
    unfold toB;cases ks with
    |cons g i r=>simp[aA,hdS,j5]
    |nil=>simp[aA,hdS,j5]
    |leaf _ _=>have:=c.2.2.1;simp[isT]at this
    |node _ _=>have:=c.2.2.1;simp[isT]at this
   rw[d,e];simp
  ·congr 1;funext m;have d:frB b low ((s,f)::aA ks) (m+1)=frB false low (aA ks) m:=by unfold frB;simp
   have e:toB a ((s,f)::aA ks) (m+1)=toB a (aA ks) m:=by unfold toB;simp
   rw[d,e];simp
theorem pT{ns}:∀(ks:Tr)(b:Bool)(a:List Int)(c:List ByteArray),isT ks=false->full ks b->Rep ns ks b a c->a.length=(aA ks).length/\c=(if b=true then(aA ks).tail else aA ks).map (fun x=>x.1)/\∀m,m< (aA ks).length->Rep ns ((aA ks).getD m t0).2 true [a.getD m 0] []
 | .leaf _ _,_,_,_,h,_,_=>by simp[isT]at h
 | .node _ _,_,_,_,h,_,_=>by simp[isT]at h
 | .nil,b,a,c,_,_,hr=>by
  rw[Rep]at hr;obtain⟨rfl,rfl⟩:=hr;cases b<;>simp[aA]
 | .cons s p ks,b,a,c,_,e,hr=>by
  rw[full]at e;rw[Rep]at hr;obtain⟨d,f,g,rfl,rfl,i,j⟩:=hr;obtain⟨l,n,o⟩:=pT ks false f g e.2.2.1 e.2.2.2.2 j;refine⟨by simp[aA,l],?_,fun m k=> ?_⟩
  ·rw[n];cases b<;>simp[aA]
  ·cases m with
   |zero=>simpa [aA]using i
   |succ m=>
    have:=o m (by simpa [aA]using k);simpa [aA]using this
theorem JF{B0 g sb N rt ns nv na nc seen tall bad}(id ks)(ab:full (.node id ks) true)(b2:ns.length<=1048576)(bw:(aA ks).length<=1048576)(bi:∀m,m< (aA ks).length->OrC B0 g sb N rt ns nv na nc seen tall bad ((aA ks).getD m t0).2):OrC B0 g sb N rt ns nv na nc seen tall bad (.node id ks):=by
 intro p low a w an hr;rw[Rep]at hr;obtain⟨q,kd,l,bR,bp,bt⟩:=hr;cases bR;rw[full]at ab;have a9:isT ks=false:=by obtain⟨s,cb,r,rfl⟩:=ab.1;rfl
 have G:Hid (okT (.node id ks) true low a=(List.range (aA ks).length).all (fun m=>okT ((aA ks).getD m t0).2 true (frB true low (aA ks) m) (toB a (aA ks) m))):=by
  show okT _ _ _ _= _;rw[okT];exact zf ks true low a a9 ab.2
 obtain⟨Z,S,ad⟩:=pT ks true kd l a9 ab.2 bt;generalize okT (.node id ks) true low a=H at*;generalize bq:aA ks=c at*;clear bq ab a9 bt;rw[qb rfl]at S;obtain⟨b,rfl,R,bs,b3⟩:=pS an bp;have bj:w.cell? ⟨g,0,none⟩=some (.slice (some ⟨b,0,none⟩) ns.length nc):=an.blk.cell 0;generalize Q:(⟨id,false,[],[],kd,l⟩:NdK)=K at*;have aO:K.keys=[]:=by rw[<-Q]
 have aH:K.kids=kd:=by rw[<-Q]
 have aX:K.signs=l:=by rw[<-Q]
 have am:=bAl w (.cells (ndc (nv q) K).toArray 257);have bz:=ao w 257 (ndc (nv q) K).toArray;have a6:=bs.below am;have bF:(Tryz.prog.info? 257).map (·.size)=some (ndc (nv q) K).length:=bM;go_enter Tryz.func181,Tryz.ntmps181;go_upto_region 2 with(first|(refine dm rfl 257 _ rfl b (q*6) rfl (ndc (nv q) K) _ R q8 rfl bF ?_)|(refine aL rfl 257 _ _ rfl w (ndc bX nd0).toArray (ndc (nv q) K).toArray 257 rfl rfl bM rfl (fT _ _) ?_))
 change Code.wp _ _ _ _ (w.alloc (.cells (ndc (nv q) K).toArray 257));generalize w.alloc (.cells (ndc (nv q) K).toArray 257)=a7 at*;have a4:Blk a7 257 w.1.size (ndc (nv q) K):=bz;have bh:Hid (∀ag,Below a7.1.size a7 ag->ag.cell? ⟨w.1.size,2,none⟩=some (.slice (nv q).ka 0 (nv q).kc)/\ag.cell? ⟨w.1.size,4,none⟩=some (.slice (nv q).da kd.length (nv q).dc)/\ag.cell? ⟨w.1.size,5,none⟩=some (.slice (nv q).sa l.length (nv q).sc)/\Own1 3 0 ag (nv q).da kd.length (nv q).dc (on kd)/\Own1 9 0 ag (nv q).sa l.length (nv q).sc (os l)/\TSt B0 g sb N rt ag ns nv (some ⟨b,0,none⟩) nc seen tall bad):=fun ag ak=>by
  have bb:=a4.below ak;have V:=(a6.below ak).kids;have W:=(a6.below ak).signs;have ah:ag.cell? ⟨w.1.size,2,none⟩=some (.slice (nv q).ka K.keys.length (nv q).kc):=bb.cell 2;have I:ag.cell? ⟨w.1.size,4,none⟩=some (.slice (nv q).da K.kids.length (nv q).dc):=bb.cell 4;have J:ag.cell? ⟨w.1.size,5,none⟩=some (.slice (nv q).sa K.signs.length (nv q).sc):=bb.cell 5;rw[aO]at ah;rw[aH]at I V;rw[aX]at J W;exact⟨ah,I,J,V,W,(an.belowT am).belowT ak⟩
 have D:Hid _:=am;have O:Hid _:=bi;have E:Hid _:=ad;have ar:Hid _:=Z;have bg:Hid _:=S;have bP:kd.length<=1048576:=by rw[Z];exact bw
 have u:Hid (l.length=c.length-1):=by show l.length= _;rw[S];simp
 have bS:l.length<=1048576:=by rw[u.out];omega
 clear bz a4 a6 bs am R bj an bp Q aO aH aX bF bi ad Z S;generalize (nv q).ka=b7 at*;generalize (nv q).kc=b9 at*;generalize (nv q).da=b4 at*;generalize (nv q).dc=b5 at*;generalize (nv q).sa=bY at*;generalize (nv q).sc=ca at*;obtain⟨ah,_,_,_,_,_⟩:=bh.out a7 kF;go_wp2_with fail;go_loopw [10] (fun x wr=>x= .int .i64 0/\wr=a7) (fun _ _=>0)
 case atStart=>exact⟨rfl,rfl⟩
 case round=>
  obtain⟨rfl,a3⟩:=hrel;obtain rfl:=a3.symm;clear a3;go_wp2_with fail;clear ah;go_loopw [11,12,13] (fun x _ _ wr=> ∃j:Nat,x= .int .i64 (j:Nat)/\j<=kd.length/\Below a7.1.size a7 wr/\∀m,m<j->okT (c.getD m t0).2 true (frB true low c m) (toB a c m)=true) (fun x _ _ _=>kd.length-(intOf x).toNat)
  case atStart=>exact⟨0,rfl,kX _,kF,fun m o=>absurd o (np _)⟩
  case round=>
   obtain⟨j,rfl,b6,Y,X⟩:=hrel;obtain⟨M,rfl⟩:∃x,x=wr:=⟨_,rfl⟩;obtain⟨_,I,J,V,W,t⟩:=bh.out M Y;have n:Hid _:=Y;have z:Hid _:=X;clear Y X;by_cases a1:j<kd.length
   ·have ba:(j:Int)< (kd.length:Int):=kH;obtain⟨b8,rfl,_,_,_,a0⟩:=V.at_ kH;have ai:=(a0 j a1).trans (rx some (lM kd j a1));clear a0 V;have af:∀m,m<l.length->l.getD m (strOfNums [])=(c.getD (m+1) t0).1:=fun m o=>by
     rw[bg.out];have:=u.out;simp[List.getD,List.getElem?_tail,List.getElem?_eq_getElem (show m+1<c.length by omega)]
    have bf:Hid _:=af;clear af;have cs:∀m,m<l.length->∃a5,bY=some ⟨a5,0,none⟩/\M.cell? ⟨a5,m,none⟩=some (.string (c.getD (m+1) t0).1):=fun m o=>by
     obtain⟨bd,e,_,_,_,bN⟩:=W.at_ kH;exact⟨bd,e,by rw[bN m o,pi l m o,bf.out m o]⟩
    have ap:Hid _:=cs;clear cs W;have f:j<c.length:=by have:=ar.out;omega
    go_upto_if 76 with fail
    go_cut [12,76] (fun bE _ b0=>bE= .string (frB true low c j)/\b0=M)
    case first=>
     by_cases bu:j=0
     ·subst bu;have U:Hid (frB true low c 0=low):=by show frB true low c 0=low;unfold frB;simp
      go_wp2_with fail
      go_meet
      exact⟨by rw[U.out],rfl⟩
     ·obtain⟨aw,rfl⟩:∃aw,j=aw+1:=⟨j-1,kH⟩;obtain⟨bd,rfl,bH⟩:=ap.out aw (by have:=u.out;omega);have b1:aw<l.length:=by have:=u.out;omega
      have U:Hid (frB true low c (aw+1)=if sl (c.getD (aw+1) t0).1 low then low else(c.getD (aw+1) t0).1):=by show frB _ _ _ _= _;unfold frB lz;simp
      generalize (c.getD (aw+1) t0).1=F at*;cases hA:sl F low with
      |true=>
       have bk:Op.bytesLess F.toList low.toList=true:=hA;rw[hA]at U;clear hA;go_wp2_with fail
       go_meet
       exact⟨by rw[U.out];rfl,rfl⟩
      |false=>
       have bk:Op.bytesLess F.toList low.toList=false:=hA;rw[hA]at U;clear hA;go_wp2_with fail
       go_meet
       exact⟨by rw[U.out];rfl,rfl⟩
    case rest=>
    obtain⟨rfl,a2⟩:=hcut;obtain rfl:=a2.symm;clear a2;generalize P:frB true low c j=y at*;have v:Hid (toB a c j=if j+1<c.length then(if a.size==0||sl (c.getD (j+1) t0).1 a then(c.getD (j+1) t0).1 else a)else a):=rfl;by_cases o:j<l.length
    ·have bx:(j:Int)< (l.length:Int):=kH;have ac:j+1<c.length:=by have:=u.out;omega
     obtain⟨bd,rfl,bH⟩:=ap.out j o;generalize a8:(c.getD (j+1) t0).1=F at*;cases L:(a.size==0)with
     |true=>
      have bn:(a.toList==([]:List UInt8))=true:=by rw[pR];exact L
      have C:Hid (toB a c j=F):=by show toB a c j=F;rw[v.out,qb ac,L];rfl
      clear L v a8;have A:=O.out j f (kd.getD j 0) y F M t (E.out j f);have k:Hid (okT (c.getD j t0).2 true y F=okT (c.getD j t0).2 true (frB true low c j) (toB a c j)):=by show _= _;rw[P,C.out]
      generalize ae:okT (c.getD j t0).2 true y F=r at*;generalize kd.getD j 0=bc at*;clear t;go_wp2_with fail;refine A.mono ?_;rintro e be ⟨rfl,B⟩;have i:=n.out.trans (B.mono n.out.size);have h:Hid _:=i;clear A B i I J ai;cases r with
      |false=>
       have d:H=false:=by
        rw[G.out,List.all_eq_false];exact⟨j,m3.2 f,by rw[<-k.out];decide⟩
       go_wp2_with fail;go_ret;exact⟨by rw[d];rfl,D.out.trans (h.out.mono D.out.size)⟩
      |true=>
       go_wp2_with fail;go_roundw
       case rel=>exact⟨j+1,by go_num,kH,h.out,fun m o=>by
        by_cases e:m=j
        ·subst e;exact k.out.symm
        ·exact z.out m kH⟩
       case measure=>simp[intOf];omega
     |false=>
      have bn:(a.toList==([]:List UInt8))=false:=by rw[pR];exact L
      cases T:sl F a with
      |true=>
       have bl:Op.bytesLess F.toList a.toList=true:=T;have C:Hid (toB a c j=F):=by show toB a c j=F;rw[v.out,qb ac,T];simp
       clear L v T a8;have A:=O.out j f (kd.getD j 0) y F M t (E.out j f);have k:Hid (okT (c.getD j t0).2 true y F=okT (c.getD j t0).2 true (frB true low c j) (toB a c j)):=by show _= _;rw[P,C.out]
       generalize ae:okT (c.getD j t0).2 true y F=r at*;generalize kd.getD j 0=bc at*;clear t;go_wp2_with fail;refine A.mono ?_;rintro e be ⟨rfl,B⟩;have i:=n.out.trans (B.mono n.out.size);have h:Hid _:=i;clear A B i I J ai;cases r with
       |false=>
        have d:H=false:=by
         rw[G.out,List.all_eq_false];exact⟨j,m3.2 f,by rw[<-k.out];decide⟩
        go_wp2_with fail;go_ret;exact⟨by rw[d];rfl,D.out.trans (h.out.mono D.out.size)⟩
       |true=>
        go_wp2_with fail;go_roundw
        case rel=>exact⟨j+1,by go_num,kH,h.out,fun m o=>by
         by_cases e:m=j
         ·subst e;exact k.out.symm
         ·exact z.out m kH⟩
        case measure=>simp[intOf];omega
      |false=>
       have bl:Op.bytesLess F.toList a.toList=false:=T;have C:Hid (toB a c j=a):=by show toB a c j=a;rw[v.out,qb ac,T,L];rfl
       clear L v T a8;have A:=O.out j f (kd.getD j 0) y a M t (E.out j f);have k:Hid (okT (c.getD j t0).2 true y a=okT (c.getD j t0).2 true (frB true low c j) (toB a c j)):=by show _= _;rw[P,C.out]
       generalize ae:okT (c.getD j t0).2 true y a=r at*;generalize kd.getD j 0=bc at*;clear t;go_wp2_with fail;refine A.mono ?_;rintro e be ⟨rfl,B⟩;have i:=n.out.trans (B.mono n.out.size);have h:Hid _:=i;clear A B i I J ai;cases r with
       |false=>
        have d:H=false:=by
         rw[G.out,List.all_eq_false];exact⟨j,m3.2 f,by rw[<-k.out];decide⟩
        go_wp2_with fail;go_ret;exact⟨by rw[d];rfl,D.out.trans (h.out.mono D.out.size)⟩
       |true=>
        go_wp2_with fail;go_roundw
        case rel=>exact⟨j+1,by go_num,kH,h.out,fun m o=>by
         by_cases e:m=j
         ·subst e;exact k.out.symm
         ·exact z.out m kH⟩
        case measure=>simp[intOf];omega
    ·have bx:¬(j:Int)< (l.length:Int):=kH;have C:Hid (toB a c j=a):=by show toB a c j=a;rw[v.out,q4 (by have:=u.out;omega)]
     clear v;have A:=O.out j f (kd.getD j 0) y a M t (E.out j f);have k:Hid (okT (c.getD j t0).2 true y a=okT (c.getD j t0).2 true (frB true low c j) (toB a c j)):=by show _= _;rw[P,C.out]
     generalize ae:okT (c.getD j t0).2 true y a=r at*;generalize kd.getD j 0=bc at*;clear t;go_wp2_with fail;refine A.mono ?_;rintro e be ⟨rfl,B⟩;have i:=n.out.trans (B.mono n.out.size);have h:Hid _:=i;clear A B i I J ai;cases r with
     |false=>
      have d:H=false:=by
       rw[G.out,List.all_eq_false];exact⟨j,m3.2 f,by rw[<-k.out];decide⟩
      go_wp2_with fail;go_ret;exact⟨by rw[d];rfl,D.out.trans (h.out.mono D.out.size)⟩
     |true=>
      go_wp2_with fail;go_roundw
      case rel=>exact⟨j+1,by go_num,kH,h.out,fun m o=>by
       by_cases e:m=j
       ·subst e;exact k.out.symm
       ·exact z.out m kH⟩
      case measure=>simp[intOf];omega
   ·have bv:j=kd.length:=kH;have ba:¬(j:Int)< (kd.length:Int):=kH;have d:H=true:=by
     rw[G.out,oW];intro m o;exact z.out m (by have:=m3.1 o;have:=ar.out;omega)
    clear V W t bv;go_wp2_with fail;go_ret;exact⟨by first|rfl|(rw[d];rfl),D.out.trans (n.out.mono D.out.size)⟩
def smT:Tr->Prop
 | .leaf _ es=>es.length<=1048576
 | .node _ ks=>(aA ks).length<=1048576/\smT ks
 | .nil=>True
 | .cons _ t ks=>smT t/\smT ks
theorem pU{B0 g sb N rt ns nv na nc seen tall bad}(d:ns.length<=1048576):∀e:Tr,
 (isT e=true->full e true->smT e->OrC B0 g sb N rt ns nv na nc seen tall bad e)/\(isT e=false->∀b,full e b->smT e->∀m,m< (aA e).length->OrC B0 g sb N rt ns nv na nc seen tall bad ((aA e).getD m t0).2)
 | .leaf id es=>⟨fun _ _ a=>JD id es a d,fun h=>by simp[isT]at h⟩
 | .node id ks=>⟨fun _ c a=>by
  have f:=c;rw[full]at f;rw[smT]at a;have j:isT ks=false:=by obtain⟨s,e,r,rfl⟩:=f.1;rfl
  exact JF id ks c d a.1 ((pU d ks).2 j true f.2 a.2),fun h=>by simp[isT]at h⟩
 | .nil=>⟨fun h=>by simp[isT]at h,fun _ _ _ _ m i=>by simp[aA]at i⟩
 | .cons s e ks=>⟨fun h=>by simp[isT]at h,fun _ b c a m i=>by
  rw[full]at c;rw[smT]at a;cases m with
  |zero=>exact(pU d e).1 c.2.1 c.2.2.2.1 a.1
  |succ m=>exact(pU d ks).2 c.2.2.1 false c.2.2.2.2 a.2 m (by simpa [aA]using i)⟩
