import Derived.Test.YtglbanolhhjjiaaGreatDoorFo17
namespace Go.Proofs.YtglbanolhhjjiaaGreatDoor
open Go.Proofs.Tryz
open Go.RowKit
set_option linter.unusedVariables false
set_option maxRecDepth 100000
set_option maxHeartbeats 32000000
def aC:Tr->List (ByteArray×Tr)
 | .cons s t ks=>(s,t)::aC ks
 |_=>[]
def frB(b:Bool)(low:ByteArray)(L:List (ByteArray×Tr))(m:Nat):ByteArray:=if b=true/\m=0 then low else j7 low (L.getD m t0).1
def toB(high:ByteArray)(L:List (ByteArray×Tr))(m:Nat):ByteArray:=if m+1<L.length then nn high (L.getD (m+1) t0).1 else high
theorem DS(f n):(List.range (n+1)).all f=(f 0&&(List.range n).all (fun m=>f (m+1))):=by
 rw[List.range_succ_eq_map,List.all_cons,List.all_map]
 rfl
theorem vU:∀(ks:Tr)(b:Bool)(low a:ByteArray),isT ks=false->full ks b->okT ks b low a=(List.range (aC ks).length).all (fun m=>okT ((aC ks).getD m t0).2 true (frB b low (aC ks) m) (toB a (aC ks) m))
 | .leaf _ _,_,_,_,h,_=>by simp[isT]at h
 | .node _ _,_,_,_,h,_=>by simp[isT]at h
 | .nil,b,low,a,_,_=>by simp[okT,aC]
 | .cons s t ks,b,low,a,_,c=>by
  rw[full]at c;have ih:=vU ks false low a c.2.2.1 c.2.2.2.2;rw[okT,aC,w8,DS,ih];congr 1
  ·have d:frB b low ((s,t)::aC ks) 0=if b=true then low else j7 low s:=by
    unfold frB;cases b<;>simp
   have e:toB a ((s,t)::aC ks) 0=jo a (hdS ks):=by
    unfold toB;cases ks with
    |cons f g r=>simp[aC,hdS,jo]
    |nil=>simp[aC,hdS,jo]
    |leaf _ _=>have:=c.2.2.1;simp[isT]at this
    |node _ _=>have:=c.2.2.1;simp[isT]at this
   rw[d,e];simp
  ·congr 1;funext m;have d:frB b low ((s,t)::aC ks) (m+1)=frB false low (aC ks) m:=by unfold frB;simp
   have e:toB a ((s,t)::aC ks) (m+1)=toB a (aC ks) m:=by unfold toB;simp
   rw[d,e];simp
theorem qW{ns}:∀(ks:Tr)(b:Bool)(a:List Int)(e:List ByteArray),isT ks=false->full ks b->Rep ns ks b a e->a.length=(aC ks).length/\e=(if b=true then(aC ks).tail else aC ks).map (fun x=>x.1)/\∀m,m< (aC ks).length->Rep ns ((aC ks).getD m t0).2 true [a.getD m 0] []
 | .leaf _ _,_,_,_,h,_,_=>by simp[isT]at h
 | .node _ _,_,_,_,h,_,_=>by simp[isT]at h
 | .nil,b,a,e,_,_,c=>by
  rw[Rep]at c;obtain⟨rfl,rfl⟩:=c;cases b<;>simp[aC]
 | .cons s t ks,b,a,e,_,f,c=>by
  rw[full]at f;rw[Rep]at c;obtain⟨d,g,i,rfl,rfl,j,k⟩:=c;obtain⟨n,o,p⟩:=qW ks false g i f.2.2.1 f.2.2.2.2 k;refine⟨by simp[aC,n],?_,fun m l=> ?_⟩
  ·rw[o];cases b<;>simp[aC]
  ·cases m with
   |zero=>simpa [aC]using j
   |succ m=>
    have:=p m (by simpa [aC]using l);simpa [aC]using this
theorem DT{B0 g sb N rt ns nv na nc seen tall bad}(id ks)(ad:full (.node id ks) true)(b8:ns.length<=1048576)(bR:(aC ks).length<=1048576)(bs:∀m,m< (aC ks).length->OrC B0 g sb N rt ns nv na nc seen tall bad ((aC ks).getD m t0).2):OrC B0 g sb N rt ns nv na nc seen tall bad (.node id ks):=by
 intro p low a w aB bT;rw[Rep]at bT;obtain⟨q,kd,sg,b3,bA,bE⟩:=bT;cases b3;rw[full]at ad;have bc:isT ks=false:=by obtain⟨s,t,r,rfl⟩:=ad.1;rfl
 have G:Hid (okT (.node id ks) true low a=(List.range (aC ks).length).all (fun m=>okT ((aC ks).getD m t0).2 true (frB true low (aC ks) m) (toB a (aC ks) m))):=by
  show okT _ _ _ _= _;rw[okT];exact vU ks true low a bc ad.2
 obtain⟨ac,U,af⟩:=qW ks true kd sg bc ad.2 bE;generalize okT (.node id ks) true low a=H at*;generalize bB:aC ks=L at*;clear bB ad bc bE;rw[B4 rfl]at U;obtain⟨b,rfl,T,bC,b9⟩:=qV aB bA;have bu:w.cell? ⟨g,0,none⟩=some (.slice (some ⟨b,0,none⟩) ns.length nc):=aB.blk.cell 0;generalize R:(⟨id,false,[],[],kd,sg⟩:NdK)=K at*;have a1:K.keys=[]:=by rw[<-R]
 have a0:K.kids=kd:=by rw[<-R]
 have a2:K.signs=sg:=by rw[<-R]
 have aA:=bAl w (.cells (ndc (nv q) K).toArray 176);have bX:=aq w 176 (ndc (nv q) K).toArray;have a9:=bC.below aA;have bZ:(prog.info? 176).map (·.size)=some (ndc (nv q) K).length:=aD;go_enter func110,ntmps110;go_upto_region 2 with(first|(refine dG rfl 176 _ rfl b (q*6) rfl (ndc (nv q) K) _ T underlying176 rfl bZ ?_)|(refine bt rfl 176 _ _ rfl w (ndc aF nd0).toArray (ndc (nv q) K).toArray 176 rfl rfl aD rfl (cy _ _) ?_))
 change Code.wp _ _ _ _ (w.alloc (.cells (ndc (nv q) K).toArray 176));generalize w.alloc (.cells (ndc (nv q) K).toArray 176)=ba at*;have a7:Blk ba 176 w.1.size (ndc (nv q) K):=bX;have br:Hid (∀u,Below ba.1.size ba u->u.cell? ⟨w.1.size,2,none⟩=some (.slice (nv q).ka 0 (nv q).kc)/\u.cell? ⟨w.1.size,4,none⟩=some (.slice (nv q).da kd.length (nv q).dc)/\u.cell? ⟨w.1.size,5,none⟩=some (.slice (nv q).sa sg.length (nv q).sc)/\Own1 3 0 u (nv q).da kd.length (nv q).dc (on kd)/\Own1 9 0 u (nv q).sa sg.length (nv q).sc (os sg)/\TSt B0 g sb N rt u ns nv (some ⟨b,0,none⟩) nc seen tall bad):=fun u ap=>by
  have bf:=a7.below ap;have X:=(a9.below ap).kids;have Y:=(a9.below ap).signs;have am:u.cell? ⟨w.1.size,2,none⟩=some (.slice (nv q).ka K.keys.length (nv q).kc):=bf.cell 2;have I:u.cell? ⟨w.1.size,4,none⟩=some (.slice (nv q).da K.kids.length (nv q).dc):=bf.cell 4;have J:u.cell? ⟨w.1.size,5,none⟩=some (.slice (nv q).sa K.signs.length (nv q).sc):=bf.cell 5;rw[a1]at am;rw[a0]at I X;rw[a2]at J Y;exact⟨am,I,J,X,Y,(aB.belowT aA).belowT ap⟩
 have E:Hid _:=aA;have P:Hid _:=bs;have F:Hid _:=af;have aT:Hid _:=ac;have bn:Hid _:=U;have b2:kd.length<=1048576:=by rw[ac];exact bR
 have v:Hid (sg.length=L.length-1):=by show sg.length= _;rw[U];simp
 have b4:sg.length<=1048576:=by rw[v.out];omega
 clear bX a7 a9 bC aA T bu aB bA R a1 a0 a2 bZ bs af ac U;generalize (nv q).ka=ce at*;generalize (nv q).kc=cg at*;generalize (nv q).da=ca at*;generalize (nv q).dc=cb at*;generalize (nv q).sa=b5 at*;generalize (nv q).sc=ch at*;obtain⟨am,_,_,_,_,_⟩:=br.out ba t7;go_wp2_with fail;go_loopw [10] (fun x wr=>x= .int .i64 0/\wr=ba) (fun _ _=>0)
 case atStart=>exact⟨rfl,rfl⟩
 case round=>
  obtain⟨rfl,a6⟩:=hrel;obtain rfl:=a6.symm;clear a6;go_wp2_with fail;clear am;go_loopw [11,12,13] (fun x _ _ wr=> ∃j:Nat,x= .int .i64 (j:Nat)/\j<=kd.length/\Below ba.1.size ba wr/\∀m,m<j->okT (L.getD m t0).2 true (frB true low L m) (toB a L m)=true) (fun x _ _ _=>kd.length-(intOf x).toNat)
  case atStart=>exact⟨0,rfl,wa _,t7,fun m n=>absurd n (xN _)⟩
  case round=>
   obtain⟨j,rfl,cc,ab,Z⟩:=hrel;obtain⟨O,bW⟩:=aa wr;subst bW;obtain⟨_,I,J,X,Y,o⟩:=br.out O ab;have l:Hid _:=ab;have A:Hid _:=Z;clear ab Z;by_cases a4:j<kd.length
   ·have bd:(j:Int)< (kd.length:Int):=uA;obtain⟨cf,rfl,_,_,_,a3⟩:=X.at_ uA;have an:=(a3 j a4).trans (C1 some (cF kd j a4));clear a3 X;have ak:∀m,m<sg.length->sg.getD m (strOfNums [])=(L.getD (m+1) t0).1:=fun m n=>by
     rw[bn.out];have:=v.out;simp[List.getD,List.getElem?_tail,List.getElem?_eq_getElem (show m+1<L.length by omega)]
    have bm:Hid _:=ak;clear ak;have cs:∀m,m<sg.length->∃a8,b5=some ⟨a8,0,none⟩/\O.cell? ⟨a8,m,none⟩=some (.string (L.getD (m+1) t0).1):=fun m n=>by
     obtain⟨bk,e,_,_,_,b1⟩:=Y.at_ uA;exact⟨bk,e,by rw[b1 m n,eh sg m n,bm.out m n]⟩
    have aS:Hid _:=cs;clear cs Y;have d:j<L.length:=by have:=aT.out;omega
    go_upto_if 76 with fail
    go_cut [12,76] (fun bY _ b6=>bY= .string (frB true low L j)/\b6=O)
    case first=>
     by_cases bF:j=0
     ·subst bF;have W:Hid (frB true low L 0=low):=by show frB true low L 0=low;unfold frB;simp
      go_wp2_with fail
      go_meet
      exact⟨by rw[W.out],rfl⟩
     ·obtain⟨aX,rfl⟩:∃aX,j=aX+1:=⟨j-1,uA⟩;obtain⟨bk,rfl,b0⟩:=aS.out aX (by have:=v.out;omega);have b7:aX<sg.length:=by have:=v.out;omega
      have W:Hid (frB true low L (aX+1)=if sl (L.getD (aX+1) t0).1 low then low else(L.getD (aX+1) t0).1):=by show frB _ _ _ _= _;unfold frB j7;simp
      generalize (L.getD (aX+1) t0).1=S at*;cases hA:sl S low with
      |true=>
       have bv:Op.bytesLess S.toList low.toList=true:=hA;rw[hA]at W;clear hA;go_wp2_with fail
       go_meet
       exact⟨by rw[W.out];rfl,rfl⟩
      |false=>
       have bv:Op.bytesLess S.toList low.toList=false:=hA;rw[hA]at W;clear hA;go_wp2_with fail
       go_meet
       exact⟨by rw[W.out];rfl,rfl⟩
    case rest=>
    obtain⟨rfl,a5⟩:=hcut;obtain rfl:=a5.symm;clear a5;generalize Q:frB true low L j=z at*;have y:Hid (toB a L j=if j+1<L.length then(if a.size==0||sl (L.getD (j+1) t0).1 a then(L.getD (j+1) t0).1 else a)else a):=rfl;by_cases n:j<sg.length
    ·have bS:(j:Int)< (sg.length:Int):=uA;have ae:j+1<L.length:=by have:=v.out;omega
     obtain⟨bk,rfl,b0⟩:=aS.out j n;generalize bb:(L.getD (j+1) t0).1=S at*;cases M:(a.size==0)with
     |true=>
      have bz:(a.toList==([]:List UInt8))=true:=by rw[nY];exact M
      have D:Hid (toB a L j=S):=by show toB a L j=S;rw[y.out,B4 ae,M];rfl
      clear M y bb;have B:=P.out j d (kd.getD j 0) z S O o (F.out j d);have k:Hid (okT (L.getD j t0).2 true z S=okT (L.getD j t0).2 true (frB true low L j) (toB a L j)):=by show _= _;rw[Q,D.out]
      generalize ag:okT (L.getD j t0).2 true z S=r at*;generalize kd.getD j 0=bg at*;clear o;go_wp2_with fail;refine B.mono ?_;rintro e bl ⟨rfl,C⟩;have i:=l.out.trans (C.mono l.out.size);have f:Hid _:=i;clear B C i I J an;cases r with
      |false=>
       have c:H=false:=by
        rw[G.out,List.all_eq_false];exact⟨j,xa.2 d,by rw[<-k.out];decide⟩
       go_wp2_with fail;go_ret;exact⟨by rw[c];rfl,E.out.trans (f.out.mono E.out.size)⟩
      |true=>
       go_wp2_with fail;go_roundw
       case rel=>exact⟨j+1,by go_num,uA,f.out,fun m n=>by
        by_cases e:m=j
        ·subst e;exact k.out.symm
        ·exact A.out m uA⟩
       case measure=>simp[intOf];omega
     |false=>
      have bz:(a.toList==([]:List UInt8))=false:=by rw[nY];exact M
      cases V:sl S a with
      |true=>
       have bx:Op.bytesLess S.toList a.toList=true:=V;have D:Hid (toB a L j=S):=by show toB a L j=S;rw[y.out,B4 ae,V];simp
       clear M y V bb;have B:=P.out j d (kd.getD j 0) z S O o (F.out j d);have k:Hid (okT (L.getD j t0).2 true z S=okT (L.getD j t0).2 true (frB true low L j) (toB a L j)):=by show _= _;rw[Q,D.out]
       generalize ag:okT (L.getD j t0).2 true z S=r at*;generalize kd.getD j 0=bg at*;clear o;go_wp2_with fail;refine B.mono ?_;rintro e bl ⟨rfl,C⟩;have i:=l.out.trans (C.mono l.out.size);have f:Hid _:=i;clear B C i I J an;cases r with
       |false=>
        have c:H=false:=by
         rw[G.out,List.all_eq_false];exact⟨j,xa.2 d,by rw[<-k.out];decide⟩
        go_wp2_with fail;go_ret;exact⟨by rw[c];rfl,E.out.trans (f.out.mono E.out.size)⟩
       |true=>
        go_wp2_with fail;go_roundw
        case rel=>exact⟨j+1,by go_num,uA,f.out,fun m n=>by
         by_cases e:m=j
         ·subst e;exact k.out.symm
         ·exact A.out m uA⟩
        case measure=>simp[intOf];omega
      |false=>
       have bx:Op.bytesLess S.toList a.toList=false:=V;have D:Hid (toB a L j=a):=by show toB a L j=a;rw[y.out,B4 ae,V,M];rfl
       clear M y V bb;have B:=P.out j d (kd.getD j 0) z a O o (F.out j d);have k:Hid (okT (L.getD j t0).2 true z a=okT (L.getD j t0).2 true (frB true low L j) (toB a L j)):=by show _= _;rw[Q,D.out]
       generalize ag:okT (L.getD j t0).2 true z a=r at*;generalize kd.getD j 0=bg at*;clear o;go_wp2_with fail;refine B.mono ?_;rintro e bl ⟨rfl,C⟩;have i:=l.out.trans (C.mono l.out.size);have f:Hid _:=i;clear B C i I J an;cases r with
       |false=>
        have c:H=false:=by
         rw[G.out,List.all_eq_false];exact⟨j,xa.2 d,by rw[<-k.out];decide⟩
        go_wp2_with fail;go_ret;exact⟨by rw[c];rfl,E.out.trans (f.out.mono E.out.size)⟩
       |true=>
        go_wp2_with fail;go_roundw
        case rel=>exact⟨j+1,by go_num,uA,f.out,fun m n=>by
         by_cases e:m=j
         ·subst e;exact k.out.symm
         ·exact A.out m uA⟩
        case measure=>simp[intOf];omega
    ·have bS:¬(j:Int)< (sg.length:Int):=uA;have D:Hid (toB a L j=a):=by show toB a L j=a;rw[y.out,CH (by have:=v.out;omega)]
     clear y;have B:=P.out j d (kd.getD j 0) z a O o (F.out j d);have k:Hid (okT (L.getD j t0).2 true z a=okT (L.getD j t0).2 true (frB true low L j) (toB a L j)):=by show _= _;rw[Q,D.out]
     generalize ag:okT (L.getD j t0).2 true z a=r at*;generalize kd.getD j 0=bg at*;clear o;go_wp2_with fail;refine B.mono ?_;rintro e bl ⟨rfl,C⟩;have i:=l.out.trans (C.mono l.out.size);have f:Hid _:=i;clear B C i I J an;cases r with
     |false=>
      have c:H=false:=by
       rw[G.out,List.all_eq_false];exact⟨j,xa.2 d,by rw[<-k.out];decide⟩
      go_wp2_with fail;go_ret;exact⟨by rw[c];rfl,E.out.trans (f.out.mono E.out.size)⟩
     |true=>
      go_wp2_with fail;go_roundw
      case rel=>exact⟨j+1,by go_num,uA,f.out,fun m n=>by
       by_cases e:m=j
       ·subst e;exact k.out.symm
       ·exact A.out m uA⟩
      case measure=>simp[intOf];omega
   ·have bP:j=kd.length:=uA;have bd:¬(j:Int)< (kd.length:Int):=uA;have c:H=true:=by
     rw[G.out,y4];intro m n;exact A.out m (by have:=xa.1 n;have:=aT.out;omega)
    clear X Y o bP;go_wp2_with fail;go_ret;exact⟨by first|rfl|(rw[c];rfl),E.out.trans (l.out.mono E.out.size)⟩
def smT:Tr->Prop
 | .leaf _ es=>es.length<=1048576
 | .node _ ks=>(aC ks).length<=1048576/\smT ks
 | .nil=>True
 | .cons _ t ks=>smT t/\smT ks
theorem n8{B0 g sb N rt ns nv na nc seen tall bad}(d:ns.length<=1048576):∀t:Tr,
 (isT t=true->full t true->smT t->OrC B0 g sb N rt ns nv na nc seen tall bad t)/\(isT t=false->∀b,full t b->smT t->∀m,m< (aC t).length->OrC B0 g sb N rt ns nv na nc seen tall bad ((aC t).getD m t0).2)
 | .leaf id es=>⟨fun _ _ a=>DF id es a d,fun h=>by simp[isT]at h⟩
 | .node id ks=>⟨fun _ c a=>by
  have e:=c;rw[full]at e;rw[smT]at a;have i:isT ks=false:=by obtain⟨s,t,r,rfl⟩:=e.1;rfl
  exact DT id ks c d a.1 ((n8 d ks).2 i true e.2 a.2),fun h=>by simp[isT]at h⟩
 | .nil=>⟨fun h=>by simp[isT]at h,fun _ _ _ _ m f=>by simp[aC]at f⟩
 | .cons s t ks=>⟨fun h=>by simp[isT]at h,fun _ b c a m f=>by
  rw[full]at c;rw[smT]at a;cases m with
  |zero=>exact(n8 d t).1 c.2.1 c.2.2.2.1 a.1
  |succ m=>exact(n8 d ks).2 c.2.2.1 false c.2.2.2.2 a.2 m (by simpa [aC]using f)⟩
def ar:Tr->List Int
 | .leaf id _=>[id]
 | .node id ks=>id::ar ks
 | .nil=>[]
 | .cons _ t ks=>ar t++ar ks
def ci(L:List (ByteArray×Tr)):List Int:=L.flatMap (fun x=>ar x.2)
theorem vV:∀ks:Tr,isT ks=false->∀b,full ks b->ar ks=ci (aC ks)
 | .leaf _ _,h,_,_=>by simp[isT]at h
 | .node _ _,h,_,_=>by simp[isT]at h
 | .nil,_,_,_=>by simp[ar,ci,aC]
 | .cons s t ks,_,b,a=>by
  rw[full]at a;rw[ar,aC,vV ks a.2.2.1 false a.2.2.2.2];simp[ci]
theorem mu{a b}(N)(h:∀x,x∈a↔x∈b):mkB a N=mkB b N:=by
 unfold mkB;apply List.map_congr_left;intro i _;have:a.contains (i:Int)=b.contains (i:Int):=by rw[Bool.eq_iff_iff,xr,xr];exact h _
 rw[this]
theorem TSt.onlyM{B0 g sb N mb rt w w' ns nv na nc seen tall bad}(h:TSt B0 g sb N rt w ns nv na nc seen tall bad)(c:OnlyB mb w w')(d:∃b,w.heap[mb]?=some (.cells b 4 (0,0)))(l:mb≠sb):TSt B0 g sb N rt w' ns nv na nc seen tall bad:=by
 obtain⟨b,e⟩:=d;have a:∀t,4≠t->KeepT t w w':=fun t j=>cx c e j;refine⟨h.blk.keepT (a _ uB),?_,cw h.nodes (a _ uB),fun i f=>(h.each i f).keep (a _ uB) (a _ uB),wg h.gB c.size,h.ok⟩;refine⟨h.mks.1,?_⟩;rcases h.mks.2 with h2|⟨k,cap,cur2,hv,hg,hh,r⟩
 ·exact v7 h2
 ·refine v6 ⟨k,cap,cur2,hv,hg,?_,r⟩;simp only[D5,Option.some.injEq,Addr.mk.injEq,and_true,true_and]at hv;rw[c.block k (wy.1 hh).1 uA];exact hh
def PgC(B0 g sb N:Nat)(rt:Int)(ns:List NdK)(nv:Nat->NdV)(na:Option Addr)(nc:Nat)(seen:List Int)(tall:Int)(bad:Bool)(mb:Nat)(t:Tr):Prop:= ∀(p:Int)(sn:List Int)(w:World),TSt B0 g sb N rt w ns nv na nc seen tall bad->Own1 4 0 w (some ⟨mb,0,none⟩) N N (mkB sn N)->Rep ns t true [p] []->(∀id∈ar t,0<id/\id< (N:Int))->
 Calls prog 106 #[.pointer (some ⟨g,0,none⟩),.int .i64 p,.slice (some ⟨mb,0,none⟩) N N] w fun e w'=>e= .returned (.tuple #[])/\OnlyB mb w w'/\Own1 4 0 w' (some ⟨mb,0,none⟩) N N (mkB (ar t++sn) N)
theorem vW{B0 g sb N rt ns nv na nc seen tall bad mb}(M:mb≠sb)(bn:ns.length<=1048576)(bv:N<=1024)(q K)(aA:ns[q]?=some K)(L)(bl:L.length<=1048576)(I:K.kids.length=L.length)(i:Nat)(bd:K.page=(i:Int))(bm:0<i)(o:i<N)(r:∀m,m<L.length->Rep ns (L.getD m t0).2 true [K.kids.getD m 0] [])(ad:∀m,m<L.length->PgC B0 g sb N rt ns nv na nc seen tall bad mb (L.getD m t0).2)(F:∀m,m<L.length->∀id∈ar (L.getD m t0).2,0<id/\id< (N:Int))(sn w)(B:TSt B0 g sb N rt w ns nv na nc seen tall bad)(aX:Own1 4 0 w (some ⟨mb,0,none⟩) N N (mkB sn N)):
 Calls prog 106 #[.pointer (some ⟨g,0,none⟩),.int .i64 (q:Nat),.slice (some ⟨mb,0,none⟩) N N] w fun e w'=>e= .returned (.tuple #[])/\OnlyB mb w w'/\Own1 4 0 w' (some ⟨mb,0,none⟩) N N (mkB (ci L++((i:Int)::sn)) N):=by
 obtain⟨b,rfl,f,aB,bs⟩:=qV B aA;have an:w.cell? ⟨g,0,none⟩=some (.slice (some ⟨b,0,none⟩) ns.length nc):=B.blk.cell 0;have y:=bAl w (.cells (ndc (nv q) K).toArray 176);have a1:=aq w 176 (ndc (nv q) K).toArray;have a4:(prog.info? 176).map (·.size)=some (ndc (nv q) K).length:=aD;have br:¬(q:Int)<0:=uA;go_enter func106,ntmps106;go_upto_region 2 with(first|(refine dG rfl 176 _ rfl b (q*6) rfl (ndc (nv q) K) _ f underlying176 rfl a4 ?_)|(refine bt rfl 176 _ _ rfl w (ndc aF nd0).toArray (ndc (nv q) K).toArray 176 rfl rfl aD rfl (cy _ _) ?_))
 change Code.wp _ _ _ _ (w.alloc (.cells (ndc (nv q) K).toArray 176));have ae:=aB.below y;have Q:=B.belowT y;have u:=aX.below y;have bk:(w.alloc (.cells (ndc (nv q) K).toArray 176)).1.size=w.1.size+1:=by simp
 generalize w.alloc (.cells (ndc (nv q) K).toArray 176)=U at*;have s:Blk U 176 w.1.size (ndc (nv q) K):=a1;obtain⟨_,ba,n⟩:=u.blk;have v:=ax U mb i (.bool true);have a:∀t,4≠t->KeepT t U (U.setCell ⟨mb,i,none⟩ (.bool true)):=fun t W=>cx v n W;have X:=u.set i (.bool true);rw[iT _ _ _ o]at X;have R:=Q.onlyM v ⟨_,n⟩ M;have P:=s.keepT (a _ uB);have af:=ae.keep (a _ uB) (a _ uB);have u2:=(Below.onlyB y mb).trans v;have a6:U.cell? ⟨w.1.size,0,none⟩=some (.int .i64 (i:Nat)):=(s.cell 0).trans (by rw[<-bd];rfl);obtain⟨_,bb,_,_,_,O⟩:=u.at_ uA;cases bb;have a7:=(O i o).trans (C1 some (go sn N i o));have bc:=u.free i;have k:=uv R (vJ X (vJ P (vJ af u2)));have bu:w.1.size< (U.setCell ⟨mb,i,none⟩ (.bool true)).1.size:=by have:=v.size;omega
 clear a1 s ae aB y f an B aA a4 Q u X R P af u2 a v n O aX bk;have ab:Hid _:=ad;have S:Hid _:=r;have ac:Hid _:=F;clear ad r F;go_upto_region 4 with fail
 generalize U.setCell ⟨mb,i,none⟩ (.bool true)=ak at*;clear a6 a7 bc;generalize H:K.kids=kd at*;have bf:kd.length<=1048576:=uA;have D:Hid (kd.length=L.length):=I;clear I;go_wp2_with fail;go_loopw [7] (fun x wr=> ∃j:Nat,x= .int .i64 (j:Nat)/\j<=kd.length/\OnlyB mb ak wr/\Own1 4 0 wr (some ⟨mb,0,none⟩) N N (mkB (ci (L.take j)++((i:Int)::sn)) N)) (fun x _=>kd.length-(intOf x).toNat)
 case atStart=>exact⟨0,rfl,wa _,OnlyB.refl _ _,by simpa [ci]using k.out.2.1⟩
 case round=>
  obtain⟨j,rfl,bx,p,c⟩:=hrel;obtain⟨C,a0⟩:=aa wr;subst a0;obtain⟨_,a9,l⟩:=k.out.2.1.blk;have a:∀t,4≠t->KeepT t ak C:=fun t W=>cx p l W;have z:=k.out.1.onlyM p ⟨_,l⟩ M;have a2:=k.out.2.2.1.keepT (a _ uB);have T:=k.out.2.2.2.1.keep (a _ uB) (a _ uB);have am:C.cell? ⟨w.1.size,4,none⟩=some (.slice (nv q).da kd.length (nv q).dc):=by rw[<-H];exact a2.cell 4
  have bg:Hid (OnlyB mb w C):=k.out.2.2.2.2.trans p;have a5:Hid _:=p;clear p a a2 l;by_cases J:j<kd.length
  ·have V:(j:Int)< (kd.length:Int):=uA;have d:j<L.length:=by have:=D.out;omega
   have Z:=T.kids;rw[H]at Z;obtain⟨bz,E,_,_,_,G⟩:=Z.at_ uA;rw[E]at am;have a8:=(G j J).trans (C1 some (cF kd j J));have ag:=ab.out j d (kd.getD j 0) _ C z c (S.out j d) (ac.out j d);have ap:Hid (mkB (ar (L.getD j t0).2++(ci (L.take j)++((i:Int)::sn))) N=mkB (ci (L.take (j+1))++((i:Int)::sn)) N):=mu N (fun x=>by
    have e:L.take (j+1)=L.take j++[L.getD j t0]:=by rw[A6];simp[List.getD,List.getElem?_eq_getElem d]
    rw[e];simp only[ci,List.flatMap_append,List.flatMap_cons,List.flatMap_nil,wP,w6];constructor
    ·rintro(h|h|h)
     ·exact v7 (v6 h)
     ·exact v7 (v7 h)
     ·exact v6 h
    ·rintro((h|h)|h)
     ·exact v6 (v7 h)
     ·exact v7 h
     ·exact v6 (v6 h))
   generalize kd.getD j 0=bA at*;clear G Z T z c E;go_wp2_with fail;refine ag.mono ?_;rintro e bB ⟨rfl,a3,Y⟩;rw[ap.out]at Y;have A:=uv a3 Y;clear ag a3 Y am a8;go_wp2_with fail;go_roundw
   case rel=>exact⟨j+1,by go_num,uA,a5.out.trans A.out.1,A.out.2⟩
   case measure=>simp[intOf];omega
  ·have aT:j=kd.length:=uA;have V:¬(j:Int)< (kd.length:Int):=uA;have aS:L.take j=L:=w5 (by have:=D.out;omega);rw[aS]at c;have A:Hid _:=c;clear c T z aS aT;go_wp2_with fail
   go_end0
   exact⟨rfl,bg.out,A.out⟩
theorem n9{B0 g sb N rt ns nv na nc seen tall bad mb}(d:mb≠sb)(f:ns.length<=1048576)(j:N<=1024):∀t:Tr,
 (isT t=true->full t true->smT t->PgC B0 g sb N rt ns nv na nc seen tall bad mb t)/\(isT t=false->∀b,full t b->smT t->∀m,m< (aC t).length->PgC B0 g sb N rt ns nv na nc seen tall bad mb ((aC t).getD m t0).2)
 | .leaf id es=>⟨fun _ _ _=>fun p sn w z a k l=>by
  rw[Rep]at k;obtain⟨q,v,o⟩:=k;cases v;have C:=l id (by simp[ar]);have:=vW (mb:=mb) d f j q _ o [] vo rfl id.toNat (by show id= _;omega) uA uA (fun m a=>by simp at a) (fun m a=>by simp at a) (fun m a=>by simp at a) sn w z a;rw[show((id.toNat:Nat):Int)=id by omega]at this;simpa [ar,ci]using this,fun h=>by simp[isT]at h⟩
 | .node id ks=>⟨fun _ c i=>fun p sn w z a k l=>by
  rw[Rep]at k;obtain⟨q,kd,sg,v,o,G⟩:=k;cases v;rw[full]at c;rw[smT]at i;have u:isT ks=false:=by obtain⟨s,t,r,rfl⟩:=c.1;rfl
  obtain⟨A,_,y⟩:=qW ks true kd sg u c.2 G;have C:=l id (by simp[ar]);have n:=vV ks u true c.2;have B:=fun m a x hx=>l x (by
   rw[ar,n,w3];refine v6 (List.mem_flatMap.2 ⟨(aC ks).getD m t0,?_,hx⟩);have e:(aC ks).getD m t0=(aC ks)[m]:=by simp[List.getD,List.getElem?_eq_getElem a]
   rw[e];exact za _)
  have:=vW (mb:=mb) d f j q _ o (aC ks) i.1 A id.toNat (by show id= _;omega) uA uA y ((n9 d f j ks).2 u true c.2 i.2) B sn w z a;rw[show((id.toNat:Nat):Int)=id by omega]at this;refine this.mono ?_;rintro e w' ⟨D,E,F⟩;refine⟨D,E,?_⟩;rw[mu (b:=ci (aC ks)++(id::sn)) N (fun x=>by
   rw[ar,n];simp only[z1,w3,w6];constructor
   ·rintro(h|h|h)
    ·exact v6 (v7 h)
    ·exact v7 h
    ·exact v6 (v6 h)
   ·rintro(h|h|h)
    ·exact v6 (v7 h)
    ·exact v7 h
    ·exact v6 (v6 h))]
  exact F,fun h=>by simp[isT]at h⟩
 | .nil=>⟨fun h=>by simp[isT]at h,fun _ _ _ _ m a=>by simp[aC]at a⟩
 | .cons s t ks=>⟨fun h=>by simp[isT]at h,fun _ b c i m a=>by
  rw[full]at c;rw[smT]at i;cases m with
  |zero=>exact(n9 d f j t).1 c.2.1 c.2.2.2.1 i.1
  |succ m=>exact(n9 d f j ks).2 c.2.2.1 false c.2.2.2.2 i.2 m (by simpa [aC]using a)⟩
theorem qX:∀(n:Nat)(l:List Int)(es:List (ByteArray×ByteArray)),l.length<=n->lfP l=some es->es.length<=l.length/\∀e∈es,1<=e.1.size
 |0,l,r,h,e=>by rw[jg uA]at e;cases e;exact⟨vo,vo⟩
 |n+1,l,r,h,e=>by
  by_cases b:l.length=0
  ·rw[jg b]at e;cases e;exact⟨vo,vo⟩
  ·cases a:ee l with
   |false=>rw[iL b a]at e;cases e
   |true=>
    rw[nf a]at e;obtain⟨d,c,rfl⟩:=x5.1 e;have f:=gI.1 a;have g:fu l=2+lfK l+lfV l:=rfl;have:=qX n (l.drop (fu l)) d (by rw[wi];omega) c;rw[wi]at this;refine⟨by simp;omega,fun x hx=> ?_⟩;rcases w3.1 hx with rfl|hx
    ·show 1<=(cU l).size;unfold cU;rw[C0,wR,wi];omega
    ·exact this.2 x hx
theorem vX:∀(n:Nat)(l:List Int)(ls:List (ByteArray×Int)),l.length<=n->lnP l=some ls->∀e∈ls,1<=e.1.size
 |0,l,r,h,e=>by rw[gZ uA]at e;cases e;simp
 |n+1,l,r,h,e=>by
  by_cases b:l.length=0
  ·rw[gZ b]at e;cases e;simp
  ·cases a:eJ l with
   |false=>rw[ji b a]at e;cases e
   |true=>
    rw[j4 a]at e;obtain⟨d,c,rfl⟩:=x5.1 e;have f:=gJ.1 a;have:=vX n (l.drop (5+lfK l)) d (by rw[wi];omega) c;intro x hx;rcases w3.1 hx with rfl|hx
    ·show 1<=(cU l).size;unfold cU;rw[C0,wR,wi];omega
    ·exact this x hx
structure TrOk(P:Pg)(N:Nat)(st:St)(t:Tr)(st':St):Prop where
 full:full t true
 isT:isT t=true
 sm:smT t
 keys:∀k∈aQ t,1<=k.size
 pgs:∀x∈ar t,2<=x/\x< (N:Int)
 seen:st'.seen.Perm (ar t++st.seen)
structure KsOk(P:Pg)(N:Nat)(st:St)(b:Bool)(ls:List (ByteArray×Int))(t:Tr)(st':St):Prop where
 full:full t b
 isT:isT t=false
 sm:smT t
 len:(aC t).length=ls.length
 keys:∀k∈aQ t,1<=k.size
 pgs:∀x∈ar t,2<=x/\x< (N:Int)
 seen:st'.seen.Perm (ar t++st.seen)
theorem vY{P N r}(i:∀d id t c,r d id=some (t,c)->TrOk P N d t c):∀(ls:List (ByteArray×Int))(b:Bool)(d:St)(t:Tr)(c:St),(∀m,(b=true->0<m)->m<ls.length->1<=(ls.getD m d0).1.size)->rdK r ls d=some (t,c)->KsOk P N d b ls t c
 |[],b,d,t,c,_,h=>by
  rw[rdK]at h;cases h;exact⟨by simp[full],rfl,by simp[smT],rfl,by simp[aQ],by simp[ar],by simp[ar]⟩
 |(s,id)::ls,b,d,t,c,j,h=>by
  rw[rdK]at h;obtain⟨x,n,o⟩:=xc.1 h;obtain⟨y,q,u⟩:=xc.1 o;cases u;have a:=i d id x.1 x.2 n;have k:=vY i ls false x.2 y.1 y.2 (fun m _ w=>by
   have:=j (m+1) (fun _=>by omega) (by simp;omega);simpa using this) q
  refine⟨?_,rfl,⟨a.sm,k.sm⟩,by simp[aC,k.len],fun l f=> ?_,fun p g=> ?_,?_⟩
  ·rw[full];exact⟨fun v=>by simpa using j 0 (fun e=>by rw[v]at e;cases e) vo,a.isT,k.isT,a.full,k.full⟩
  ·rw[aQ,w6]at f;rcases f with f|f
   ·exact a.keys l f
   ·exact k.keys l f
  ·rw[ar,w6]at g;rcases g with g|g
   ·exact a.pgs p g
   ·exact k.pgs p g
  ·rw[ar];refine k.seen.trans ?_;refine(List.Perm.append_left _ a.seen).trans ?_;rw[<-wv];exact List.Perm.append_right _ List.perm_append_comm
theorem iW{P N}(p:PgW P N):∀(f:Nat)(steps:Int)(a:St)(id:Int)(t:Tr)(b:St),rdT P f steps a id=some (t,b)->TrOk P N a t b
 |0,steps,a,id,t,b,h=>by rw[rdT]at h;cases h
 |f+1,steps,a,id,t,b,h=>by
  rw[rdT]at h;cases q:dQ P a id with
  |false=>rw[CH (by rw[q];decide)]at h;cases h
  |true=>
   rw[B4 q]at h;obtain⟨H,C,K,L⟩:=fO.1 q;have w:=(p.ok id H).2;have J:=p.len id;by_cases i:P.kd id=2
   ·rw[B4 i]at h;by_cases B:a.tall<0\/a.tall=steps
    ·rw[B4 B]at h;obtain⟨es,l,d⟩:=xc.1 h;by_cases g:es.isEmpty=true
     ·rw[B4 g]at d;cases d
     ·rw[CH g]at d;cases d;have D:=qX _ _ es t6 l;exact⟨by rw[full];simpa using g,rfl,by rw[smT];omega,fun k i=>by
       rw[aQ]at i;obtain⟨e,g,rfl⟩:=x7.1 i;exact D.2 e g,fun x hx=>by rw[ar]at hx;simp at hx;subst hx;exact⟨C,w⟩,by simp[ar]⟩
    ·rw[CH B]at h;cases h
   ·rw[CH i]at h;obtain⟨ls,l,d⟩:=xc.1 h;obtain⟨y,F,n⟩:=x5.1 d;cases n;have I:=qU l;have c:=l;unfold inP at c;by_cases n:4<=(P.bd id).length
    ·rw[B4 n]at c;obtain⟨r,E,v⟩:=x5.1 c;have D:=vX _ _ r t6 E;have k:=vY (P:=P) (N:=N) (fun a id t b h=>iW p f (steps+1) a id t b h) ls true ⟨id::a.seen,a.tall⟩ y.1 y.2 (fun m G z=>by
      subst v;cases m with
      |zero=>exact absurd (G rfl) (Nat.lt_irrefl _)
      |succ m=>
       have A:m<r.length:=by simpa using z
       have:=D r[m] (za _);simpa [List.getD,List.getElem?_eq_getElem A]using this) F
     refine⟨?_,rfl,⟨by rw[k.len];omega,k.sm⟩,k.keys,fun x hx=> ?_,?_⟩
     ·rw[full];refine⟨?_,k.full⟩;have j:=k.len;have o:=k.isT;cases u:y.1 with
      |cons s t r=>exact⟨s,t,r,rfl⟩
      |nil=>rw[u]at j;subst v;simp[aC]at j
      |leaf _ _=>rw[u]at o;simp[Go.Proofs.YtglbanolhhjjiaaGreatDoor.isT]at o
      |node _ _=>rw[u]at o;simp[Go.Proofs.YtglbanolhhjjiaaGreatDoor.isT]at o
     ·rw[ar,w3]at hx;rcases hx with rfl|hx
      ·exact⟨C,w⟩
      ·exact k.pgs x hx
     ·rw[ar];have:=k.seen;exact this.trans vo
    ·rw[CH n]at c;cases c
def mkd(sn:List Int)(N:Nat):List Int:=((List.range N).filter fun(i:Nat)=>sn.contains (i:Int)).map fun(i:Nat)=>(i:Int)
theorem DU(sn j):mkd sn (j+1)=if sn.contains (j:Int)=true then mkd sn j++[(j:Int)]else mkd sn j:=by
 unfold mkd;rw[List.range_succ,List.filter_append,AF];by_cases h:sn.contains (j:Int)=true
 ·rw[B4 h,List.filter_cons_of_pos (by exact h)];rfl
 ·rw[CH h,List.filter_cons_of_neg (by exact h)];simp
theorem oe(sn N):(mkd sn N).length<=N:=by
 unfold mkd;rw[y2];have:=List.length_filter_le (fun(i:Nat)=>sn.contains (i:Int)) (List.range N);simpa using this
theorem fU(e B)(w:World)(a:B<=w.1.size):Own1 e B (w.alloc (.cells #[] e)) (some ⟨w.1.size,0,none⟩) 0 0 []:=td e 1 B w a (fun _=>[])
theorem og(B mb N sn w)(P:N<=1048576)(C:Own1 4 B w (some ⟨mb,0,none⟩) N N (mkB sn N)):
 Calls prog 68 #[.slice (some ⟨mb,0,none⟩) N N] w fun e w'=> ∃a c,e= .returned (.slice a (mkd sn N).length c)/\Below w.1.size w w'/\Own1 3 w.1.size w' a (mkd sn N).length c (on (mkd sn N)):=by
 have r:Hid (∀u,Below w.1.size w u->Own1 4 B u (some ⟨mb,0,none⟩) N N (mkB sn N)):=fun u L=>C.below L;have G:=bAl w (.cells #[] 3);have q:=uv G (fU 3 w.1.size w t6);clear C G;go_enter func68,ntmps68;go_upto_region 2 with fail
 generalize w.alloc (.cells #[] 3)=S at*;go_wp2_with fail;go_loopw [3,4] (fun s x wr=> ∃(j:Nat)(a:Option Addr)(c:Nat)(b:List Int),x= .int .i64 (j:Nat)/\j<=N/\s= .slice a b.length c/\b=mkd sn j/\Below w.1.size w wr/\Own1 3 w.1.size wr a b.length c (on b)) (fun _ x _=>N-(intOf x).toNat)
 case atStart=>exact⟨0,_,0,[],rfl,wa _,rfl,rfl,q.out.1,q.out.2⟩
 case round=>
  obtain⟨j,a,c,b,rfl,Q,rfl,l,d,p⟩:=hrel;obtain⟨M,D⟩:=aa wr;subst D;have O:b.length<=j:=by rw[l];exact oe sn j
  have g:Hid _:=l;have k:=uv d p;clear l;by_cases m:j<N
  ·have o:(j:Int)< (N:Int):=uA;obtain⟨_,J,_,_,_,z⟩:=(r.out M d).at_ uA;cases J;have y:=(z j m).trans (C1 some (go sn N j m));have n:=DU sn j;have f:Hid _:=n;have E:=d.size;clear z d p n;cases i:sn.contains (j:Int)with
   |false=>
    rw[i]at y f;clear i;go_wp2_with fail;go_roundw
    case rel=>exact⟨j+1,a,c,b,by go_num,uA,rfl,by rw[f.out,g.out];rfl,k.out.1,k.out.2⟩
    case measure=>simp[intOf];omega
   |true=>
    rw[i]at y f;clear i;go_wp2_with (at_builtin;refine lN rfl _ _ co rfl w.1.size a b.length c (on b) rfl k.out.2 (.int .i64 (j:Nat)) rfl rfl uA uA E ?_);intro H I R F v K;have t:=uv (k.out.1.trans v) F;clear F v K;go_wp2_with fail;go_roundw
    case rel=>exact⟨j+1,H,I,b++[(j:Int)],by go_num,uA,vo,by rw[f.out,g.out];rfl,t.out.1,by rw[wb,<-fv];exact t.out.2⟩
    case measure=>simp[intOf];omega
  ·have A:j=N:=uA;subst A;have o:¬(j:Int)< (j:Int):=uA;clear d p;go_wp2_with fail;go_ret;exact⟨a,c,by rw[<-g.out];rfl,k.out.1,by rw[<-g.out];exact k.out.2⟩
def mOk(M:Nat):List Int->List Int->Bool
 |[],_=>true
 |x::ls,sn=>if x<2\/(M:Int)<=x\/sn.contains x=true then false else mOk M ls (x::sn)
theorem DW{M}{ls:List Int}{j}(a:j<ls.length)(sn):mOk M (ls.drop j) sn=if ls.getD j 0<2\/(M:Int)<=ls.getD j 0\/sn.contains (ls.getD j 0)=true then false else mOk M (ls.drop (j+1)) (ls.getD j 0::sn):=by
 rw[yv a,mOk];simp[List.getD,List.getElem?_eq_getElem a]
theorem qY(B J mb M sn ls a c w)(ad:M<=1048576)(Z:ls.length<=1048576)(E:Own1 4 B w (some ⟨mb,0,none⟩) M M (mkB sn M))(O:Own1 3 J w a ls.length c (on ls)):
 Calls prog 67 #[.slice (some ⟨mb,0,none⟩) M M,.slice a ls.length c] w fun e w'=>e= .returned (.bool (mOk M ls sn))/\OnlyB mb w w'/\(mOk M ls sn=true->Own1 4 B w' (some ⟨mb,0,none⟩) M M (mkB (ls.reverse++sn) M)):=by
 obtain⟨_,S,t⟩:=E.blk;have R:Hid (∀u,OnlyB mb w u->Own1 3 J u a ls.length c (on ls)):=fun u X=>O.keep (cx X t uB);generalize q:mOk M ls sn=d at*;have k:Hid _:=q;have K:Hid _:=E;clear E O t q;go_enter func67,ntmps67;go_wp2_with fail;go_loopw [5] (fun x wr=> ∃j:Nat,x= .int .i64 (j:Nat)/\j<=ls.length/\OnlyB mb w wr/\mOk M ls sn=mOk M (ls.drop j) ((ls.take j).reverse++sn)/\Own1 4 B wr (some ⟨mb,0,none⟩) M M (mkB ((ls.take j).reverse++sn) M)) (fun x _=>ls.length-(intOf x).toNat)
 case atStart=>exact⟨0,rfl,wa _,OnlyB.refl _ _,rfl,K.out⟩
 case round=>
  obtain⟨j,rfl,ae,F,v,b⟩:=hrel;obtain⟨I,P⟩:=aa wr;subst P;have p:=R.out I F;have f:=uv F v;clear F v;by_cases m:j<ls.length
  ·have D:(j:Int)< (ls.length:Int):=uA;obtain⟨af,rfl,_,_,_,y⟩:=p.at_ uA;have ab:=(y j m).trans (C1 some (cF ls j m));have A:=DW (M:=M) m ((ls.take j).reverse++sn);have l:Hid _:=A;have C:(ls.take (j+1)).reverse++sn=ls.getD j 0::((ls.take j).reverse++sn):=by
    have e:ls.take (j+1)=ls.take j++[ls.getD j 0]:=by rw[A6];simp[List.getD,List.getElem?_eq_getElem m]
    rw[e,List.reverse_append]
    rfl
   have s:Hid _:=C;clear y p A C;generalize (ls.take j).reverse++sn=H at*;generalize ls.getD j 0=x at*;by_cases U:x<2
   ·have g:Hid (d=false):=by show d=false;rw[<-k.out,f.out.2,l.out,B4 (v7 U)]
    clear b;go_wp2_with fail;go_ret;exact⟨by rw[g.out];rfl,f.out.1,fun h=>by rw[g.out]at h;cases h⟩
   by_cases V:(M:Int)<=x
   ·have g:Hid (d=false):=by show d=false;rw[<-k.out,f.out.2,l.out,B4 (v6 (v7 V))]
    clear b;go_wp2_with fail;go_ret;exact⟨by rw[g.out];rfl,f.out.1,fun h=>by rw[g.out]at h;cases h⟩
   obtain⟨r,rfl⟩:=x2 (show 0<=x by omega);have n:r<M:=uA;obtain⟨_,T,_,_,_,z⟩:=b.at_ uA;cases T;have N:=(z r n).trans (C1 some (go H M r n));have ac:=b.free r;have Y:(r:Int)< (M:Int):=uA;clear z;cases i:H.contains (r:Int)with
   |true=>
    have g:Hid (d=false):=by show d=false;rw[<-k.out,f.out.2,l.out,B4 (v6 (v6 i))]
    rw[i]at N;clear b i;go_wp2_with fail;go_ret;exact⟨by rw[g.out];rfl,f.out.1,fun h=>by rw[g.out]at h;cases h⟩
   |false=>
    have W:Hid (mOk M ls sn=mOk M (ls.drop (j+1)) ((r:Int)::H)):=by
     show mOk M ls sn= _;rw[f.out.2,l.out,CH (by rw[i];simp;omega)]
    rw[i]at N;have G:=b.set r (.bool true);rw[iT _ _ _ n]at G;have L:=uv (f.out.1.trans (ax I mb r (.bool true))) G;clear b i G;go_wp2_with fail;go_roundw
    case rel=>exact⟨j+1,by go_num,uA,L.out.1,by rw[s.out];exact W.out,by rw[s.out];exact L.out.2⟩
    case measure=>simp[intOf];omega
  ·have o:j=ls.length:=uA;have D:¬(j:Int)< (ls.length:Int):=uA;have g:Hid (d=true):=by
    show d=true;rw[<-k.out,f.out.2,o,List.drop_length]
    rfl
   have Q:Hid (Own1 4 B I (some ⟨mb,0,none⟩) M M (mkB (ls.reverse++sn) M)):=by
    show Own1 _ _ _ _ _ _ _;rw[o,ya]at b;exact b
   clear b p o;go_wp2_with fail;go_ret;exact⟨by rw[g.out];rfl,f.out.1,fun _=>Q.out⟩
abbrev En:=ByteArray×ByteArray
abbrev Kd:=ByteArray×Tr
def en0:En:=(strOfNums [],strOfNums [])
def eSz(e:En):Nat:=2+e.1.size+e.2.size
def lSz(es:List En):Nat:=(es.map eSz).sum
def gSz(s:ByteArray):Nat:=5+s.size
def nSz(ss:List ByteArray):Nat:=4+(ss.map gSz).sum
def sgs(L:List Kd):List ByteArray:=L.tail.map (·.1)
def kds(L:List Kd):Tr:=dw L .nil
def szT:Tr->Nat
 | .leaf _ es=>lSz es
 | .node _ ks=>nSz (sgs (aC ks))
 |_=>0
theorem ct:∀L:List Kd,aC (kds L)=L
 |[]=>rfl
 |x::L=>by have:=ct L;unfold kds at*;rw[dw,aC,this]
def plc(k:ByteArray)(ks:List ByteArray):Nat:=(ks.takeWhile (fun x=>sl x k)).length
def iD(k:ByteArray)(ss:List ByteArray):Nat:=(ss.takeWhile (fun x=>sle x k)).length
theorem qZ(k ks):plc k ks<=ks.length:=List.Sublist.length_le (List.takeWhile_sublist _)
theorem vZ(k ks):iD k ks<=ks.length:=List.Sublist.length_le (List.takeWhile_sublist _)
def il(k:ByteArray)(ks:List ByteArray):Bool:=decide (plc k ks<ks.length)&&((ks.getD (plc k ks) (strOfNums [])).toList==k.toList)
def fp(k v:ByteArray)(es:List En):List En:=
 let p:=plc k (es.map (·.1))
 es.take p++(k,v)::es.drop (if il k (es.map (·.1))then p+1 else p)
def ra(k:ByteArray)(es:List En):List En:=es.eraseIdx (plc k (es.map (·.1)))
def ctE:Nat->List En->Nat
 |_,[]=>0
 |a,e::es=>if a+eSz e<=240 then 1+ctE (a+eSz e) es else 0
def ctS:Nat->List ByteArray->Nat
 |_,[]=>0
 |a,s::ss=>if 2<=ss.length/\a+gSz s<=240 then 1+ctS (a+gSz s) ss else 0
def ctL(es:List En):Tr×Option Kd:=if 240<lSz es then(.leaf 0 (es.take (ctE 0 es)),some ((es.getD (ctE 0 es) en0).1,.leaf 0 (es.drop (ctE 0 es))))else(.leaf 0 es,none)
def ctN(L:List Kd):Tr×Option Kd:=
 let m:=ctS 4 (sgs L)+1
 if 240<nSz (sgs L)then(.node 0 (kds (L.take m)),some ((L.getD m t0).1,.node 0 (kds (L.drop m))))else(.node 0 (kds L),none)
def kid(k:ByteArray)(L:List Kd):Nat:=iD k (sgs L)
def dh(k v:ByteArray):Nat->Tr->Tr×Option Kd
 |n+1,.node _ ks=>
  let L:=aC ks
  let p:=kid k L
  let r:=dh k v n (L.getD p t0).2
  ctN (L.take p++((L.getD p t0).1,r.1)::(r.2.toList++L.drop (p+1)))
 |_,.leaf _ es=>ctL (fp k v es)
 |_,t=>(t,none)
def eP(k:ByteArray):Nat->Tr->Bool
 |n+1,.node _ ks=>eP k n ((aC ks).getD (kid k (aC ks)) t0).2
 |_,.leaf _ es=>il k (es.map (·.1))
 |_,_=>false
def bare:Tr->Bool
 | .leaf _ es=>es.isEmpty
 | .node _ ks=>(aC ks).isEmpty
 |_=>true
def kx(s:ByteArray):List Kd->List Kd
 |[]=>[]
 |x::L=>(s,x.2)::L
def dL:Tr->ByteArray->Tr->Tr
 | .leaf _ a,_,.leaf _ b=> .leaf 0 (a++b)
 | .node _ a,s,.node _ b=> .node 0 (kds (aC a++kx s (aC b)))
 |t,_,_=>t
def fE(L:List Kd)(p:Nat):List Kd:=
 let c:=(L.getD p t0).2
 let q:=max p 1
 let j:=dL (L.getD (q-1) t0).2 (L.getD q t0).1 (L.getD q t0).2
 if bare c then L.eraseIdx p else if 60<=szT c\/L.length<2 then L else if 240<szT j then L else(L.set (q-1) ((L.getD (q-1) t0).1,j)).eraseIdx q
def bN(k:ByteArray):Nat->Tr->Tr
 |n+1,.node _ ks=>
  let L:=aC ks
  let p:=kid k L
  .node 0 (kds (fE (L.set p ((L.getD p t0).1,bN k n (L.getD p t0).2)) p))
 |_,.leaf _ es=> .leaf 0 (ra k es)
 |_,t=>t
def dM:Nat->Tr->Nat×Tr
 |n+1,.node id ks=>match aC ks with
  |[x]=>dM n x.2
  |_=>(n+1,.node id ks)
 |n,t=>(n,t)
abbrev OTr:=Option (Nat×Tr)
def chg(k v:ByteArray)(d:Bool):OTr->OTr×Bool
 |none=>if d then(none,false)else(some (0,.leaf 0 [(k,v)]),true)
 |some (n,t)=>
  if d then(if eP k n t then(if bare (bN k n t)then none else some (dM n (bN k n t)),true)else(some (n,t),false))
  else match dh k v n t with
   |(u,none)=>(some (n,u),true)
   |(u,some x)=>(some (n+1,.node 0 (kds [(strOfNums [],u),x])),true)
def wf:Nat->Tr->Prop
 |0,.leaf _ es=>es≠[]/\(∀e∈es,1<=e.1.size/\e.1.size<=40/\e.2.size<=70)/\lSz es<=240
 |n+1,.node _ ks=> ∃L:List Kd,ks=kds L/\L≠[]/\(∀x∈L,wf n x.2)/\(∀s∈sgs L,1<=s.size/\s.size<=40)/\nSz (sgs L)<=240
 |_,_=>False
