import Derived.Test.YtglbanolhhjjiaaGreatDoorFo3
namespace Go.Proofs.YtglbanolhhjjiaaGreatDoor
open Go.Proofs.Tryz
open Go.RowKit
set_option linter.unusedVariables false
set_option maxRecDepth 100000
set_option maxHeartbeats 32000000
theorem nl(m)(a:m<=6):(256:Int)^m<=281474976710656:=by
 have k:∀m:Fin 7,(256:Int)^(m:Nat)<=281474976710656:=uv;exact k ⟨m,t7⟩
theorem lQ(a n c l w)(d:Bs w a n c l)(E:n<=6):
 Calls prog 108 #[.slice a n c] w fun e w'=>e= .returned (.int .i64 (low l))/\w'=w:=by
 have g:Hid (∀k,0<=low (l.drop k)/\low (l.drop k)<=281474976710656):=fun k=>by
  have p:=gX (j0 d.byte k);have q:(l.drop k).length<=6:=by rw[vk,d.len_eq];omega
  have C:=nl _ q;exact⟨p.1,t7⟩
 have h:Hid (low (l.drop n)=0):=by
  have:l.drop n=[]:=by rw[y3,d.len_eq];exact t1
  show low (l.drop n)=0;rw[this];rfl
 go_enter func108,ntmps108;go_wp2
 go_loop [3,4] (fun v i=> ∃j:Nat,j<=n/\i= .int .i64 ((j:Int)-1)/\v= .int .i64 (low (l.drop j))) (fun _ i=>(intOf i+1).toNat)
 case atStart=>exact⟨n,t1,rfl,by rw[h.out]⟩
 case round=>
  obtain⟨j,D,rfl,rfl⟩:=hrel;by_cases B:0<j
  ·obtain⟨b,A,rfl,t,f⟩:=d.at_ t7;obtain⟨i,rfl⟩:∃i,j=i+1:=⟨j-1,t7⟩;have u:=f i t7;have s:=d.byte i;have m:Hid _:=mZ l i (by rw[d.len_eq];omega);have r:=g.out (i+1);have o:((i+1:Nat):Int)-1=(i:Int):=t7;rw[o];have x:(0:Int)<=(i:Int):=t7;have z:(i:Int)< (n:Int):=t7;generalize low (l.drop (i+1))=F at*;generalize l.getD i 0=y at*;clear f d;go_wp2
   go_round
   case rel=>exact⟨i,t7,by go_num,by rw[m.out];congr 1;omega⟩
   case measure=>simp[intOf]
  ·have e:j=0:=t7;subst e;go_wp2;go_ret;exact⟨rfl,rfl⟩
theorem Av(a b:Nat)(c:a<281474976710656)(d:b<256):bits .or .i64 ((a:Int)*256) (b:Int)=(a:Int)*256+b:=by
 rw[show(a:Int)*256=((a*256:Nat):Int)by omega,show((a*256:Nat):Int)+(b:Int)=((a*256+b:Nat):Int)by omega];have e:a*256|||b=a*256+b:=by
  have:=Nat.shiftLeft_add_eq_or_of_lt (i:=8) (b:=b) t7 a;rw[Nat.shiftLeft_eq]at this;exact this.symm
 show IntKind.i64.wrap ((BitVec.ofInt 64 ((a*256:Nat):Int)|||BitVec.ofInt 64 (b:Int)).toNat:Int)= _;rw[BitVec.toNat_or,ofInt_u64 (a*256) t7,ofInt_u64 b t7,e];simp[IntKind.wrap,IntKind.bits,IntKind.signed];omega
theorem iO(a n c l w)(d:Bs w a n c l)(I:n<=6):
 Calls prog 121 #[.slice a n c] w fun e w'=>e= .returned (.int .i64 (low l))/\w'=w:=by
 have o:Hid (∀k,0<k->0<=low (l.drop k)/\low (l.drop k)<281474976710656):=fun k H=>by
  have t:=gX (j0 d.byte k);by_cases J:k<n
  ·have E:(l.drop k).length<=5:=by rw[vk,d.len_eq];omega
   have F:=nl _ (show(l.drop k).length<=6 by omega);exact⟨t.1,t7⟩
  ·have:l.drop k=[]:=by rw[y3,d.len_eq];omega
   rw[this];simp[low]
 have p:Hid (low (l.drop n)=0):=by
  have:l.drop n=[]:=by rw[y3,d.len_eq];exact t1
  show low (l.drop n)=0;rw[this];rfl
 go_enter func121,ntmps121;go_wp2
 go_loop [3,4] (fun v i=> ∃j:Nat,j<=n/\i= .int .i64 ((j:Int)-1)/\v= .int .i64 (low (l.drop j))) (fun _ i=>(intOf i+1).toNat)
 case atStart=>exact⟨n,t1,rfl,by rw[p.out]⟩
 case round=>
  obtain⟨j,G,rfl,rfl⟩:=hrel;by_cases D:0<j
  ·obtain⟨b,C,rfl,u,h⟩:=d.at_ t7;obtain⟨i,rfl⟩:∃i,j=i+1:=⟨j-1,t7⟩;have z:=h i t7;have g:=d.byte i;have r:Hid _:=mZ l i (by rw[d.len_eq];omega);have f:=o.out (i+1) t7;have s:((i+1:Nat):Int)-1=(i:Int):=t7;rw[s];have A:(0:Int)<=(i:Int):=t7;have B:(i:Int)< (n:Int):=t7;generalize low (l.drop (i+1))=K at*;generalize l.getD i 0=y at*;obtain⟨x,rfl⟩:=xb f.1;obtain⟨y,rfl⟩:=xb g.1;have m:=Av x y t7 t7;clear h d;have q:Hid _:=m;clear m;go_wp2
   go_round
   case rel=>exact⟨i,t7,by go_num,by rw[r.out,q.out];congr 1;omega⟩
   case measure=>simp[intOf]
  ·have e:j=0:=t7;subst e;go_wp2;go_ret;exact⟨rfl,rfl⟩
theorem tY{l m:List Int}(c:l.length=m.length)(d:∀i,i<l.length->l.getD i 0=m.getD i 0):l=m:=by
 apply List.ext_getElem c;intro i a b;have:=d i a;simpa [List.getD_eq_getElem?_getD,a,b]using this
theorem Aw(a b n m G H l k w)(u:Bs w a n G l)(d:Bs w b m H k):
 Calls prog 105 #[.slice a n G,.slice b m H] w fun e w'=>e= .returned (.bool (decide (l=k)))/\Below w.1.size w w':=by
 have I:n<=maxLen:=u9 u.le u.le';have J:m<=maxLen:=u9 d.le d.le';unfold maxLen at I J;by_cases t:n=m
 case neg=>
  have K:((n:Int) !=(m:Int))=true:=by simp;omega
  rw[show decide (l=k)=false from B1 (fun e=>t (by rw[<-u.len_eq,<-d.len_eq,e]))];go_enter func105,ntmps105;go_wp2;go_ret;exact⟨rfl,t2⟩
 subst t;have K:((n:Int) !=(n:Int))=false:=by simp
 have O:Hid ((∀i,i<n->l.getD i 0=k.getD i 0)->decide (l=k)=true):=fun Q=>B2 (tY (by rw[u.len_eq,d.len_eq]) (fun i c=>Q i (by rw[u.len_eq]at c;exact c)));have N:Hid (∀i,l.getD i 0≠k.getD i 0->decide (l=k)=false):=fun i c=>B1 (fun e=>c (by rw[e]));go_enter func105,ntmps105;go_wp2;go_loopw [5] (fun i wr=> ∃j:Nat,j<=n/\i= .int .i64 j/\Below w.1.size w wr/\∀i,i<j->l.getD i 0=k.getD i 0) (fun i _=>n-(intOf i).toNat)
 case atStart=>exact⟨0,u6 _,rfl,t2,fun i c=>absurd c t7⟩
 case round=>
  obtain⟨j,V,rfl,g,f⟩:=hrel;have A:Hid _:=f;clear f;by_cases s:j<n
  ·obtain⟨E,h,rfl,v,q⟩:=u.at_ t7;obtain⟨F,o,rfl,z,r⟩:=d.at_ t7;have W:wr.cell? ⟨E,h+j,none⟩=some (.int .u8 (l.getD j 0)):=by rw[g.cell (p:=⟨E,h+j,none⟩) v];exact q j s
   have X:wr.cell? ⟨F,o+j,none⟩=some (.int .u8 (k.getD j 0)):=by rw[g.cell (p:=⟨F,o+j,none⟩) z];exact r j s
   have R:(0:Int)<=(j:Int):=t7;have S:(j:Int)< (n:Int):=t7;have B:Hid _:=g;clear q r u d g;generalize hx:l.getD j 0=x at*;generalize L:k.getD j 0=y at*;have C:Hid _:=hx;have D:Hid _:=L;clear hx L;by_cases e:x=y
   ·subst e;have T:(x !=x)=false:=by simp
    go_wp2_with fail;go_region
    all_goals
     go_wp2;go_roundw
     case rel=>
      refine⟨j+1,t7,by go_num,B.out.drew,fun i c=> ?_⟩;by_cases e:i=j
      ·subst e;rw[C.out,D.out]
      ·exact A.out i t7
     case measure=>simp[intOf];omega
   ·have U:(x !=y)=true:=by simp[e]
    have M:Hid (decide (l=k)=false):=N.out j (by rw[C.out,D.out];exact e);clear e;go_wp2_with fail;go_region
    all_goals
     go_wp2;go_ret;exact⟨by rw[M.out];rfl,B.out.drew⟩
  ·have e:j=n:=t7;subst e;have P:Hid (decide (l=k)=true):=O.out A.out;go_wp2;go_ret;exact⟨by rw[P.out];rfl,g⟩
def iP(l:List Int):Bool:=decide (l=List.replicate l.length 0)
theorem tZ(a n c l w)(k:Bs w a n c l):
 Calls prog 177 #[.slice a n c] w fun e w'=>e= .returned (.bool (iP l))/\w'=w:=by
 have o:=u9 k.le k.le';unfold maxLen at o;have r:Hid ((∀i,i<n->l.getD i 0=0)->iP l=true):=fun u=>B2 (tY uB (fun i b=>by rw[k.len_eq]at b;rw[u i b];simp[List.getD_eq_getElem?_getD,List.getElem?_replicate];split<;>rfl));have q:Hid (∀i,l.getD i 0≠0->iP l=false):=fun i b=>B1 (fun e=>b (by rw[e];simp[List.getD_eq_getElem?_getD,List.getElem?_replicate];split<;>rfl));go_enter func177,ntmps177;go_wp2
 go_loop [4,7] (fun _ i=> ∃j:Nat,j<=n/\i= .int .i64 j/\∀i,i<j->l.getD i 0=0) (fun _ i=>n-(intOf i).toNat)
 case atStart=>exact⟨0,u6 _,rfl,fun i b=>absurd b t7⟩
 case round=>
  obtain⟨j,C,rfl,d⟩:=hrel;have g:Hid _:=d;clear d;by_cases m:j<n
  ·obtain⟨B,v,rfl,t,f⟩:=k.at_ t7;have D:=f j m;have y:(0:Int)<=(j:Int):=t7;have z:(j:Int)< (n:Int):=t7;clear f k;generalize hx:l.getD j 0=x at*;have h:Hid _:=hx;clear hx;by_cases e:x=0
   ·subst e;go_wp2
    go_round
    case rel=>
     refine⟨j+1,t7,by go_num,fun i b=> ?_⟩;by_cases e:i=j
     ·subst e;exact h.out
     ·exact g.out i t7
    case measure=>simp[intOf];omega
   ·have A:(x !=0)=true:=by simp[e]
    have p:Hid (iP l=false):=q.out j (by rw[h.out];exact e);clear e;go_wp2;go_ret;exact⟨by rw[p.out];rfl,rfl⟩
  ·have e:j=n:=t7;subst e;have s:Hid (iP l=true):=r.out g.out;go_wp2;go_ret;exact⟨by rw[s.out];rfl,rfl⟩
def di(id0:Int)(rest:List (ByteArray×Int)):NdK:=⟨0,false,[],[],id0::rest.map (·.2),rest.map (·.1)⟩
def inK(ls:List (ByteArray×Int)):NdK:=⟨0,false,[],[],ls.map (·.2),ls.tail.map (·.1)⟩
theorem Ax(s a rest):inK ((s,a)::rest)=di a rest:=by simp[inK,di]
theorem Ay(a n c l w)(bn:Bs w a n c l)(cL:n<=1048576):
 Calls prog 141 #[.slice a n c] w fun e w'=> ∃v K bX,e= .returned (.tuple #[.agg (ndc v K).toArray,.bool bX])/\Below w.1.size w w'/\ONd w.1.size w' v K/\
  ((bX=true/\∃ls,inP l=some ls/\K=inK ls)\/(bX=false/\inP l=none)):=by
 have af:=bn.len_eq;have Q:Hid (∀u,Below w.1.size w u->Bs u a n c l):=fun u b=>bn.below b;have b7:=bn.byte;have cn:=bn.le;have b9:=bn.le';unfold maxLen at b9;have cg:=(aq w 176 (ndc aF ⟨0,false,[],[],[],[]⟩).toArray).below (t2.alloc t1 (.cells (ndc aF ⟨0,false,[],[],[],[]⟩).toArray 176));have bY:=aq (w.alloc (.cells (ndc aF ⟨0,false,[],[],[],[]⟩).toArray 176)) 176 (ndc aF ⟨0,false,[],[],[],[]⟩).toArray;have cj:(w.alloc (.cells (ndc aF ⟨0,false,[],[],[],[]⟩).toArray 176)).1.size=w.1.size+1:=by simp
 rw[cj]at bY;have ae:LS w (w.1.size+1) aF ⟨0,false,[],[],[],[]⟩ ((w.alloc (.cells (ndc aF ⟨0,false,[],[],[],[]⟩).toArray 176)).alloc (.cells (ndc aF ⟨0,false,[],[],[],[]⟩).toArray 176)):=
  ⟨fK w _ _,cg,bY,t7,tU _ _ _ _,fun _ e=>by cases e⟩
 have d:Hid _:=ae;clear ae cg bY cj bn;go_enter func141,ntmps141;go_upto_region 2 with fail
 change Code.wp _ _ _ _ ((w.alloc (.cells (ndc aF ⟨0,false,[],[],[],[]⟩).toArray 176)).alloc (.cells (ndc aF ⟨0,false,[],[],[],[]⟩).toArray 176));generalize (w.alloc (.cells (ndc aF ⟨0,false,[],[],[],[]⟩).toArray 176)).alloc (.cells (ndc aF ⟨0,false,[],[],[],[]⟩).toArray 176)=bT at*;generalize ce:w.1.size+1=h at*;clear ce;by_cases cA:(n:Int)<4
 ·obtain⟨v,aA⟩:=aa aF;rw[<-aA]at d;clear aA;have z:inP l=none:=by unfold inP;rw[BX t7]
  have M:Hid _:=z;clear z;have ak:=d.out.blk;have L:=d.out.res;have ag:=L.setRow (ndc v ⟨0,false,[],[],[],[]⟩);go_wp2_with (first|(refine BD rfl 176 _ rfl h rfl 176 (ndc v ⟨0,false,[],[],[],[]⟩).toArray (0,0) _ ak underlying176 rfl aD ?_)|(refine BO rfl 176 _ _ rfl w.1.size (ndc v ⟨0,false,[],[],[],[]⟩).toArray rfl rfl 176 _ L aD rfl (cy _ _) ?_));refine BB (v:= .tuple #[.agg (ndc v ⟨0,false,[],[],[],[]⟩).toArray,.bool false]) ?_ rfl ⟨v,⟨0,false,[],[],[],[]⟩,false,rfl,d.out.fin.1,d.out.fin.2,u4 ⟨rfl,M.out⟩⟩;exact cI results141 _ _ w.1.size 176 (ndc v ⟨0,false,[],[],[],[]⟩).toArray _ rfl ag underlying176 rfl aD rfl
 have b5:4<=n:=t7;obtain⟨b,B,rfl,_,_⟩:=(Q.out bT d.out.bel).at_ t7;have R:Hid (∀u,Below w.1.size w u->Calls prog 108 #[.slice (some ⟨b,B,none⟩) 4 c] u fun e w'=>e= .returned (.int .i64 (low (l.take 4)))/\w'=u):=fun u A=>by
  have:=(Q.out u A).piece 0 4 t7 c t7 (by unfold maxLen;omega);rw[wR,List.drop_zero]at this;exact lQ _ 4 _ _ u this t7
 obtain⟨f,bd⟩:=cO (low (l.take 4));rw[bd]at R;have b0:Hid _:=bd;clear bd;go_upto_region 4 with fail
 obtain⟨m,G⟩:∃m:List Int,m=[]:=⟨_,rfl⟩;have an:m.length<=4:=by rw[G];exact u6 _
 rw[show(⟨0,false,[],[],[],[]⟩:NdK)=⟨0,false,[],[],m,[]⟩by rw[G]]at d;have bZ:Hid _:=G;clear G;have U:(4:Int)<=(c:Int):=t7;have bC:=bDr bT;have p:=d.out.below bC;refine az (fun u=>u.cell? ⟨h,4,none⟩=some (.slice none m.length 0)) (fun k=>decide (6<=k)) uA ?_;generalize bT.drew=D at*;have cs:D.cell? ⟨h,4,none⟩=some (.slice none m.length 0):=p.blk.cell 4;have aS:=R.out D p.bel;have ab:=bAl D (.cells #[.int .i64 f] 3);have t:=p.below ab;have T:(D.alloc (.cells #[.int .i64 f] 3)).cell? ⟨h,4,none⟩=some (.slice none m.length 0):=t.blk.cell 4;clear d bC;have d:Hid _:=p;have x:Hid _:=t;clear p t ab;refine ai 0 cs ?_;refine ai 1 cs ?_;refine ai 2 cs ?_;refine aM 3 (.slice (some ⟨b,B,none⟩) 4 c) cs ?hya3 ?_
 case hya3=>(intro w V;(try dsimp only at V);go_simp;first|done|(intro hx;exfalso;omega)|(rw[BC t7]))
 refine ah 4 fun o g=> ?_;go_wp2_with fail;refine aS.mono ?_;rintro e u ⟨rfl,A⟩;obtain rfl:=A.symm;clear A aS;go_wp2_with fail;refine ao g ?_;clear g o;refine ah 5 fun o g=> ?_;refine bU _ _ _ rfl (v:= .slice (some ⟨D.1.size,0,none⟩) 1 1) (w':=D.alloc (.cells #[.int .i64 f] 3)) ?bsa ?_
 case bsa=>
  simp only[wa,vo,v6];exact ey co (.int .i64 f) rfl D
 refine ao g ?_;clear g o;refine ah 6 fun o g=> ?_;refine je _ _ co rfl (h+1) none m.length 0 (on m) rfl d.out.own.kids (.int .i64 f) rfl rfl (by first|omega|(show 0<=1048576;omega)) t7 d.out.blk.lt ?_;intro ba a0 bl Y I F S;refine ao g ?_;clear g o;have Z:Own1 3 (h+1) bl (some ⟨ba,0,none⟩) (m++[f]).length a0 (on (m++[f])):=by rw[u7,<-fv];exact Y
 have X:KeepT 9 (D.alloc (.cells #[.int .i64 f] 3)) bl:=bD x.out.own.kids F uv;have H:=d.out.put (v':=⟨none,0,none,0,some ⟨ba,0,none⟩,a0,none,0⟩) (K':=⟨0,false,[],[],m++[f],[]⟩) I 4 (.slice (some ⟨ba,0,none⟩) (m.length+1) a0) (by first|(simp[ndc];done)|simp[ndc,aF]) ⟨cQ _ _ _,cQ _ _ _,Z,x.out.own.signs.keep X⟩ (fun _ e=>by cases e);have J:Blk bl 176 h _:=(I.block h (xc _)).trans d.out.blk;have aX:bl.cell? ⟨h,4,none⟩=some (.slice none m.length 0):=J.cell 4;have a1:=J.free 4;clear d x;have d:Hid _:=H;clear H J Y I F S Z X T;refine ah 7 fun o g=> ?_;go_wp2_with fail;refine ao g ?_;clear g o;refine ah 8 fun o g=> ?_;go_wp2_with fail;refine ao g ?_;clear g o;refine bi ?_;clear aX a1 cs;clear U R;generalize bl.setCell ⟨h,4,none⟩ (.slice (some ⟨ba,0,none⟩) (m.length+1) a0)=cr at*;rw[bZ.out,w4]at d;go_wp2_with fail;go_loopw [5] (fun i wr=> ∃(j:Nat)(O ac:Option Addr)(P ad:Nat)(rest:List (ByteArray×Int)),j<=n/\i= .int .i64 (j:Nat)/\rest.length<=j/\lnP (l.drop 4)=(lnP (l.drop j)).map (rest++ ·)/\LS w h ⟨none,0,none,0,O,P,ac,ad⟩ (di f rest) wr) (fun i _=>n-(intOf i).toNat)
 case atStart=>exact⟨4,some ⟨ba,0,none⟩,none,a0,0,[],b5,rfl,u6 _,uB,d.out⟩
 case round=>
  clear d;obtain⟨j,O,ac,P,ad,rest,cD,rfl,ca,bf,ae⟩:=hrel;obtain⟨v,aA⟩:∃v:NdV,v=⟨none,0,none,0,O,P,ac,ad⟩:=⟨_,rfl⟩;rw[<-aA]at ae;have cl:Hid _:=aA;clear aA;obtain⟨bx,cf⟩:=aa wr;subst cf;have N:Hid _:=bf;have d:Hid _:=ae;clear bf;by_cases cc:j<n
  ·have bW:(j:Int)< (n:Int):=t7;have aT:=Q.out bx ae.bel;obtain⟨_,_,bs,_,b8⟩:=aT.at_ t7;cases bs;have ck:Hid _:=aT;clear ae aT;obtain⟨k,cb,cp⟩:=qe b7 j;have b2:=b8 j cc;rw[cb]at b2;have b3:lfK (l.drop j)=k:=by unfold lfK;rw[qd,wR,cb];rfl
   have aB:Hid _:=b3;clear b3 b8;have an:(l.drop j).length=n-j:=by rw[vk,af]
   have am:Hid _:=an;clear an;go_upto_region 9 with fail
   clear b2;by_cases cB:j+5+k<=n
   ·have b6:(j:Int)+5+(k:Int)<=(n:Int):=t7;have cm:=j6 ck.out (j+1) k t7 (c-(j+1)) t7 (by unfold maxLen;omega);have b1:=p8 (strOfNums ((l.drop (j+1)).take k)) (by rw[B5,wv];omega) bx;generalize bc:strOfNums ((l.drop (j+1)).take k)=q at*;go_wp2_with fail;refine b1.mono ?_;rintro e u ⟨rfl,A⟩;obtain rfl:=A.symm;have bR:q.size=k:=by rw[<-bc,B5,wv,vk,af];omega
    rw[bR];have bB:Hid _:=bc;clear b1 A bc bR;by_cases g:1<=k/\k<=40
    ·rw[B2 g];have bk:=gJ.2 (by rw[aB.out,am.out];omega);have bs:cU (l.drop j)=q:=by rw[<-bB.out];unfold cU;rw[aB.out,wP]
     have z:lnP (l.drop 4)=(lnP (l.drop (j+5+k))).map ((rest++[(q,eg (l.drop (j+1+k)))])++ ·):=by
      rw[N.out,j4 bk,bs,aB.out,wP,wP,show j+(5+k)=j+5+k by omega,show j+(1+k)=j+1+k by omega,Option.map_map];congr 1;funext r;simp
     have M:Hid _:=z;have bz:Hid (∀u,Below w.1.size w u->(convert 56 9 (.slice (some ⟨b,B+(j+1),none⟩) k (c-(j+1)))).run prog u= .ok (.string q) u):=fun u A=>by
      rw[<-bB.out];exact j6 (Q.out u A) (j+1) k t7 (c-(j+1)) t7 (by unfold maxLen;omega)
     have R:Hid (∀u,Below w.1.size w u->Calls prog 108 #[.slice (some ⟨b,B+(j+1+k),none⟩) 4 (c-(j+1+k))] u fun e w'=>e= .returned (.int .i64 (eg (l.drop (j+1+k))))/\w'=u):=fun u A=>lQ _ 4 _ _ u ((Q.out u A).piece (j+1+k) 4 t7 (c-(j+1+k)) t7 (by unfold maxLen;omega)) t7;clear bk bs z cm;generalize eg (l.drop (j+1+k))=s at*;rw[cl.out]at d;have bP:di f rest=⟨0,false,[],[],f::rest.map (·.2),rest.map (·.1)⟩:=rfl;rw[bP]at d;generalize G:f::rest.map (·.2)=m at*;generalize bg:rest.map (·.1)=C at*;have bA:=t6 G bg;have an:m.length<=j+1:=by rw[<-G,wQ,x7];omega
     have cq:C.length<=j:=by rw[<-bg,x7];exact ca
     clear G bg bP;go_upto_region 11 with fail
     have a2:IntKind.i64.wrap ((j:Int)+1)=(j:Int)+1:=by simp[IntKind.wrap,IntKind.bits,IntKind.signed];omega
     have a3:IntKind.i64.wrap ((j:Int)+1+(k:Int))=(j:Int)+1+(k:Int):=by simp[IntKind.wrap,IntKind.bits,IntKind.signed];omega
     have a4:(0:Int)<=(j:Int)+1+(k:Int):=t7;have U:(j:Int)+1+(k:Int)<=(c:Int):=t7;have a5:(0:Int)<=(j:Int)+1:=t7;have a6:((j:Int)+1+(k:Int)).toNat=j+1+k:=t7;have a7:((j:Int)+1).toNat=j+1:=t7;have a8:¬c=j+1:=t7;have a9:(j:Int)+1<=max ((j:Int)+1+(k:Int)) 0:=t7;have bE:=bDr bx;have p:=d.out.below bE;refine az (fun u=>u.cell? ⟨h,5,none⟩=some (.slice ac C.length ad)/\(convert 56 9 (.slice (some ⟨b,B+(j+1),none⟩) k (c-(j+1)))).run prog u= .ok (.string q) u) (fun k=>decide (12<=k)) uA ?_;generalize bx.drew=y at*;have cs:y.cell? ⟨h,5,none⟩=some (.slice ac C.length ad)/\(convert 56 9 (.slice (some ⟨b,B+(j+1),none⟩) k (c-(j+1)))).run prog y= .ok (.string q) y:=⟨p.blk.cell 5,bz.out _ p.bel⟩;have ab:=bAl y (.cells #[.string q] 9);have t:=p.below ab;have T:(y.alloc (.cells #[.string q] 9)).cell? ⟨h,5,none⟩=some (.slice ac C.length ad)/\(convert 56 9 (.slice (some ⟨b,B+(j+1),none⟩) k (c-(j+1)))).run prog (y.alloc (.cells #[.string q] 9))= .ok (.string q) (y.alloc (.cells #[.string q] 9)):=⟨t.blk.cell 5,bz.out _ t.bel⟩;clear d bE;have d:Hid _:=p;have x:Hid _:=t;clear p t ab;refine aj 0 cs ?_;refine aj 1 cs ?_;refine aj 2 cs ?_;refine aj 3 cs ?_;refine aj 4 cs ?_;refine aj 5 cs ?_;refine aj 6 cs ?_;refine aj 7 cs ?_;refine aj 8 cs ?_;refine aM 9 (.slice (some ⟨b,B+(j+1),none⟩) k (c-(j+1))) cs ?hyp9 ?_
     case hyp9=>(intro w V;obtain⟨cv,cz⟩:=V;go_simp;first|done|(intro hx;exfalso;omega))
     refine aj 10 cs ?_;refine ah 11 fun o g=> ?_;refine bU _ _ _ rfl (v:= .slice (some ⟨y.1.size,0,none⟩) 1 1) (w':=(y.alloc (.cells #[.string q] 9))) ?bsp ?_
     case bsp=>
      simp only[wa,vo,v6];exact ey bM (.string q) rfl y
     refine ao g ?_;clear g o;refine ah 12 fun o g=> ?_;refine je _ _ bM rfl (h+1) ac C.length ad (os C) rfl d.out.own.signs (.string q) rfl rfl t7 t7 d.out.blk.lt ?_;intro bb ap bm Y I F S;refine ao g ?_;clear g o;have Z:Own1 9 (h+1) bm (some ⟨bb,0,none⟩) (C++[q]).length ap (os (C++[q])):=by rw[u7,<-jm];exact Y
     have X:KeepT 3 (y.alloc (.cells #[.string q] 9)) bm:=bD x.out.own.signs F uv;have H:=d.out.put (v':=⟨none,0,none,0,O,P,some ⟨bb,0,none⟩,ap⟩) (K':=⟨0,false,[],[],m,C++[q]⟩) I 5 (.slice (some ⟨bb,0,none⟩) (C.length+1) ap) (by simp[ndc]) ⟨cQ _ _ _,cQ _ _ _,x.out.own.kids.keep X,Z⟩ (fun _ e=>by cases e);have J:Blk bm 176 h _:=(I.block h (xc _)).trans d.out.blk;have aX:bm.cell? ⟨h,5,none⟩=some (.slice ac C.length ad):=J.cell 5;have a1:=J.free 5;clear d x;have d:Hid _:=H;clear H J Y I F S Z X T;refine ah 13 fun o g=> ?_;go_wp2_with fail;refine ao g ?_;clear g o;refine ah 14 fun o g=> ?_;go_wp2_with fail;refine ao g ?_;clear g o;refine bi ?_;clear aX a1 cs a2 a3 a4 U a5 a6 a7 a8 a9;go_upto_region 12 with fail
     generalize bm.setCell ⟨h,5,none⟩ (.slice (some ⟨bb,0,none⟩) (C.length+1) ap)=ch at*;generalize (some ⟨bb,0,none⟩:Option Addr)=bS at*;have a2:IntKind.i64.wrap ((j:Int)+1)=(j:Int)+1:=by simp[IntKind.wrap,IntKind.bits,IntKind.signed];omega
     have a3:IntKind.i64.wrap ((j:Int)+1+(k:Int))=(j:Int)+1+(k:Int):=by simp[IntKind.wrap,IntKind.bits,IntKind.signed];omega
     have a4:(0:Int)<=(j:Int)+5+(k:Int):=t7;have U:(j:Int)+5+(k:Int)<=(c:Int):=t7;have a5:(0:Int)<=(j:Int)+1+(k:Int):=t7;have a6:((j:Int)+5+(k:Int)).toNat=j+5+k:=t7;have a7:((j:Int)+1+(k:Int)).toNat=j+1+k:=t7;have a8:¬c=j+1+k:=t7;have a9:(j:Int)+1+(k:Int)<=max ((j:Int)+5+(k:Int)) 0:=t7;have b4:j+5+k-(j+1+k)=4:=t7;have bF:=bDr ch;have p:=d.out.below bF;refine az (fun u=>u.cell? ⟨h,4,none⟩=some (.slice O m.length P)) (fun k=>decide (11<=k)) uA ?_;generalize ch.drew=E at*;have cs:E.cell? ⟨h,4,none⟩=some (.slice O m.length P):=p.blk.cell 4;have aS:=R.out E p.bel;have ab:=bAl E (.cells #[.int .i64 s] 3);have t:=p.below ab;have T:(E.alloc (.cells #[.int .i64 s] 3)).cell? ⟨h,4,none⟩=some (.slice O m.length P):=t.blk.cell 4;clear d bF;have d:Hid _:=p;have x:Hid _:=t;clear p t ab;refine ai 0 cs ?_;refine ai 1 cs ?_;refine ai 2 cs ?_;refine ai 3 cs ?_;refine ai 4 cs ?_;refine ai 5 cs ?_;refine ai 6 cs ?_;refine ai 7 cs ?_;refine aM 8 (.slice (some ⟨b,B+(j+1+k),none⟩) 4 (c-(j+1+k))) cs ?hyq8 ?_
     case hyq8=>(intro w V;(try dsimp only at V);go_simp;first|done|(intro hx;exfalso;omega)|(rw[BC t7]))
     refine ah 9 fun o g=> ?_;go_wp2_with fail;refine aS.mono ?_;rintro e u ⟨rfl,A⟩;obtain rfl:=A.symm;clear A aS;go_wp2_with fail;refine ao g ?_;clear g o;refine ah 10 fun o g=> ?_;refine bU _ _ _ rfl (v:= .slice (some ⟨E.1.size,0,none⟩) 1 1) (w':=E.alloc (.cells #[.int .i64 s] 3)) ?bsq ?_
     case bsq=>
      simp only[wa,vo,v6];exact ey co (.int .i64 s) rfl E
     refine ao g ?_;clear g o;refine ah 11 fun o g=> ?_;refine je _ _ co rfl (h+1) O m.length P (on m) rfl d.out.own.kids (.int .i64 s) rfl rfl (by first|omega|(show 0<=1048576;omega)) t7 d.out.blk.lt ?_;intro bu br bv Y I F S;refine ao g ?_;clear g o;have Z:Own1 3 (h+1) bv (some ⟨bu,0,none⟩) (m++[s]).length br (on (m++[s])):=by rw[u7,<-fv];exact Y
     have X:KeepT 9 (E.alloc (.cells #[.int .i64 s] 3)) bv:=bD x.out.own.kids F uv;have H:=d.out.put (v':=⟨none,0,none,0,some ⟨bu,0,none⟩,br,bS,ap⟩) (K':=⟨0,false,[],[],m++[s],C++[q]⟩) I 4 (.slice (some ⟨bu,0,none⟩) (m.length+1) br) (by first|(simp[ndc];done)|simp[ndc,aF]) ⟨cQ _ _ _,cQ _ _ _,Z,x.out.own.signs.keep X⟩ (fun _ e=>by cases e);have J:Blk bv 176 h _:=(I.block h (xc _)).trans d.out.blk;have aX:bv.cell? ⟨h,4,none⟩=some (.slice O m.length P):=J.cell 4;have a1:=J.free 4;clear d x;have d:Hid _:=H;clear H J Y I F S Z X T;refine ah 12 fun o g=> ?_;go_wp2_with fail;refine ao g ?_;clear g o;refine ah 13 fun o g=> ?_;go_wp2_with fail;refine ao g ?_;clear g o;refine bi ?_;clear aX a1 cs;clear a2 a3 a4 U a5 a6 a7 a8 a9 b4;go_wp2;go_roundw
     case rel=>
      refine⟨j+5+k,some ⟨bu,0,none⟩,bS,br,ap,rest++[(q,s)],t7,by go_num,by rw[u7];show rest.length+1<=_;omega,M.out,?_⟩;have e:di f (rest++[(q,s)])=⟨0,false,[],[],m++[s],C++[q]⟩:=by rw[<-bA.out.1,<-bA.out.2];simp[di]
      rw[e];exact d.out
     case measure=>simp[intOf];omega
    ·rw[B1 g];have W:eJ (l.drop j)=false:=by
      cases bn:eJ (l.drop j)with
      |false=>rfl
      |true=>
       have:=gJ.1 bn;rw[aB.out]at this;exact absurd ⟨this.1,this.2.1⟩ g
     have z:inP l=none:=by unfold inP;rw[BC t7,N.out,ji (by rw[am.out];omega) W];rfl
     have M:Hid _:=z;clear z W;have ak:=d.out.blk;have L:=d.out.res;have ag:=L.setRow (ndc v (di f rest));go_wp2_with (first|(refine BD rfl 176 _ rfl h rfl 176 (ndc v (di f rest)).toArray (0,0) _ ak underlying176 rfl aD ?_)|(refine BO rfl 176 _ _ rfl w.1.size (ndc v (di f rest)).toArray rfl rfl 176 _ L aD rfl (cy _ _) ?_));refine BB (v:= .tuple #[.agg (ndc v (di f rest)).toArray,.bool false]) ?_ rfl ⟨v,(di f rest),false,rfl,d.out.fin.1,d.out.fin.2,u4 ⟨rfl,M.out⟩⟩;exact cI results141 _ _ w.1.size 176 (ndc v (di f rest)).toArray _ rfl ag underlying176 rfl aD rfl
   ·have b6:(n:Int)< (j:Int)+5+(k:Int):=t7;have W:eJ (l.drop j)=false:=by
     cases bn:eJ (l.drop j)with
     |false=>rfl
     |true=>
      have:=gJ.1 bn;rw[aB.out,am.out]at this;omega
    have z:inP l=none:=by unfold inP;rw[BC t7,N.out,ji (by rw[am.out];omega) W];rfl
    have M:Hid _:=z;clear z W;have ak:=d.out.blk;have L:=d.out.res;have ag:=L.setRow (ndc v (di f rest));go_wp2_with (first|(refine BD rfl 176 _ rfl h rfl 176 (ndc v (di f rest)).toArray (0,0) _ ak underlying176 rfl aD ?_)|(refine BO rfl 176 _ _ rfl w.1.size (ndc v (di f rest)).toArray rfl rfl 176 _ L aD rfl (cy _ _) ?_));refine BB (v:= .tuple #[.agg (ndc v (di f rest)).toArray,.bool false]) ?_ rfl ⟨v,(di f rest),false,rfl,d.out.fin.1,d.out.fin.2,u4 ⟨rfl,M.out⟩⟩;exact cI results141 _ _ w.1.size 176 (ndc v (di f rest)).toArray _ rfl ag underlying176 rfl aD rfl
  ·have e:j=n:=t7;subst e;have bW:¬(j:Int)< (j:Int):=t7;have z:inP l=some ((strOfNums [],f)::rest):=by
    unfold inP;rw[BC t7,N.out,gZ (by rw[vk,af];omega),<-b0.out];simp[eg]
   have M:Hid _:=z;clear z ae;have ak:=d.out.blk;have L:=d.out.res;have ag:=L.setRow (ndc v (di f rest));go_wp2_with (first|(refine BD rfl 176 _ rfl h rfl 176 (ndc v (di f rest)).toArray (0,0) _ ak underlying176 rfl aD ?_)|(refine BO rfl 176 _ _ rfl w.1.size (ndc v (di f rest)).toArray rfl rfl 176 _ L aD rfl (cy _ _) ?_));refine BB (v:= .tuple #[.agg (ndc v (di f rest)).toArray,.bool true]) ?_ rfl ⟨v,di f rest,u4 ⟨rfl,d.out.fin.1,d.out.fin.2,_,M.out,(Ax _ _ _).symm⟩⟩;exact cI results141 _ _ w.1.size 176 (ndc v (di f rest)).toArray _ rfl ag underlying176 rfl aD rfl
def orE:List (ByteArray×ByteArray)->ByteArray×ByteArray->Option (ByteArray×ByteArray)
 |[],x=>some x
 |e::es,x=>if sl x.1 e.1=true/\sle x.2 e.1=true then orE es (e.1,x.2)else none
def orT:Tr->Bool->ByteArray×ByteArray->Option (ByteArray×ByteArray)
 | .leaf _ es,_,x=>orE es x
 | .node _ ks,_,x=>orT ks true x
 | .nil,_,x=>some x
 | .cons s t ks,b,x=>if b=true\/sl x.1 s=true then(orT t true (x.1,if b=true then x.2 else s)).bind (orT ks false)else none
def inB(low high k:ByteArray):Bool:=sle low k&&(high.size==0||sl k high)
def iQ:List (ByteArray×ByteArray)->Bool
 |[]=>true
 |[_]=>true
 |a::b::es=>sl a.1 b.1&&iQ (b::es)
def j7(low s:ByteArray):ByteArray:=if sl s low then low else s
def nn(high s:ByteArray):ByteArray:=if high.size==0||sl s high then s else high
def hdS:Tr->Option ByteArray
 | .cons s _ _=>some s
 |_=>none
def jo(high:ByteArray):Option ByteArray->ByteArray
 |some s=>nn high s
 |none=>high
def okT:Tr->Bool->ByteArray->ByteArray->Bool
 | .leaf _ es,_,low,high=>es.all (fun e=>inB low high e.1)&&iQ es
 | .node _ ks,_,low,high=>okT ks true low high
 | .nil,_,_,_=>true
 | .cons s t ks,b,low,high=>okT t true (if b=true then low else j7 low s) (jo high (hdS ks))&&okT ks false low high
def aQ:Tr->List ByteArray
 | .leaf _ es=>es.map (·.1)
 | .node _ ks=>aQ ks
 | .nil=>[]
 | .cons _ t ks=>aQ t++aQ ks
def lR(l:ByteArray)(ks:Tr):Prop:= ∀s,hdS ks=some s->sl l s=true
def inn:Tr->Bool->Prop
 | .leaf _ es,_=>(es.map (·.1)).Pairwise (fun a b=>sl a b=true)
 | .node _ ks,_=>inn ks true
 | .nil,_=>True
 | .cons s t ks,b=>inn t true/\(b=false->∀k∈aQ t,sle s k=true)/\(∀k∈aQ t,lR k ks)/\inn ks false
def isT:Tr->Bool
 | .leaf _ _=>true
 | .node _ _=>true
 |_=>false
def full:Tr->Bool->Prop
 | .leaf _ es,_=>es≠[]
 | .node _ ks,_=>(∃s t r,ks= .cons s t r)/\full ks true
 | .nil,_=>True
 | .cons s t ks,b=>(b=false->1<=s.size)/\isT t=true/\isT ks=false/\full t true/\full ks false
theorem Az{es}{a b:ByteArray×ByteArray}(c:((a::b::es).map (·.1)).Pairwise (fun x y=>sl x y=true)):sl a.1 b.1=true:=by
 simp only[vo,y0]at c;exact c.1 b.1 uB
theorem qg:∀es:List (ByteArray×ByteArray),iQ es=true↔(es.map (·.1)).Pairwise (fun a b=>sl a b=true)
 |[]=>by simp[iQ]
 |[a]=>by simp[iQ]
 |a::b::es=>by
  have ih:=qg (b::es);constructor
  ·intro d;simp only[iQ,wz]at d;have e:=ih.1 d.2;rw[vo,y0];refine⟨fun k c=> ?_,e⟩;rw[vo]at c e;rcases wA.1 c with rfl|c
   ·exact d.1
   ·exact iq d.1 (List.rel_of_pairwise_cons e c)
  ·intro d;simp only[iQ,wz];exact⟨Az d,ih.2 (by rw[vo,y0]at d;exact d.2)⟩
theorem lS{low a k}:inB low a k=true↔sle low k=true/\(a.size=0\/sl k a=true):=by
 simp[inB]
theorem AA{low s a k}:inB (j7 low s) a k=true↔inB low a k=true/\sle s k=true:=by
 rw[lS,lS];unfold j7;split
 ·rename_i b;exact⟨fun x=>⟨x,jf (m6 b) x.1⟩,fun x=>x.1⟩
 ·rename_i b;have c:sle low s=true:=by unfold sle;simpa using b
  exact⟨fun x=>⟨⟨jf c x.1,x.2⟩,x.1⟩,fun x=>⟨x.2,x.1.2⟩⟩
theorem AB{low s c k}(f:1<=s.size):inB low (nn c s) k=true↔inB low c k=true/\sl k s=true:=by
 rw[lS,lS];unfold nn;split
 ·rename_i d;simp only[Bool.or_eq_true,beq_iff_eq]at d;constructor
  ·rintro⟨b,a⟩;rcases a with a|a
   ·omega
   ·exact⟨⟨b,by rcases d with d|d;exact u5 d;exact u4 (iq a d)⟩,a⟩
  ·rintro⟨⟨b,_⟩,a⟩;exact⟨b,u4 a⟩
 ·rename_i d;simp only[Bool.or_eq_true,beq_iff_eq,not_or]at d;have e:sle c s=true:=by unfold sle;simpa using d.2
  constructor
  ·rintro⟨b,a⟩;rcases a with a|a
   ·exact absurd a d.1
   ·exact⟨⟨b,u4 a⟩,tR a e⟩
  ·rintro⟨⟨b,a⟩,_⟩;exact⟨b,a⟩
theorem AD{low a k ks}(b:∀s,hdS ks=some s->1<=s.size):inB low (jo a (hdS ks)) k=true↔inB low a k=true/\lR k ks:=by
 unfold lR;cases c:hdS ks with
 |none=>simp[jo]
 |some s=>simp only[jo,AB (b s c),Option.some.injEq];exact⟨fun x=>⟨x.1,fun _ e=>e▸x.2⟩,fun x=>⟨x.1,x.2 s rfl⟩⟩
theorem AE{ks}(a:full ks false):∀s,hdS ks=some s->1<=s.size:=fun s e=>by
 cases ks with
 |cons b t r=>rw[hdS]at e;cases e;rw[full]at a;exact a.1 rfl
 |_=>simp[hdS]at e
theorem no:∀(t:Tr)(b:Bool)(low c:ByteArray),full t b->(okT t b low c=true↔inn t b/\∀k∈aQ t,inB low c k=true)
 | .leaf id es,_,low,c,_=>by
  simp only[okT,wz,inn,aQ,qg,x9,xC];constructor
  ·rintro⟨l,m⟩;exact⟨m,by rintro k ⟨e,n,rfl⟩;exact l e n⟩
  ·rintro⟨l,m⟩;exact⟨fun e n=>m _ ⟨e,n,rfl⟩,l⟩
 | .node id ks,_,low,c,j=>by
  rw[full]at j;rw[okT,inn,aQ];exact no ks true low c j.2
 | .nil,_,_,_,_=>by simp[okT,inn,aQ]
 | .cons s t ks,b,low,c,j=>by
  rw[full]at j;rw[okT,inn,aQ,wz,no t true _ _ j.2.2.2.1,no ks false low c j.2.2.2.2];simp only[AD (AE j.2.2.2.2),wE];cases b with
  |true=>
   simp only[if_true];constructor
   ·rintro⟨⟨f,d⟩,g,h⟩;exact⟨⟨f,fun x=>absurd x uv,fun k a=>(d k a).2,g⟩,fun k a=>by rcases a with a|a;exact(d k a).1;exact h k a⟩
   ·rintro⟨⟨f,_,g,h⟩,i⟩;exact⟨⟨f,fun k a=>⟨i k (u5 a),g k a⟩⟩,h,fun k a=>i k (u4 a)⟩
  |false=>
   simp only[Bool.false_eq_true,if_false,AA,true_implies];constructor
   ·rintro⟨⟨f,d⟩,g,h⟩;exact⟨⟨f,fun k a=>(d k a).1.2,fun k a=>(d k a).2,g⟩,fun k a=>by rcases a with a|a;exact(d k a).1.1;exact h k a⟩
   ·rintro⟨⟨f,d,g,h⟩,i⟩;exact⟨⟨f,fun k a=>⟨⟨i k (u5 a),d k a⟩,g k a⟩⟩,h,fun k a=>i k (u4 a)⟩
theorem lT:∀(t:Tr)(b:Bool),full t b->isT t=true->aQ t≠[]
 | .leaf id es,_,a,_=>by simpa [aQ,full]using a
 | .node id (.cons s t r),_,a,_=>by
  rw[full]at a;have c:=a.2;rw[full]at c;simp only[aQ];intro e;exact lT t true c.2.2.2.1 c.2.1 (List.append_eq_nil_iff.1 e).1
 | .node id (.leaf _ _),_,a,_=>by rw[full]at a;obtain⟨⟨_,_,_,e⟩,_⟩:=a;cases e
 | .node id (.node _ _),_,a,_=>by rw[full]at a;obtain⟨⟨_,_,_,e⟩,_⟩:=a;cases e
 | .node id .nil,_,a,_=>by rw[full]at a;obtain⟨⟨_,_,_,e⟩,_⟩:=a;cases e
 | .nil,_,_,a=>by simp[isT]at a
 | .cons _ _ _,_,_,a=>by simp[isT]at a
def fy(l:ByteArray):List ByteArray->ByteArray
 |[]=>l
 |k::ks=>fy k ks
theorem j8{l}:∀{ks:List ByteArray},ks≠[]->fy l ks∈ks
 |[],b=>absurd rfl b
 |[k],_=>by simp[fy]
 |k::a::ks,_=>by
  have:=j8 (l:=k) (ks:=a::ks) uB;rw[fy];exact zs _ this
theorem t8(l):∀(a b:List ByteArray),fy l (a++b)=fy (fy l a) b
 |[],b=>rfl
 |k::a,b=>by simp only[y4,fy];exact t8 k a b
theorem AG(a):sle a a=true:=by unfold sle;rw[lO];rfl
theorem ua{l}:∀{ks:List ByteArray},ks.Pairwise (fun a b=>sl a b=true)->∀k∈ks,sle k (fy l ks)=true
 |[],_,k,c=>by simp at c
 |[a],_,k,c=>by simp at c;subst c;exact AG _
 |a::b::ks,d,k,c=>by
  rw[y0]at d;rw[fy];rcases wA.1 c with rfl|c
  ·exact m6 (d.1 _ (j8 uB))
  ·exact ua (l:=a) d.2 k c
theorem qh:∀(es:List (ByteArray×ByteArray))(l s:ByteArray)(x:ByteArray×ByteArray),orE es (l,s)=some x↔((es.map (·.1)).Pairwise (fun a b=>sl a b=true)/\∀k∈es.map (·.1),sl l k=true/\sle s k=true)/\x=(fy l (es.map (·.1)),s)
 |[],l,s,x=>by
  rw[orE];constructor
  ·intro g;cases g;exact⟨⟨uB,uB⟩,rfl⟩
  ·rintro⟨_,rfl⟩
   rfl
 |e::es,l,s,x=>by
  rw[orE];simp only[vo,fy];by_cases g:sl l e.1=true/\sle s e.1=true
  ·rw[BC g,qh es e.1 s x,y0];constructor
   ·rintro⟨⟨h,d⟩,f⟩;refine⟨⟨⟨fun k c=>(d k c).1,h⟩,fun k c=> ?_⟩,f⟩;rcases wA.1 c with rfl|c
    ·exact g
    ·exact⟨iq g.1 (d k c).1,(d k c).2⟩
   ·rintro⟨⟨⟨h,d⟩,f⟩,i⟩;exact⟨⟨d,fun k c=>⟨h k c,(f k (zs _ c)).2⟩⟩,i⟩
  ·rw[BX g];constructor
   ·intro x;cases x
   ·rintro⟨⟨_,f⟩,_⟩;exact absurd (f e.1 uB) g
theorem ub:∀(ks:Tr)(d:ByteArray),full ks false->inn ks false->hdS ks=some d->∀k∈aQ ks,sle d k=true
 | .cons s t ks,d,b,g,e,k,a=>by
  rw[hdS]at e;cases e;rw[inn]at g;rw[full]at b;rw[aQ,wE]at a;rcases a with a|a
  ·exact g.2.1 rfl k a
  ·obtain⟨k0,c⟩:=List.exists_mem_of_ne_nil _ (lT t true b.2.2.2.1 b.2.1);cases ks with
   |nil=>simp[aQ]at a
   |leaf _ _=>have:=b.2.2.1;simp[isT]at this
   |node _ _=>have:=b.2.2.1;simp[isT]at this
   |cons f i r=>
    have h:=ub (.cons f i r) f b.2.2.2.2 g.2.2.2 rfl k a;exact jf (g.2.1 rfl k0 c) (jf (m6 (g.2.2.1 k0 c f rfl)) h)
 | .nil,_,_,_,e,_,_=>by simp[hdS]at e
 | .leaf _ _,_,_,_,e,_,_=>by simp[hdS]at e
 | .node _ _,_,_,_,e,_,_=>by simp[hdS]at e
theorem lU:∀(t:Tr)(b:Bool),full t b->inn t b->(aQ t).Pairwise (fun a b=>sl a b=true)
 | .leaf id es,_,_,e=>by simpa [inn,aQ]using e
 | .node id ks,_,d,e=>by
  rw[full]at d;rw[inn]at e;rw[aQ];exact lU ks true d.2 e
 | .nil,_,_,_=>by simp[aQ]
 | .cons s t ks,b,d,e=>by
  rw[inn]at e;rw[full]at d;rw[aQ,List.pairwise_append];refine⟨lU t true d.2.2.2.1 e.1,lU ks false d.2.2.2.2 e.2.2.2,fun a h c g=> ?_⟩;cases ks with
  |nil=>simp[aQ]at g
  |leaf _ _=>have:=d.2.2.1;simp[isT]at this
  |node _ _=>have:=d.2.2.1;simp[isT]at this
  |cons f i r=>exact tR (e.2.2.1 a h f rfl) (ub (.cons f i r) f d.2.2.2.2 e.2.2.2 rfl c g)
theorem jp:∀(t:Tr)(b:Bool)(l s:ByteArray)(x:ByteArray×ByteArray),full t b->orT t b (l,s)=some x->
 inn t b/\(∀k∈aQ t,sl l k=true)/\((isT t=true\/b=true)->∀k∈aQ t,sle s k=true)/\(b=false->lR l t)/\x.1=fy l (aQ t)/\((isT t=true\/sle s l=true)->sle x.2 x.1=true)
 | .leaf id es,b,l,s,x,d,c=>by
  rw[orT,qh]at c;obtain⟨⟨n,i⟩,rfl⟩:=c;refine⟨by simpa [inn]using n,fun k a=>(i k (by simpa [aQ]using a)).1,fun _ k a=>(i k (by simpa [aQ]using a)).2,fun _ s e=>by simp[hdS]at e,by simp[aQ],fun _=> ?_⟩;have o:=j8 (l:=l) (ks:=es.map (·.1)) (by simpa [full]using d);exact(i _ o).2
 | .node id (.cons q t ks),b,l,s,x,d,c=>by
  rw[full]at d;rw[orT]at c;have ih:=jp (.cons q t ks) true l s x d.2 c;have p:aQ (.cons q t ks)≠[]:=lT (.node id (.cons q t ks)) b (by rw[full];exact d) rfl;have o:=j8 (l:=l) p;rw[inn,aQ];refine⟨ih.1,ih.2.1,fun _=>ih.2.2.1 (u4 rfl),fun _ s e=>by simp[hdS]at e,ih.2.2.2.2.1,fun _=> ?_⟩;have m:=d.2;rw[full]at m;rw[orT,BC (u5 rfl)]at c;obtain⟨g,n,i⟩:=w3.1 c;have H:=jp t true l _ g m.2.2.2.1 n;have I:=jp ks false g.1 g.2 x m.2.2.2.2 i;exact I.2.2.2.2.2 (u4 (H.2.2.2.2.2 (u5 m.2.1)))
 | .node id (.leaf _ _),_,_,_,_,c,_=>by rw[full]at c;obtain⟨⟨_,_,_,e⟩,_⟩:=c;cases e
 | .node id (.node _ _),_,_,_,_,c,_=>by rw[full]at c;obtain⟨⟨_,_,_,e⟩,_⟩:=c;cases e
 | .node id .nil,_,_,_,_,c,_=>by rw[full]at c;obtain⟨⟨_,_,_,e⟩,_⟩:=c;cases e
 | .nil,b,l,s,x,_,c=>by
  rw[orT]at c;cases c;exact⟨by simp[inn],by simp[aQ],by simp[aQ],fun _ s e=>by simp[hdS]at e,by simp[aQ,fy],fun c=>by rcases c with c|c;simp[isT]at c;exact c⟩
 | .cons q t ks,b,l,s,x,d,c=>by
  rw[orT]at c;rw[full]at d;by_cases h:b=true\/sl l q=true
  ·rw[BC h]at c;obtain⟨g,n,i⟩:=w3.1 c;obtain⟨v,w,B,_,r,C⟩:=jp t true l _ g d.2.2.2.1 n;obtain⟨D,y,_,E,F,G⟩:=jp ks false g.1 g.2 x d.2.2.2.2 i;have p:=lT t true d.2.2.2.1 d.2.1;have o:g.1∈aQ t:=by rw[r];exact j8 p
   have u:∀k∈aQ t,sle k g.1=true:=by rw[r];exact ua (lU t true d.2.2.2.1 v)
   have j:=B (u5 d.2.1);rw[inn,aQ];refine⟨⟨v,fun f k a=> ?_,fun k a A e=>Am (u k a) (E rfl A e),D⟩,fun k a=> ?_,fun f k a=> ?_,fun f A e=> ?_,by rw[t8,<-r];exact F,fun _=>G (u4 (C (u5 d.2.1)))⟩
   ·have:=j k a;rw[BX (by rw[f];decide)]at this;exact this
   ·rw[wE]at a;rcases a with a|a
    ·exact w k a
    ·exact iq (w _ o) (y k a)
   ·have z:b=true:=by rcases f with f|f;simp[isT]at f;exact f
    rw[BC z]at j;rw[wE]at a;rcases a with a|a
    ·exact j k a
    ·exact jf (j _ o) (m6 (y k a))
   ·rw[hdS]at e;cases e;rcases h with h|h
    ·rw[f]at h;exact absurd h uv
    ·exact h
  ·rw[BX h]at c;cases c
theorem nr:∀(t:Tr)(b:Bool)(l s:ByteArray),full t b->inn t b->(∀k∈aQ t,sl l k=true)->((isT t=true\/b=true)->∀k∈aQ t,sle s k=true)->(b=false->lR l t)->∃x,orT t b (l,s)=some x
 | .leaf id es,b,l,s,a,c,e,f,_=>⟨_,by rw[orT,qh];exact⟨⟨by simpa [inn]using c,fun k d=>⟨e k (by simpa [aQ]using d),f (u5 rfl) k (by simpa [aQ]using d)⟩⟩,rfl⟩⟩
 | .node id ks,b,l,s,a,c,e,f,_=>by
  rw[full]at a;rw[inn]at c;rw[aQ]at e f;rw[orT];exact nr ks true l s a.2 c e (fun _=>f (u5 rfl)) (fun i=>absurd i uv)
 | .nil,b,l,s,_,_,_,_,_=>⟨_,by rw[orT]⟩
 | .cons o t ks,b,l,s,a,c,e,f,r=>by
  have h:=lU _ b a c;rw[full]at a;rw[inn]at c;rw[aQ]at e f;rw[aQ,List.pairwise_append]at h;obtain⟨j,m⟩:=nr t true l (if b=true then s else o) a.2.2.2.1 c.1 (fun k d=>e k (List.mem_append_left _ d)) (fun _ k d=>by
   by_cases g:b=true
   ·rw[BC g];exact f (u4 g) k (List.mem_append_left _ d)
   ·rw[BX g];exact c.2.1 (by simpa using g) k d) (fun i=>absurd i uv)
  have p:=(jp t true l _ j a.2.2.2.1 m).2.2.2.2.1;have n:j.1∈aQ t:=by rw[p];exact j8 (lT t true a.2.2.2.1 a.2.1)
  obtain⟨x,q⟩:=nr ks false j.1 j.2 a.2.2.2.2 c.2.2.2 (fun k d=>h.2.2 _ n k d) (fun i=>by
   rcases i with i|i
   ·rw[a.2.2.1]at i;exact absurd i uv
   ·exact absurd i uv) (fun _=>c.2.2.1 _ n)
  refine⟨x,?_⟩;rw[orT,BC,m]
  ·exact q
  ·by_cases g:b=true
   ·exact u5 g
   ·exact u4 (r (by simpa using g) o rfl)
theorem AH{k}(c:1<=k.size):sl (strOfNums []) k=true:=by
 have e:(strOfNums []).toList=[]:=by rw[ByteArray.toList_eq];rfl
 have b:k.toList.length=k.size:=by rw[ByteArray.toList_eq];rfl
 unfold sl;rw[e];cases hx:k.toList with
 |nil=>rw[hx]at b;simp at b;omega
 |cons a x=>rfl
theorem AI(k):sle (strOfNums []) k=true:=by
 have e:(strOfNums []).toList=[]:=by rw[ByteArray.toList_eq];rfl
 unfold sle sl;rw[e];cases k.toList<;>rfl
theorem AJ{t}(b:full t true)(d:∀k∈aQ t,1<=k.size):okT t true (strOfNums []) (strOfNums [])=(orT t true (strOfNums [],strOfNums [])).isSome:=by
 rw[Bool.eq_iff_iff,no t _ _ _ b,Option.isSome_iff_exists];constructor
 ·rintro⟨a,_⟩;exact nr t true _ _ b a (fun k hx=>AH (d k hx)) (fun _ k _=>AI k) (fun e=>absurd e uv)
 ·rintro⟨x,hx⟩;obtain⟨a,f,c,_⟩:=jp t true _ _ x b hx;exact⟨a,fun k hx=>lS.2 ⟨c (u4 rfl) k hx,u5 rfl⟩⟩
abbrev LSg:=ByteArray×ByteArray
def wkT(P:Pg)(f:Nat)(steps:Int)(st:St)(x:LSg)(id:Int):Option (Tr×St×LSg):=(rdT P f steps st id).bind fun y=>(orT y.1 true x).map fun z=>(y.1,y.2,z)
def wkK(r:St->LSg->Int->Option (Tr×St×LSg)):List (ByteArray×Int)->Bool->St->LSg->Option (Tr×St×LSg)
 |[],_,st,x=>some (.nil,st,x)
 |(s,id)::ls,b,st,x=>if b=true\/sl x.1 s=true then(r st (x.1,if b=true then x.2 else s) id).bind fun y=>(wkK r ls false y.2.1 y.2.2).map fun z=>(.cons s y.1 z.1,z.2)else none
theorem uc(P f steps):∀(ls:List (ByteArray×Int))(b:Bool)(a:St)(x:LSg),wkK (wkT P f steps) ls b a x=(rdK (rdT P f steps) ls a).bind fun y=>(orT y.1 b x).map fun g=>(y.1,y.2,g)
 |[],b,a,x=>by simp[wkK,rdK,orT]
 |(s,id)::ls,b,a,x=>by
  rw[wkK,rdK];cases i:rdT P f steps a id with
  |none=>
   simp only[Option.bind_none];split
   ·simp[wkT,i]
   ·rfl
  |some y=>
   simp only[w7];by_cases d:b=true\/sl x.1 s=true
   ·rw[BC d];cases e:orT y.1 true (x.1,if b=true then x.2 else s)with
    |none=>
     have h:wkT P f steps a (x.1,if b=true then x.2 else s) id=none:=by simp only[wkT,i,w7,e,Option.map_none]
     rw[h,Option.bind_none];cases j:rdK (rdT P f steps) ls y.2 with
     |none=>rfl
     |some g=>
      simp only[w7];have c:orT (.cons s y.1 g.1) b x=none:=by rw[orT,BC d,e];rfl
      rw[c]
      rfl
    |some o=>
     have h:wkT P f steps a (x.1,if b=true then x.2 else s) id=some (y.1,y.2,o):=by simp only[wkT,i,w7,e,Option.map_some]
     rw[h,w7,uc P f steps ls false y.2 o];cases j:rdK (rdT P f steps) ls y.2 with
     |none=>rfl
     |some g=>
      simp only[w7];have c:orT (.cons s y.1 g.1) b x=orT g.1 false o:=by rw[orT,BC d,e];rfl
      rw[c];cases orT g.1 false o<;>rfl
   ·rw[BX d];cases j:rdK (rdT P f steps) ls y.2 with
    |none=>rfl
    |some g=>
     simp only[w7];have c:orT (.cons s y.1 g.1) b x=none:=by rw[orT,BX d]
     rw[c]
     rfl
def leR(l:List Int)(x:LSg):Option (List (ByteArray×ByteArray)×LSg):=(lfP l).bind fun es=>if es.isEmpty then none else(orE es x).map fun z=>(es,z)
theorem AK{P f steps a x id}(b:dQ P a id=false):wkT P (f+1) steps a x id=none:=by
 unfold wkT;rw[rdT,BX (by rw[b];decide)]
 rfl
theorem AL{P f steps a x id}(c:P.kd id=2)(b:¬(a.tall<0\/a.tall=steps)):wkT P (f+1) steps a x id=none:=by
 unfold wkT;rw[rdT];cases dQ P a id with
 |true=>rw[BC rfl,BC c,BX b];rfl
 |false=>rfl
theorem ud{P f steps a x id}(b:dQ P a id=true)(d:P.kd id=2)(c:a.tall<0\/a.tall=steps):wkT P (f+1) steps a x id=(leR (P.bd id) x).map fun y=>(.leaf id y.1,⟨id::a.seen,steps⟩,y.2):=by
 unfold wkT leR;rw[rdT,BC b,BC d,BC c];cases lfP (P.bd id)with
 |none=>rfl
 |some es=>
  simp only[w7];cases e:es.isEmpty with
  |true=>rfl
  |false=>
   simp only[Bool.false_eq_true,if_false,w7,orT];cases orE es x<;>rfl
theorem AM{P f steps a x id}(b:dQ P a id=true)(c:P.kd id≠2):wkT P (f+1) steps a x id=(inP (P.bd id)).bind fun ls=>(wkK (wkT P f (steps+1)) ls true ⟨id::a.seen,a.tall⟩ x).map fun y=>(.node id y.1,y.2.1,y.2.2):=by
 unfold wkT;rw[rdT,BC b,BX c];cases inP (P.bd id)with
 |none=>rfl
 |some ls=>
  simp only[w7];rw[show(fun a x id=>(rdT P f (steps+1) a id).bind fun y=>(orT y.1 true x).map fun d=>(y.1,y.2,d))=wkT P f (steps+1)from rfl,uc];cases rdK (rdT P f (steps+1)) ls ⟨id::a.seen,a.tall⟩with
  |none=>rfl
  |some y=>
   simp only[Option.map_some,w7,orT];cases orT y.1 true x<;>rfl
def dw:List (ByteArray×Tr)->Tr->Tr
 |[],r=>r
 |x::xs,r=> .cons x.1 x.2 (dw xs r)
theorem ue(xs x r):dw (xs++[x]) r=dw xs (.cons x.1 x.2 r):=by
 induction xs with
 |nil=>rfl
 |cons y a ih=>simp only[y4,dw,ih]
