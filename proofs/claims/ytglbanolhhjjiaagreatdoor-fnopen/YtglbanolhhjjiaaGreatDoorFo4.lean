import Derived.Test.YtglbanolhhjjiaaGreatDoorFo3
namespace Go.Proofs.YtglbanolhhjjiaaGreatDoor
open Go.Proofs.Tryz
open Go.RowKit
set_option linter.unusedVariables false
set_option maxRecDepth 100000
set_option maxHeartbeats 32000000
theorem nl(m)(h:m<=6):(256:Int)^m<=281474976710656:=by
 have k:∀m:Fin 7,(256:Int)^(m:Nat)<=281474976710656:=uB;exact k ⟨m,uA⟩
theorem lQ(a n c l w)(h:Bs w a n c l)(E:n<=6):
 Calls prog 108 #[.slice a n c] w fun e w'=>e= .returned (.int .i64 (low l))/\w'=w:=by
 have f:Hid (∀k,0<=low (l.drop k)/\low (l.drop k)<=281474976710656):=fun k=>by
  have p:=gX (j0 h.byte k);have q:(l.drop k).length<=6:=by rw[wi,h.len_eq];omega
  have C:=nl _ q;exact⟨p.1,uA⟩
 have g:Hid (low (l.drop n)=0):=by
  have:l.drop n=[]:=by rw[zW,h.len_eq];exact t6
  show low (l.drop n)=0;rw[this];rfl
 go_enter func108,ntmps108;go_wp2
 go_loop [3,4] (fun v i=> ∃j:Nat,j<=n/\i= .int .i64 ((j:Int)-1)/\v= .int .i64 (low (l.drop j))) (fun _ i=>(intOf i+1).toNat)
 case atStart=>exact⟨n,t6,rfl,by rw[g.out]⟩
 case round=>
  obtain⟨j,D,rfl,rfl⟩:=hrel;by_cases B:0<j
  ·obtain⟨b,A,rfl,t,d⟩:=h.at_ uA;obtain⟨i,rfl⟩:∃i,j=i+1:=⟨j-1,uA⟩;have u:=d i uA;have s:=h.byte i;have m:Hid _:=mZ l i (by rw[h.len_eq];omega);have r:=f.out (i+1);have o:((i+1:Nat):Int)-1=(i:Int):=uA;rw[o];have x:(0:Int)<=(i:Int):=uA;have z:(i:Int)< (n:Int):=uA;generalize low (l.drop (i+1))=F at*;generalize l.getD i 0=y at*;clear d h;go_wp2
   go_round
   case rel=>exact⟨i,uA,by go_num,by rw[m.out];congr 1;omega⟩
   case measure=>simp[intOf]
  ·have e:j=0:=uA;subst e;go_wp2;go_ret;exact⟨rfl,rfl⟩
theorem Av(a b:Nat)(c:a<281474976710656)(d:b<256):bits .or .i64 ((a:Int)*256) (b:Int)=(a:Int)*256+b:=by
 rw[show(a:Int)*256=((a*256:Nat):Int)by omega,show((a*256:Nat):Int)+(b:Int)=((a*256+b:Nat):Int)by omega];have e:a*256|||b=a*256+b:=by
  have:=Nat.shiftLeft_add_eq_or_of_lt (i:=8) (b:=b) uA a;rw[Nat.shiftLeft_eq]at this;exact this.symm
 show IntKind.i64.wrap ((BitVec.ofInt 64 ((a*256:Nat):Int)|||BitVec.ofInt 64 (b:Int)).toNat:Int)= _;rw[BitVec.toNat_or,ofInt_u64 (a*256) uA,ofInt_u64 b uA,e];simp[IntKind.wrap,IntKind.bits,IntKind.signed];omega
theorem iO(a n c l w)(h:Bs w a n c l)(I:n<=6):
 Calls prog 121 #[.slice a n c] w fun e w'=>e= .returned (.int .i64 (low l))/\w'=w:=by
 have o:Hid (∀k,0<k->0<=low (l.drop k)/\low (l.drop k)<281474976710656):=fun k H=>by
  have t:=gX (j0 h.byte k);by_cases J:k<n
  ·have E:(l.drop k).length<=5:=by rw[wi,h.len_eq];omega
   have F:=nl _ (show(l.drop k).length<=6 by omega);exact⟨t.1,uA⟩
  ·have:l.drop k=[]:=by rw[zW,h.len_eq];omega
   rw[this];simp[low]
 have p:Hid (low (l.drop n)=0):=by
  have:l.drop n=[]:=by rw[zW,h.len_eq];exact t6
  show low (l.drop n)=0;rw[this];rfl
 go_enter func121,ntmps121;go_wp2
 go_loop [3,4] (fun v i=> ∃j:Nat,j<=n/\i= .int .i64 ((j:Int)-1)/\v= .int .i64 (low (l.drop j))) (fun _ i=>(intOf i+1).toNat)
 case atStart=>exact⟨n,t6,rfl,by rw[p.out]⟩
 case round=>
  obtain⟨j,G,rfl,rfl⟩:=hrel;by_cases D:0<j
  ·obtain⟨b,C,rfl,u,g⟩:=h.at_ uA;obtain⟨i,rfl⟩:∃i,j=i+1:=⟨j-1,uA⟩;have z:=g i uA;have f:=h.byte i;have r:Hid _:=mZ l i (by rw[h.len_eq];omega);have d:=o.out (i+1) uA;have s:((i+1:Nat):Int)-1=(i:Int):=uA;rw[s];have A:(0:Int)<=(i:Int):=uA;have B:(i:Int)< (n:Int):=uA;generalize low (l.drop (i+1))=K at*;generalize l.getD i 0=y at*;obtain⟨x,rfl⟩:=x2 d.1;obtain⟨y,rfl⟩:=x2 f.1;have m:=Av x y uA uA;clear g h;have q:Hid _:=m;clear m;go_wp2
   go_round
   case rel=>exact⟨i,uA,by go_num,by rw[r.out,q.out];congr 1;omega⟩
   case measure=>simp[intOf]
  ·have e:j=0:=uA;subst e;go_wp2;go_ret;exact⟨rfl,rfl⟩
theorem tY{l m:List Int}(c:l.length=m.length)(h:∀i,i<l.length->l.getD i 0=m.getD i 0):l=m:=by
 apply List.ext_getElem c;intro i a b;have:=h i a;simpa [List.getD_eq_getElem?_getD,a,b]using this
theorem Aw(a b n m G H l k w)(h:Bs w a n G l)(d:Bs w b m H k):
 Calls prog 105 #[.slice a n G,.slice b m H] w fun e w'=>e= .returned (.bool (decide (l=k)))/\Below w.1.size w w':=by
 have I:n<=maxLen:=wg h.le h.le';have J:m<=maxLen:=wg d.le d.le';unfold maxLen at I J;by_cases u:n=m
 case neg=>
  have K:((n:Int) !=(m:Int))=true:=by simp;omega
  rw[show decide (l=k)=false from CP (fun e=>u (by rw[<-h.len_eq,<-d.len_eq,e]))];go_enter func105,ntmps105;go_wp2;go_ret;exact⟨rfl,t7⟩
 subst u;have K:((n:Int) !=(n:Int))=false:=by simp
 have O:Hid ((∀i,i<n->l.getD i 0=k.getD i 0)->decide (l=k)=true):=fun Q=>CR (tY (by rw[h.len_eq,d.len_eq]) (fun i c=>Q i (by rw[h.len_eq]at c;exact c)));have N:Hid (∀i,l.getD i 0≠k.getD i 0->decide (l=k)=false):=fun i c=>CP (fun e=>c (by rw[e]));go_enter func105,ntmps105;go_wp2;go_loopw [5] (fun i wr=> ∃j:Nat,j<=n/\i= .int .i64 j/\Below w.1.size w wr/\∀i,i<j->l.getD i 0=k.getD i 0) (fun i _=>n-(intOf i).toNat)
 case atStart=>exact⟨0,wa _,rfl,t7,fun i c=>absurd c uA⟩
 case round=>
  obtain⟨j,V,rfl,g,f⟩:=hrel;have A:Hid _:=f;clear f;by_cases t:j<n
  ·obtain⟨E,o,rfl,v,r⟩:=h.at_ uA;obtain⟨F,q,rfl,z,s⟩:=d.at_ uA;have W:wr.cell? ⟨E,o+j,none⟩=some (.int .u8 (l.getD j 0)):=by rw[g.cell (p:=⟨E,o+j,none⟩) v];exact r j t
   have X:wr.cell? ⟨F,q+j,none⟩=some (.int .u8 (k.getD j 0)):=by rw[g.cell (p:=⟨F,q+j,none⟩) z];exact s j t
   have R:(0:Int)<=(j:Int):=uA;have S:(j:Int)< (n:Int):=uA;have B:Hid _:=g;clear r s h d g;generalize hx:l.getD j 0=x at*;generalize L:k.getD j 0=y at*;have C:Hid _:=hx;have D:Hid _:=L;clear hx L;by_cases e:x=y
   ·subst e;have T:(x !=x)=false:=by simp
    go_wp2_with fail;go_region
    all_goals
     go_wp2;go_roundw
     case rel=>
      refine⟨j+1,uA,by go_num,B.out.drew,fun i c=> ?_⟩;by_cases e:i=j
      ·subst e;rw[C.out,D.out]
      ·exact A.out i uA
     case measure=>simp[intOf];omega
   ·have U:(x !=y)=true:=by simp[e]
    have M:Hid (decide (l=k)=false):=N.out j (by rw[C.out,D.out];exact e);clear e;go_wp2_with fail;go_region
    all_goals
     go_wp2;go_ret;exact⟨by rw[M.out];rfl,B.out.drew⟩
  ·have e:j=n:=uA;subst e;have P:Hid (decide (l=k)=true):=O.out A.out;go_wp2;go_ret;exact⟨by rw[P.out];rfl,g⟩
def iP(l:List Int):Bool:=decide (l=List.replicate l.length 0)
theorem tZ(a n c l w)(h:Bs w a n c l):
 Calls prog 177 #[.slice a n c] w fun e w'=>e= .returned (.bool (iP l))/\w'=w:=by
 have o:=wg h.le h.le';unfold maxLen at o;have r:Hid ((∀i,i<n->l.getD i 0=0)->iP l=true):=fun u=>CR (tY vo (fun i b=>by rw[h.len_eq]at b;rw[u i b];simp[List.getD_eq_getElem?_getD,List.getElem?_replicate];split<;>rfl));have q:Hid (∀i,l.getD i 0≠0->iP l=false):=fun i b=>CP (fun e=>b (by rw[e];simp[List.getD_eq_getElem?_getD,List.getElem?_replicate];split<;>rfl));go_enter func177,ntmps177;go_wp2
 go_loop [4,7] (fun _ i=> ∃j:Nat,j<=n/\i= .int .i64 j/\∀i,i<j->l.getD i 0=0) (fun _ i=>n-(intOf i).toNat)
 case atStart=>exact⟨0,wa _,rfl,fun i b=>absurd b uA⟩
 case round=>
  obtain⟨j,C,rfl,d⟩:=hrel;have g:Hid _:=d;clear d;by_cases m:j<n
  ·obtain⟨B,v,rfl,t,f⟩:=h.at_ uA;have D:=f j m;have y:(0:Int)<=(j:Int):=uA;have z:(j:Int)< (n:Int):=uA;clear f h;generalize hx:l.getD j 0=x at*;have k:Hid _:=hx;clear hx;by_cases e:x=0
   ·subst e;go_wp2
    go_round
    case rel=>
     refine⟨j+1,uA,by go_num,fun i b=> ?_⟩;by_cases e:i=j
     ·subst e;exact k.out
     ·exact g.out i uA
    case measure=>simp[intOf];omega
   ·have A:(x !=0)=true:=by simp[e]
    have p:Hid (iP l=false):=q.out j (by rw[k.out];exact e);clear e;go_wp2;go_ret;exact⟨by rw[p.out];rfl,rfl⟩
  ·have e:j=n:=uA;subst e;have s:Hid (iP l=true):=r.out g.out;go_wp2;go_ret;exact⟨by rw[s.out];rfl,rfl⟩
def di(id0:Int)(rest:List (ByteArray×Int)):NdK:=⟨0,false,[],[],id0::rest.map (·.2),rest.map (·.1)⟩
def inK(ls:List (ByteArray×Int)):NdK:=⟨0,false,[],[],ls.map (·.2),ls.tail.map (·.1)⟩
theorem Ax(s a rest):inK ((s,a)::rest)=di a rest:=by simp[inK,di]
theorem Ay(a n c l w)(h:Bs w a n c l)(cL:n<=1048576):
 Calls prog 141 #[.slice a n c] w fun e w'=> ∃v K bX,e= .returned (.tuple #[.agg (ndc v K).toArray,.bool bX])/\Below w.1.size w w'/\ONd w.1.size w' v K/\
  ((bX=true/\∃ls,inP l=some ls/\K=inK ls)\/(bX=false/\inP l=none)):=by
 have ag:=h.len_eq;have R:Hid (∀u,Below w.1.size w u->Bs u a n c l):=fun u b=>h.below b;have b7:=h.byte;have cn:=h.le;have b9:=h.le';unfold maxLen at b9;have cg:=(aq w 176 (ndc aF ⟨0,false,[],[],[],[]⟩).toArray).below (t7.alloc t6 (.cells (ndc aF ⟨0,false,[],[],[],[]⟩).toArray 176));have bY:=aq (w.alloc (.cells (ndc aF ⟨0,false,[],[],[],[]⟩).toArray 176)) 176 (ndc aF ⟨0,false,[],[],[],[]⟩).toArray;have cj:(w.alloc (.cells (ndc aF ⟨0,false,[],[],[],[]⟩).toArray 176)).1.size=w.1.size+1:=by simp
 rw[cj]at bY;have af:LS w (w.1.size+1) aF ⟨0,false,[],[],[],[]⟩ ((w.alloc (.cells (ndc aF ⟨0,false,[],[],[],[]⟩).toArray 176)).alloc (.cells (ndc aF ⟨0,false,[],[],[],[]⟩).toArray 176)):=
  ⟨fK w _ _,cg,bY,uA,tU _ _ _ _,fun _ e=>by cases e⟩
 have d:Hid _:=af;clear af cg bY cj h;go_enter func141,ntmps141;go_upto_region 2 with fail
 change Code.wp _ _ _ _ ((w.alloc (.cells (ndc aF ⟨0,false,[],[],[],[]⟩).toArray 176)).alloc (.cells (ndc aF ⟨0,false,[],[],[],[]⟩).toArray 176));generalize (w.alloc (.cells (ndc aF ⟨0,false,[],[],[],[]⟩).toArray 176)).alloc (.cells (ndc aF ⟨0,false,[],[],[],[]⟩).toArray 176)=bT at*;generalize ce:w.1.size+1=m at*;clear ce;by_cases cA:(n:Int)<4
 ·obtain⟨v,aB⟩:=aa aF;rw[<-aB]at d;clear aB;have A:inP l=none:=by unfold inP;rw[CH uA]
  have N:Hid _:=A;clear A;have am:=d.out.blk;have M:=d.out.res;have ak:=M.setRow (ndc v ⟨0,false,[],[],[],[]⟩);go_wp2_with (first|(refine B5 rfl 176 _ rfl m rfl 176 (ndc v ⟨0,false,[],[],[],[]⟩).toArray (0,0) _ am underlying176 rfl aD ?_)|(refine B8 rfl 176 _ _ rfl w.1.size (ndc v ⟨0,false,[],[],[],[]⟩).toArray rfl rfl 176 _ M aD rfl (cy _ _) ?_));refine B3 (v:= .tuple #[.agg (ndc v ⟨0,false,[],[],[],[]⟩).toArray,.bool false]) ?_ rfl ⟨v,⟨0,false,[],[],[],[]⟩,false,rfl,d.out.fin.1,d.out.fin.2,v6 ⟨rfl,N.out⟩⟩;exact cI results141 _ _ w.1.size 176 (ndc v ⟨0,false,[],[],[],[]⟩).toArray _ rfl ak underlying176 rfl aD rfl
 have b5:4<=n:=uA;obtain⟨b,C,rfl,_,_⟩:=(R.out bT d.out.bel).at_ uA;have S:Hid (∀u,Below w.1.size w u->Calls prog 108 #[.slice (some ⟨b,C,none⟩) 4 c] u fun e w'=>e= .returned (.int .i64 (low (l.take 4)))/\w'=u):=fun u B=>by
  have:=(R.out u B).piece 0 4 uA c uA (by unfold maxLen;omega);rw[w9,List.drop_zero]at this;exact lQ _ 4 _ _ u this uA
 obtain⟨f,bf⟩:=cO (low (l.take 4));rw[bf]at S;have b0:Hid _:=bf;clear bf;go_upto_region 4 with fail
 obtain⟨o,H⟩:∃o:List Int,o=[]:=⟨_,rfl⟩;have ap:o.length<=4:=by rw[H];exact wa _
 rw[show(⟨0,false,[],[],[],[]⟩:NdK)=⟨0,false,[],[],o,[]⟩by rw[H]]at d;have bZ:Hid _:=H;clear H;have V:(4:Int)<=(c:Int):=uA;have bC:=bDr bT;have q:=d.out.below bC;refine az (fun u=>u.cell? ⟨m,4,none⟩=some (.slice none o.length 0)) (fun k=>decide (6<=k)) vk ?_;generalize bT.drew=E at*;have cs:E.cell? ⟨m,4,none⟩=some (.slice none o.length 0):=q.blk.cell 4;have aT:=S.out E q.bel;have ac:=bAl E (.cells #[.int .i64 f] 3);have x:=q.below ac;have U:(E.alloc (.cells #[.int .i64 f] 3)).cell? ⟨m,4,none⟩=some (.slice none o.length 0):=x.blk.cell 4;clear d bC;have d:Hid _:=q;have y:Hid _:=x;clear q x ac;refine ai 0 cs ?_;refine ai 1 cs ?_;refine ai 2 cs ?_;refine aM 3 (.slice (some ⟨b,C,none⟩) 4 c) cs ?hya3 ?_
 case hya3=>(intro w W;(try dsimp only at W);go_simp;first|done|(intro hx;exfalso;omega)|(rw[B4 uA]))
 refine ah 4 fun p g=> ?_;go_wp2_with fail;refine aT.mono ?_;rintro e u ⟨rfl,B⟩;obtain rfl:=B.symm;clear B aT;go_wp2_with fail;refine ao g ?_;clear g p;refine ah 5 fun p g=> ?_;refine bU _ _ _ rfl (v:= .slice (some ⟨E.1.size,0,none⟩) 1 1) (w':=E.alloc (.cells #[.int .i64 f] 3)) ?bsa ?_
 case bsa=>
  simp only[wB,ws,wz];exact ey co (.int .i64 f) rfl E
 refine ao g ?_;clear g p;refine ah 6 fun p g=> ?_;refine je _ _ co rfl (m+1) none o.length 0 (on o) rfl d.out.own.kids (.int .i64 f) rfl rfl (by first|omega|(show 0<=1048576;omega)) uA d.out.blk.lt ?_;intro bb a1 bm Z J G T;refine ao g ?_;clear g p;have ab:Own1 3 (m+1) bm (some ⟨bb,0,none⟩) (o++[f]).length a1 (on (o++[f])):=by rw[wb,<-fv];exact Z
 have Y:KeepT 9 (E.alloc (.cells #[.int .i64 f] 3)) bm:=bD y.out.own.kids G uB;have I:=d.out.put (v':=⟨none,0,none,0,some ⟨bb,0,none⟩,a1,none,0⟩) (K':=⟨0,false,[],[],o++[f],[]⟩) J 4 (.slice (some ⟨bb,0,none⟩) (o.length+1) a1) (by first|(simp[ndc];done)|simp[ndc,aF]) ⟨cQ _ _ _,cQ _ _ _,ab,y.out.own.signs.keep Y⟩ (fun _ e=>by cases e);have L:Blk bm 176 m _:=(J.block m (x3 _)).trans d.out.blk;have a0:bm.cell? ⟨m,4,none⟩=some (.slice none o.length 0):=L.cell 4;have a2:=L.free 4;clear d y;have d:Hid _:=I;clear I L Z J G T ab Y U;refine ah 7 fun p g=> ?_;go_wp2_with fail;refine ao g ?_;clear g p;refine ah 8 fun p g=> ?_;go_wp2_with fail;refine ao g ?_;clear g p;refine bi ?_;clear a0 a2 cs;clear V S;generalize bm.setCell ⟨m,4,none⟩ (.slice (some ⟨bb,0,none⟩) (o.length+1) a1)=cr at*;rw[bZ.out,xd]at d;go_wp2_with fail;go_loopw [5] (fun i wr=> ∃(j:Nat)(P ad:Option Addr)(Q ae:Nat)(rest:List (ByteArray×Int)),j<=n/\i= .int .i64 (j:Nat)/\rest.length<=j/\lnP (l.drop 4)=(lnP (l.drop j)).map (rest++ ·)/\LS w m ⟨none,0,none,0,P,Q,ad,ae⟩ (di f rest) wr) (fun i _=>n-(intOf i).toNat)
 case atStart=>exact⟨4,some ⟨bb,0,none⟩,none,a1,0,[],b5,rfl,wa _,vo,d.out⟩
 case round=>
  clear d;obtain⟨j,P,ad,Q,ae,rest,cD,rfl,ca,bg,af⟩:=hrel;obtain⟨v,aB⟩:∃v:NdV,v=⟨none,0,none,0,P,Q,ad,ae⟩:=⟨_,rfl⟩;rw[<-aB]at af;have cl:Hid _:=aB;clear aB;obtain⟨bx,cf⟩:=aa wr;subst cf;have O:Hid _:=bg;have d:Hid _:=af;clear bg;by_cases cc:j<n
  ·have bW:(j:Int)< (n:Int):=uA;have aX:=R.out bx af.bel;obtain⟨_,_,bs,_,b8⟩:=aX.at_ uA;cases bs;have ck:Hid _:=aX;clear af aX;obtain⟨k,cb,cp⟩:=qe b7 j;have b2:=b8 j cc;rw[cb]at b2;have b3:lfK (l.drop j)=k:=by unfold lfK;rw[qd,w9,cb];rfl
   have aS:Hid _:=b3;clear b3 b8;have ap:(l.drop j).length=n-j:=by rw[wi,ag]
   have an:Hid _:=ap;clear ap;go_upto_region 9 with fail
   clear b2;by_cases cB:j+5+k<=n
   ·have b6:(j:Int)+5+(k:Int)<=(n:Int):=uA;have cm:=j6 ck.out (j+1) k uA (c-(j+1)) uA (by unfold maxLen;omega);have b1:=p8 (strOfNums ((l.drop (j+1)).take k)) (by rw[C0,wR];omega) bx;generalize bd:strOfNums ((l.drop (j+1)).take k)=s at*;go_wp2_with fail;refine b1.mono ?_;rintro e u ⟨rfl,B⟩;obtain rfl:=B.symm;have bR:s.size=k:=by rw[<-bd,C0,wR,wi,ag];omega
    rw[bR];have bB:Hid _:=bd;clear b1 B bd bR;by_cases g:1<=k/\k<=40
    ·rw[CR g];have bl:=gJ.2 (by rw[aS.out,an.out];omega);have bs:cU (l.drop j)=s:=by rw[<-bB.out];unfold cU;rw[aS.out,w7]
     have A:lnP (l.drop 4)=(lnP (l.drop (j+5+k))).map ((rest++[(s,eg (l.drop (j+1+k)))])++ ·):=by
      rw[O.out,j4 bl,bs,aS.out,w7,w7,show j+(5+k)=j+5+k by omega,show j+(1+k)=j+1+k by omega,Option.map_map];congr 1;funext r;simp
     have N:Hid _:=A;have bz:Hid (∀u,Below w.1.size w u->(convert 56 9 (.slice (some ⟨b,C+(j+1),none⟩) k (c-(j+1)))).run prog u= .ok (.string s) u):=fun u B=>by
      rw[<-bB.out];exact j6 (R.out u B) (j+1) k uA (c-(j+1)) uA (by unfold maxLen;omega)
     have S:Hid (∀u,Below w.1.size w u->Calls prog 108 #[.slice (some ⟨b,C+(j+1+k),none⟩) 4 (c-(j+1+k))] u fun e w'=>e= .returned (.int .i64 (eg (l.drop (j+1+k))))/\w'=u):=fun u B=>lQ _ 4 _ _ u ((R.out u B).piece (j+1+k) 4 uA (c-(j+1+k)) uA (by unfold maxLen;omega)) uA;clear bl bs A cm;generalize eg (l.drop (j+1+k))=t at*;rw[cl.out]at d;have bP:di f rest=⟨0,false,[],[],f::rest.map (·.2),rest.map (·.1)⟩:=rfl;rw[bP]at d;generalize H:f::rest.map (·.2)=o at*;generalize bk:rest.map (·.1)=D at*;have bA:=uv H bk;have ap:o.length<=j+1:=by rw[<-H,w8,y2];omega
     have cq:D.length<=j:=by rw[<-bk,y2];exact ca
     clear H bk bP;go_upto_region 11 with fail
     have a3:IntKind.i64.wrap ((j:Int)+1)=(j:Int)+1:=by simp[IntKind.wrap,IntKind.bits,IntKind.signed];omega
     have a4:IntKind.i64.wrap ((j:Int)+1+(k:Int))=(j:Int)+1+(k:Int):=by simp[IntKind.wrap,IntKind.bits,IntKind.signed];omega
     have a5:(0:Int)<=(j:Int)+1+(k:Int):=uA;have V:(j:Int)+1+(k:Int)<=(c:Int):=uA;have a6:(0:Int)<=(j:Int)+1:=uA;have a7:((j:Int)+1+(k:Int)).toNat=j+1+k:=uA;have a8:((j:Int)+1).toNat=j+1:=uA;have a9:¬c=j+1:=uA;have ba:(j:Int)+1<=max ((j:Int)+1+(k:Int)) 0:=uA;have bE:=bDr bx;have q:=d.out.below bE;refine az (fun u=>u.cell? ⟨m,5,none⟩=some (.slice ad D.length ae)/\(convert 56 9 (.slice (some ⟨b,C+(j+1),none⟩) k (c-(j+1)))).run prog u= .ok (.string s) u) (fun k=>decide (12<=k)) vk ?_;generalize bx.drew=z at*;have cs:z.cell? ⟨m,5,none⟩=some (.slice ad D.length ae)/\(convert 56 9 (.slice (some ⟨b,C+(j+1),none⟩) k (c-(j+1)))).run prog z= .ok (.string s) z:=⟨q.blk.cell 5,bz.out _ q.bel⟩;have ac:=bAl z (.cells #[.string s] 9);have x:=q.below ac;have U:(z.alloc (.cells #[.string s] 9)).cell? ⟨m,5,none⟩=some (.slice ad D.length ae)/\(convert 56 9 (.slice (some ⟨b,C+(j+1),none⟩) k (c-(j+1)))).run prog (z.alloc (.cells #[.string s] 9))= .ok (.string s) (z.alloc (.cells #[.string s] 9)):=⟨x.blk.cell 5,bz.out _ x.bel⟩;clear d bE;have d:Hid _:=q;have y:Hid _:=x;clear q x ac;refine aj 0 cs ?_;refine aj 1 cs ?_;refine aj 2 cs ?_;refine aj 3 cs ?_;refine aj 4 cs ?_;refine aj 5 cs ?_;refine aj 6 cs ?_;refine aj 7 cs ?_;refine aj 8 cs ?_;refine aM 9 (.slice (some ⟨b,C+(j+1),none⟩) k (c-(j+1))) cs ?hyp9 ?_
     case hyp9=>(intro w W;obtain⟨cv,cz⟩:=W;go_simp;first|done|(intro hx;exfalso;omega))
     refine aj 10 cs ?_;refine ah 11 fun p g=> ?_;refine bU _ _ _ rfl (v:= .slice (some ⟨z.1.size,0,none⟩) 1 1) (w':=(z.alloc (.cells #[.string s] 9))) ?bsp ?_
     case bsp=>
      simp only[wB,ws,wz];exact ey bM (.string s) rfl z
     refine ao g ?_;clear g p;refine ah 12 fun p g=> ?_;refine je _ _ bM rfl (m+1) ad D.length ae (os D) rfl d.out.own.signs (.string s) rfl rfl uA uA d.out.blk.lt ?_;intro bc aA bn Z J G T;refine ao g ?_;clear g p;have ab:Own1 9 (m+1) bn (some ⟨bc,0,none⟩) (D++[s]).length aA (os (D++[s])):=by rw[wb,<-jm];exact Z
     have Y:KeepT 3 (z.alloc (.cells #[.string s] 9)) bn:=bD y.out.own.signs G uB;have I:=d.out.put (v':=⟨none,0,none,0,P,Q,some ⟨bc,0,none⟩,aA⟩) (K':=⟨0,false,[],[],o,D++[s]⟩) J 5 (.slice (some ⟨bc,0,none⟩) (D.length+1) aA) (by simp[ndc]) ⟨cQ _ _ _,cQ _ _ _,y.out.own.kids.keep Y,ab⟩ (fun _ e=>by cases e);have L:Blk bn 176 m _:=(J.block m (x3 _)).trans d.out.blk;have a0:bn.cell? ⟨m,5,none⟩=some (.slice ad D.length ae):=L.cell 5;have a2:=L.free 5;clear d y;have d:Hid _:=I;clear I L Z J G T ab Y U;refine ah 13 fun p g=> ?_;go_wp2_with fail;refine ao g ?_;clear g p;refine ah 14 fun p g=> ?_;go_wp2_with fail;refine ao g ?_;clear g p;refine bi ?_;clear a0 a2 cs a3 a4 a5 V a6 a7 a8 a9 ba;go_upto_region 12 with fail
     generalize bn.setCell ⟨m,5,none⟩ (.slice (some ⟨bc,0,none⟩) (D.length+1) aA)=ch at*;generalize (some ⟨bc,0,none⟩:Option Addr)=bS at*;have a3:IntKind.i64.wrap ((j:Int)+1)=(j:Int)+1:=by simp[IntKind.wrap,IntKind.bits,IntKind.signed];omega
     have a4:IntKind.i64.wrap ((j:Int)+1+(k:Int))=(j:Int)+1+(k:Int):=by simp[IntKind.wrap,IntKind.bits,IntKind.signed];omega
     have a5:(0:Int)<=(j:Int)+5+(k:Int):=uA;have V:(j:Int)+5+(k:Int)<=(c:Int):=uA;have a6:(0:Int)<=(j:Int)+1+(k:Int):=uA;have a7:((j:Int)+5+(k:Int)).toNat=j+5+k:=uA;have a8:((j:Int)+1+(k:Int)).toNat=j+1+k:=uA;have a9:¬c=j+1+k:=uA;have ba:(j:Int)+1+(k:Int)<=max ((j:Int)+5+(k:Int)) 0:=uA;have b4:j+5+k-(j+1+k)=4:=uA;have bF:=bDr ch;have q:=d.out.below bF;refine az (fun u=>u.cell? ⟨m,4,none⟩=some (.slice P o.length Q)) (fun k=>decide (11<=k)) vk ?_;generalize ch.drew=F at*;have cs:F.cell? ⟨m,4,none⟩=some (.slice P o.length Q):=q.blk.cell 4;have aT:=S.out F q.bel;have ac:=bAl F (.cells #[.int .i64 t] 3);have x:=q.below ac;have U:(F.alloc (.cells #[.int .i64 t] 3)).cell? ⟨m,4,none⟩=some (.slice P o.length Q):=x.blk.cell 4;clear d bF;have d:Hid _:=q;have y:Hid _:=x;clear q x ac;refine ai 0 cs ?_;refine ai 1 cs ?_;refine ai 2 cs ?_;refine ai 3 cs ?_;refine ai 4 cs ?_;refine ai 5 cs ?_;refine ai 6 cs ?_;refine ai 7 cs ?_;refine aM 8 (.slice (some ⟨b,C+(j+1+k),none⟩) 4 (c-(j+1+k))) cs ?hyq8 ?_
     case hyq8=>(intro w W;(try dsimp only at W);go_simp;first|done|(intro hx;exfalso;omega)|(rw[B4 uA]))
     refine ah 9 fun p g=> ?_;go_wp2_with fail;refine aT.mono ?_;rintro e u ⟨rfl,B⟩;obtain rfl:=B.symm;clear B aT;go_wp2_with fail;refine ao g ?_;clear g p;refine ah 10 fun p g=> ?_;refine bU _ _ _ rfl (v:= .slice (some ⟨F.1.size,0,none⟩) 1 1) (w':=F.alloc (.cells #[.int .i64 t] 3)) ?bsq ?_
     case bsq=>
      simp only[wB,ws,wz];exact ey co (.int .i64 t) rfl F
     refine ao g ?_;clear g p;refine ah 11 fun p g=> ?_;refine je _ _ co rfl (m+1) P o.length Q (on o) rfl d.out.own.kids (.int .i64 t) rfl rfl (by first|omega|(show 0<=1048576;omega)) uA d.out.blk.lt ?_;intro bu br bv Z J G T;refine ao g ?_;clear g p;have ab:Own1 3 (m+1) bv (some ⟨bu,0,none⟩) (o++[t]).length br (on (o++[t])):=by rw[wb,<-fv];exact Z
     have Y:KeepT 9 (F.alloc (.cells #[.int .i64 t] 3)) bv:=bD y.out.own.kids G uB;have I:=d.out.put (v':=⟨none,0,none,0,some ⟨bu,0,none⟩,br,bS,aA⟩) (K':=⟨0,false,[],[],o++[t],D++[s]⟩) J 4 (.slice (some ⟨bu,0,none⟩) (o.length+1) br) (by first|(simp[ndc];done)|simp[ndc,aF]) ⟨cQ _ _ _,cQ _ _ _,ab,y.out.own.signs.keep Y⟩ (fun _ e=>by cases e);have L:Blk bv 176 m _:=(J.block m (x3 _)).trans d.out.blk;have a0:bv.cell? ⟨m,4,none⟩=some (.slice P o.length Q):=L.cell 4;have a2:=L.free 4;clear d y;have d:Hid _:=I;clear I L Z J G T ab Y U;refine ah 12 fun p g=> ?_;go_wp2_with fail;refine ao g ?_;clear g p;refine ah 13 fun p g=> ?_;go_wp2_with fail;refine ao g ?_;clear g p;refine bi ?_;clear a0 a2 cs;clear a3 a4 a5 V a6 a7 a8 a9 ba b4;go_wp2;go_roundw
     case rel=>
      refine⟨j+5+k,some ⟨bu,0,none⟩,bS,br,aA,rest++[(s,t)],uA,by go_num,by rw[wb];show rest.length+1<=_;omega,N.out,?_⟩;have e:di f (rest++[(s,t)])=⟨0,false,[],[],o++[t],D++[s]⟩:=by rw[<-bA.out.1,<-bA.out.2];simp[di]
      rw[e];exact d.out
     case measure=>simp[intOf];omega
    ·rw[CP g];have X:eJ (l.drop j)=false:=by
      cases h:eJ (l.drop j)with
      |false=>rfl
      |true=>
       have:=gJ.1 h;rw[aS.out]at this;exact absurd ⟨this.1,this.2.1⟩ g
     have A:inP l=none:=by unfold inP;rw[B4 uA,O.out,ji (by rw[an.out];omega) X];rfl
     have N:Hid _:=A;clear A X;have am:=d.out.blk;have M:=d.out.res;have ak:=M.setRow (ndc v (di f rest));go_wp2_with (first|(refine B5 rfl 176 _ rfl m rfl 176 (ndc v (di f rest)).toArray (0,0) _ am underlying176 rfl aD ?_)|(refine B8 rfl 176 _ _ rfl w.1.size (ndc v (di f rest)).toArray rfl rfl 176 _ M aD rfl (cy _ _) ?_));refine B3 (v:= .tuple #[.agg (ndc v (di f rest)).toArray,.bool false]) ?_ rfl ⟨v,(di f rest),false,rfl,d.out.fin.1,d.out.fin.2,v6 ⟨rfl,N.out⟩⟩;exact cI results141 _ _ w.1.size 176 (ndc v (di f rest)).toArray _ rfl ak underlying176 rfl aD rfl
   ·have b6:(n:Int)< (j:Int)+5+(k:Int):=uA;have X:eJ (l.drop j)=false:=by
     cases h:eJ (l.drop j)with
     |false=>rfl
     |true=>
      have:=gJ.1 h;rw[aS.out,an.out]at this;omega
    have A:inP l=none:=by unfold inP;rw[B4 uA,O.out,ji (by rw[an.out];omega) X];rfl
    have N:Hid _:=A;clear A X;have am:=d.out.blk;have M:=d.out.res;have ak:=M.setRow (ndc v (di f rest));go_wp2_with (first|(refine B5 rfl 176 _ rfl m rfl 176 (ndc v (di f rest)).toArray (0,0) _ am underlying176 rfl aD ?_)|(refine B8 rfl 176 _ _ rfl w.1.size (ndc v (di f rest)).toArray rfl rfl 176 _ M aD rfl (cy _ _) ?_));refine B3 (v:= .tuple #[.agg (ndc v (di f rest)).toArray,.bool false]) ?_ rfl ⟨v,(di f rest),false,rfl,d.out.fin.1,d.out.fin.2,v6 ⟨rfl,N.out⟩⟩;exact cI results141 _ _ w.1.size 176 (ndc v (di f rest)).toArray _ rfl ak underlying176 rfl aD rfl
  ·have e:j=n:=uA;subst e;have bW:¬(j:Int)< (j:Int):=uA;have A:inP l=some ((strOfNums [],f)::rest):=by
    unfold inP;rw[B4 uA,O.out,gZ (by rw[wi,ag];omega),<-b0.out];simp[eg]
   have N:Hid _:=A;clear A af;have am:=d.out.blk;have M:=d.out.res;have ak:=M.setRow (ndc v (di f rest));go_wp2_with (first|(refine B5 rfl 176 _ rfl m rfl 176 (ndc v (di f rest)).toArray (0,0) _ am underlying176 rfl aD ?_)|(refine B8 rfl 176 _ _ rfl w.1.size (ndc v (di f rest)).toArray rfl rfl 176 _ M aD rfl (cy _ _) ?_));refine B3 (v:= .tuple #[.agg (ndc v (di f rest)).toArray,.bool true]) ?_ rfl ⟨v,di f rest,v6 ⟨rfl,d.out.fin.1,d.out.fin.2,_,N.out,(Ax _ _ _).symm⟩⟩;exact cI results141 _ _ w.1.size 176 (ndc v (di f rest)).toArray _ rfl ak underlying176 rfl aD rfl
def orE:List (ByteArray×ByteArray)->ByteArray×ByteArray->Option (ByteArray×ByteArray)
 |[],x=>some x
 |e::es,x=>if sl x.1 e.1=true/\sle x.2 e.1=true then orE es (e.1,x.2)else none
def orT:Tr->Bool->ByteArray×ByteArray->Option (ByteArray×ByteArray)
 | .leaf _ es,_,x=>orE es x
 | .node _ ks,_,x=>orT ks true x
 | .nil,_,x=>some x
 | .cons s t ks,b,x=>if b=true\/sl x.1 s=true then(orT t true (x.1,if b=true then x.2 else s)).bind (orT ks false)else none
def inB(low high k:ByteArray):Bool:=sle low k&&(high.size==0||sl k high)
def iQ:List (ByteArray×ByteArray)->Bool
 |[]=>true
 |[_]=>true
 |a::b::es=>sl a.1 b.1&&iQ (b::es)
def j7(low s:ByteArray):ByteArray:=if sl s low then low else s
def nn(high s:ByteArray):ByteArray:=if high.size==0||sl s high then s else high
def hdS:Tr->Option ByteArray
 | .cons s _ _=>some s
 |_=>none
def jo(high:ByteArray):Option ByteArray->ByteArray
 |some s=>nn high s
 |none=>high
def okT:Tr->Bool->ByteArray->ByteArray->Bool
 | .leaf _ es,_,low,high=>es.all (fun e=>inB low high e.1)&&iQ es
 | .node _ ks,_,low,high=>okT ks true low high
 | .nil,_,_,_=>true
 | .cons s t ks,b,low,high=>okT t true (if b=true then low else j7 low s) (jo high (hdS ks))&&okT ks false low high
def aQ:Tr->List ByteArray
 | .leaf _ es=>es.map (·.1)
 | .node _ ks=>aQ ks
 | .nil=>[]
 | .cons _ t ks=>aQ t++aQ ks
def lR(l:ByteArray)(ks:Tr):Prop:= ∀s,hdS ks=some s->sl l s=true
def inn:Tr->Bool->Prop
 | .leaf _ es,_=>(es.map (·.1)).Pairwise (fun a b=>sl a b=true)
 | .node _ ks,_=>inn ks true
 | .nil,_=>True
 | .cons s t ks,b=>inn t true/\(b=false->∀k∈aQ t,sle s k=true)/\(∀k∈aQ t,lR k ks)/\inn ks false
def isT:Tr->Bool
 | .leaf _ _=>true
 | .node _ _=>true
 |_=>false
def full:Tr->Bool->Prop
 | .leaf _ es,_=>es≠[]
 | .node _ ks,_=>(∃s t r,ks= .cons s t r)/\full ks true
 | .nil,_=>True
 | .cons s t ks,b=>(b=false->1<=s.size)/\isT t=true/\isT ks=false/\full t true/\full ks false
theorem Az{es}{a b:ByteArray×ByteArray}(h:((a::b::es).map (·.1)).Pairwise (fun x y=>sl x y=true)):sl a.1 b.1=true:=by
 simp only[ws,zs]at h;exact h.1 b.1 vo
theorem qg:∀es:List (ByteArray×ByteArray),iQ es=true↔(es.map (·.1)).Pairwise (fun a b=>sl a b=true)
 |[]=>by simp[iQ]
 |[a]=>by simp[iQ]
 |a::b::es=>by
  have ih:=qg (b::es);constructor
  ·intro h;simp only[iQ,wX]at h;have d:=ih.1 h.2;rw[ws,zs];refine⟨fun k c=> ?_,d⟩;rw[ws]at c d;rcases w3.1 c with rfl|c
   ·exact h.1
   ·exact iq h.1 (List.rel_of_pairwise_cons d c)
  ·intro h;simp only[iQ,wX];exact⟨Az h,ih.2 (by rw[ws,zs]at h;exact h.2)⟩
theorem lS{low a k}:inB low a k=true↔sle low k=true/\(a.size=0\/sl k a=true):=by
 simp[inB]
theorem AA{low s a k}:inB (j7 low s) a k=true↔inB low a k=true/\sle s k=true:=by
 rw[lS,lS];unfold j7;split
 ·rename_i h;exact⟨fun x=>⟨x,jf (m6 h) x.1⟩,fun x=>x.1⟩
 ·rename_i h;have b:sle low s=true:=by unfold sle;simpa using h
  exact⟨fun x=>⟨⟨jf b x.1,x.2⟩,x.1⟩,fun x=>⟨x.2,x.1.2⟩⟩
theorem AB{low s c k}(e:1<=s.size):inB low (nn c s) k=true↔inB low c k=true/\sl k s=true:=by
 rw[lS,lS];unfold nn;split
 ·rename_i h;simp only[Bool.or_eq_true,beq_iff_eq]at h;constructor
  ·rintro⟨b,a⟩;rcases a with a|a
   ·omega
   ·exact⟨⟨b,by rcases h with h|h;exact v7 h;exact v6 (iq a h)⟩,a⟩
  ·rintro⟨⟨b,_⟩,a⟩;exact⟨b,v6 a⟩
 ·rename_i h;simp only[Bool.or_eq_true,beq_iff_eq,not_or]at h;have d:sle c s=true:=by unfold sle;simpa using h.2
  constructor
  ·rintro⟨b,a⟩;rcases a with a|a
   ·exact absurd a h.1
   ·exact⟨⟨b,v6 a⟩,tR a d⟩
  ·rintro⟨⟨b,a⟩,_⟩;exact⟨b,a⟩
theorem AD{low a k ks}(b:∀s,hdS ks=some s->1<=s.size):inB low (jo a (hdS ks)) k=true↔inB low a k=true/\lR k ks:=by
 unfold lR;cases h:hdS ks with
 |none=>simp[jo]
 |some s=>simp only[jo,AB (b s h),Option.some.injEq];exact⟨fun x=>⟨x.1,fun _ e=>e▸x.2⟩,fun x=>⟨x.1,x.2 s rfl⟩⟩
theorem AE{ks}(h:full ks false):∀s,hdS ks=some s->1<=s.size:=fun s e=>by
 cases ks with
 |cons a t r=>rw[hdS]at e;cases e;rw[full]at h;exact h.1 rfl
 |_=>simp[hdS]at e
theorem no:∀(t:Tr)(b:Bool)(low c:ByteArray),full t b->(okT t b low c=true↔inn t b/\∀k∈aQ t,inB low c k=true)
 | .leaf id es,_,low,c,_=>by
  simp only[okT,wX,inn,aQ,qg,y4,x7];constructor
  ·rintro⟨l,m⟩;exact⟨m,by rintro k ⟨e,n,rfl⟩;exact l e n⟩
  ·rintro⟨l,m⟩;exact⟨fun e n=>m _ ⟨e,n,rfl⟩,l⟩
 | .node id ks,_,low,c,h=>by
  rw[full]at h;rw[okT,inn,aQ];exact no ks true low c h.2
 | .nil,_,_,_,_=>by simp[okT,inn,aQ]
 | .cons s t ks,b,low,c,h=>by
  rw[full]at h;rw[okT,inn,aQ,wX,no t true _ _ h.2.2.2.1,no ks false low c h.2.2.2.2];simp only[AD (AE h.2.2.2.2),w6];cases b with
  |true=>
   simp only[if_true];constructor
   ·rintro⟨⟨f,d⟩,g,i⟩;exact⟨⟨f,fun x=>absurd x uB,fun k a=>(d k a).2,g⟩,fun k a=>by rcases a with a|a;exact(d k a).1;exact i k a⟩
   ·rintro⟨⟨f,_,g,i⟩,j⟩;exact⟨⟨f,fun k a=>⟨j k (v7 a),g k a⟩⟩,i,fun k a=>j k (v6 a)⟩
  |false=>
   simp only[Bool.false_eq_true,if_false,AA,true_implies];constructor
   ·rintro⟨⟨f,d⟩,g,i⟩;exact⟨⟨f,fun k a=>(d k a).1.2,fun k a=>(d k a).2,g⟩,fun k a=>by rcases a with a|a;exact(d k a).1.1;exact i k a⟩
   ·rintro⟨⟨f,d,g,i⟩,j⟩;exact⟨⟨f,fun k a=>⟨⟨j k (v7 a),d k a⟩,g k a⟩⟩,i,fun k a=>j k (v6 a)⟩
theorem lT:∀(t:Tr)(b:Bool),full t b->isT t=true->aQ t≠[]
 | .leaf id es,_,h,_=>by simpa [aQ,full]using h
 | .node id (.cons s t r),_,h,_=>by
  rw[full]at h;have a:=h.2;rw[full]at a;simp only[aQ];intro e;exact lT t true a.2.2.2.1 a.2.1 (List.append_eq_nil_iff.1 e).1
 | .node id (.leaf _ _),_,h,_=>by rw[full]at h;obtain⟨⟨_,_,_,e⟩,_⟩:=h;cases e
 | .node id (.node _ _),_,h,_=>by rw[full]at h;obtain⟨⟨_,_,_,e⟩,_⟩:=h;cases e
 | .node id .nil,_,h,_=>by rw[full]at h;obtain⟨⟨_,_,_,e⟩,_⟩:=h;cases e
 | .nil,_,_,h=>by simp[isT]at h
 | .cons _ _ _,_,_,h=>by simp[isT]at h
def fy(l:ByteArray):List ByteArray->ByteArray
 |[]=>l
 |k::ks=>fy k ks
theorem j8{l}:∀{ks:List ByteArray},ks≠[]->fy l ks∈ks
 |[],h=>absurd rfl h
 |[k],_=>by simp[fy]
 |k::a::ks,_=>by
  have:=j8 (l:=k) (ks:=a::ks) vo;rw[fy];exact AC _ this
theorem t8(l):∀(a b:List ByteArray),fy l (a++b)=fy (fy l a) b
 |[],b=>rfl
 |k::a,b=>by simp only[z1,fy];exact t8 k a b
theorem AG(a):sle a a=true:=by unfold sle;rw[lO];rfl
theorem ua{l}:∀{ks:List ByteArray},ks.Pairwise (fun a b=>sl a b=true)->∀k∈ks,sle k (fy l ks)=true
 |[],_,k,c=>by simp at c
 |[a],_,k,c=>by simp at c;subst c;exact AG _
 |a::b::ks,h,k,c=>by
  rw[zs]at h;rw[fy];rcases w3.1 c with rfl|c
  ·exact m6 (h.1 _ (j8 vo))
  ·exact ua (l:=a) h.2 k c
theorem qh:∀(es:List (ByteArray×ByteArray))(l s:ByteArray)(x:ByteArray×ByteArray),orE es (l,s)=some x↔((es.map (·.1)).Pairwise (fun a b=>sl a b=true)/\∀k∈es.map (·.1),sl l k=true/\sle s k=true)/\x=(fy l (es.map (·.1)),s)
 |[],l,s,x=>by
  rw[orE];constructor
  ·intro h;cases h;exact⟨⟨vo,vo⟩,rfl⟩
  ·rintro⟨_,rfl⟩
   rfl
 |e::es,l,s,x=>by
  rw[orE];simp only[ws,fy];by_cases h:sl l e.1=true/\sle s e.1=true
  ·rw[B4 h,qh es e.1 s x,zs];constructor
   ·rintro⟨⟨g,d⟩,f⟩;refine⟨⟨⟨fun k c=>(d k c).1,g⟩,fun k c=> ?_⟩,f⟩;rcases w3.1 c with rfl|c
    ·exact h
    ·exact⟨iq h.1 (d k c).1,(d k c).2⟩
   ·rintro⟨⟨⟨g,d⟩,f⟩,i⟩;exact⟨⟨d,fun k c=>⟨g k c,(f k (AC _ c)).2⟩⟩,i⟩
  ·rw[CH h];constructor
   ·intro x;cases x
   ·rintro⟨⟨_,f⟩,_⟩;exact absurd (f e.1 vo) h
theorem ub:∀(ks:Tr)(d:ByteArray),full ks false->inn ks false->hdS ks=some d->∀k∈aQ ks,sle d k=true
 | .cons s t ks,d,b,h,e,k,a=>by
  rw[hdS]at e;cases e;rw[inn]at h;rw[full]at b;rw[aQ,w6]at a;rcases a with a|a
  ·exact h.2.1 rfl k a
  ·obtain⟨k0,c⟩:=List.exists_mem_of_ne_nil _ (lT t true b.2.2.2.1 b.2.1);cases ks with
   |nil=>simp[aQ]at a
   |leaf _ _=>have:=b.2.2.1;simp[isT]at this
   |node _ _=>have:=b.2.2.1;simp[isT]at this
   |cons f i r=>
    have g:=ub (.cons f i r) f b.2.2.2.2 h.2.2.2 rfl k a;exact jf (h.2.1 rfl k0 c) (jf (m6 (h.2.2.1 k0 c f rfl)) g)
 | .nil,_,_,_,e,_,_=>by simp[hdS]at e
 | .leaf _ _,_,_,_,e,_,_=>by simp[hdS]at e
 | .node _ _,_,_,_,e,_,_=>by simp[hdS]at e
theorem lU:∀(t:Tr)(b:Bool),full t b->inn t b->(aQ t).Pairwise (fun a b=>sl a b=true)
 | .leaf id es,_,_,h=>by simpa [inn,aQ]using h
 | .node id ks,_,d,h=>by
  rw[full]at d;rw[inn]at h;rw[aQ];exact lU ks true d.2 h
 | .nil,_,_,_=>by simp[aQ]
 | .cons s t ks,b,d,h=>by
  rw[inn]at h;rw[full]at d;rw[aQ,List.pairwise_append];refine⟨lU t true d.2.2.2.1 h.1,lU ks false d.2.2.2.2 h.2.2.2,fun a g c f=> ?_⟩;cases ks with
  |nil=>simp[aQ]at f
  |leaf _ _=>have:=d.2.2.1;simp[isT]at this
  |node _ _=>have:=d.2.2.1;simp[isT]at this
  |cons e i r=>exact tR (h.2.2.1 a g e rfl) (ub (.cons e i r) e d.2.2.2.2 h.2.2.2 rfl c f)
theorem jp:∀(t:Tr)(b:Bool)(l s:ByteArray)(x:ByteArray×ByteArray),full t b->orT t b (l,s)=some x->
 inn t b/\(∀k∈aQ t,sl l k=true)/\((isT t=true\/b=true)->∀k∈aQ t,sle s k=true)/\(b=false->lR l t)/\x.1=fy l (aQ t)/\((isT t=true\/sle s l=true)->sle x.2 x.1=true)
 | .leaf id es,b,l,s,x,c,h=>by
  rw[orT,qh]at h;obtain⟨⟨n,i⟩,rfl⟩:=h;refine⟨by simpa [inn]using n,fun k a=>(i k (by simpa [aQ]using a)).1,fun _ k a=>(i k (by simpa [aQ]using a)).2,fun _ s e=>by simp[hdS]at e,by simp[aQ],fun _=> ?_⟩;have o:=j8 (l:=l) (ks:=es.map (·.1)) (by simpa [full]using c);exact(i _ o).2
 | .node id (.cons q t ks),b,l,s,x,c,h=>by
  rw[full]at c;rw[orT]at h;have ih:=jp (.cons q t ks) true l s x c.2 h;have p:aQ (.cons q t ks)≠[]:=lT (.node id (.cons q t ks)) b (by rw[full];exact c) rfl;have o:=j8 (l:=l) p;rw[inn,aQ];refine⟨ih.1,ih.2.1,fun _=>ih.2.2.1 (v6 rfl),fun _ s e=>by simp[hdS]at e,ih.2.2.2.2.1,fun _=> ?_⟩;have m:=c.2;rw[full]at m;rw[orT,B4 (v7 rfl)]at h;obtain⟨f,n,i⟩:=xc.1 h;have H:=jp t true l _ f m.2.2.2.1 n;have I:=jp ks false f.1 f.2 x m.2.2.2.2 i;exact I.2.2.2.2.2 (v6 (H.2.2.2.2.2 (v7 m.2.1)))
 | .node id (.leaf _ _),_,_,_,_,h,_=>by rw[full]at h;obtain⟨⟨_,_,_,e⟩,_⟩:=h;cases e
 | .node id (.node _ _),_,_,_,_,h,_=>by rw[full]at h;obtain⟨⟨_,_,_,e⟩,_⟩:=h;cases e
 | .node id .nil,_,_,_,_,h,_=>by rw[full]at h;obtain⟨⟨_,_,_,e⟩,_⟩:=h;cases e
 | .nil,b,l,s,x,_,h=>by
  rw[orT]at h;cases h;exact⟨by simp[inn],by simp[aQ],by simp[aQ],fun _ s e=>by simp[hdS]at e,by simp[aQ,fy],fun h=>by rcases h with h|h;simp[isT]at h;exact h⟩
 | .cons q t ks,b,l,s,x,c,h=>by
  rw[orT]at h;rw[full]at c;by_cases g:b=true\/sl l q=true
  ·rw[B4 g]at h;obtain⟨f,n,i⟩:=xc.1 h;obtain⟨v,w,B,_,r,C⟩:=jp t true l _ f c.2.2.2.1 n;obtain⟨D,y,_,E,F,G⟩:=jp ks false f.1 f.2 x c.2.2.2.2 i;have p:=lT t true c.2.2.2.1 c.2.1;have o:f.1∈aQ t:=by rw[r];exact j8 p
   have u:∀k∈aQ t,sle k f.1=true:=by rw[r];exact ua (lU t true c.2.2.2.1 v)
   have j:=B (v7 c.2.1);rw[inn,aQ];refine⟨⟨v,fun d k a=> ?_,fun k a A e=>Am (u k a) (E rfl A e),D⟩,fun k a=> ?_,fun d k a=> ?_,fun d A e=> ?_,by rw[t8,<-r];exact F,fun _=>G (v6 (C (v7 c.2.1)))⟩
   ·have:=j k a;rw[CH (by rw[d];decide)]at this;exact this
   ·rw[w6]at a;rcases a with a|a
    ·exact w k a
    ·exact iq (w _ o) (y k a)
   ·have z:b=true:=by rcases d with d|d;simp[isT]at d;exact d
    rw[B4 z]at j;rw[w6]at a;rcases a with a|a
    ·exact j k a
    ·exact jf (j _ o) (m6 (y k a))
   ·rw[hdS]at e;cases e;rcases g with g|g
    ·rw[d]at g;exact absurd g uB
    ·exact g
  ·rw[CH g]at h;cases h
theorem nr:∀(t:Tr)(b:Bool)(l s:ByteArray),full t b->inn t b->(∀k∈aQ t,sl l k=true)->((isT t=true\/b=true)->∀k∈aQ t,sle s k=true)->(b=false->lR l t)->∃x,orT t b (l,s)=some x
 | .leaf id es,b,l,s,a,c,e,f,_=>⟨_,by rw[orT,qh];exact⟨⟨by simpa [inn]using c,fun k d=>⟨e k (by simpa [aQ]using d),f (v7 rfl) k (by simpa [aQ]using d)⟩⟩,rfl⟩⟩
 | .node id ks,b,l,s,a,c,e,f,_=>by
  rw[full]at a;rw[inn]at c;rw[aQ]at e f;rw[orT];exact nr ks true l s a.2 c e (fun _=>f (v7 rfl)) (fun h=>absurd h uB)
 | .nil,b,l,s,_,_,_,_,_=>⟨_,by rw[orT]⟩
 | .cons o t ks,b,l,s,a,c,e,f,r=>by
  have i:=lU _ b a c;rw[full]at a;rw[inn]at c;rw[aQ]at e f;rw[aQ,List.pairwise_append]at i;obtain⟨j,m⟩:=nr t true l (if b=true then s else o) a.2.2.2.1 c.1 (fun k d=>e k (List.mem_append_left _ d)) (fun _ k d=>by
   by_cases g:b=true
   ·rw[B4 g];exact f (v6 g) k (List.mem_append_left _ d)
   ·rw[CH g];exact c.2.1 (by simpa using g) k d) (fun h=>absurd h uB)
  have p:=(jp t true l _ j a.2.2.2.1 m).2.2.2.2.1;have n:j.1∈aQ t:=by rw[p];exact j8 (lT t true a.2.2.2.1 a.2.1)
  obtain⟨x,q⟩:=nr ks false j.1 j.2 a.2.2.2.2 c.2.2.2 (fun k d=>i.2.2 _ n k d) (fun h=>by
   rcases h with h|h
   ·rw[a.2.2.1]at h;exact absurd h uB
   ·exact absurd h uB) (fun _=>c.2.2.1 _ n)
  refine⟨x,?_⟩;rw[orT,B4,m]
  ·exact q
  ·by_cases g:b=true
   ·exact v7 g
   ·exact v6 (r (by simpa using g) o rfl)
theorem AH{k}(h:1<=k.size):sl (strOfNums []) k=true:=by
 have e:(strOfNums []).toList=[]:=by rw[ByteArray.toList_eq];rfl
 have b:k.toList.length=k.size:=by rw[ByteArray.toList_eq];rfl
 unfold sl;rw[e];cases hx:k.toList with
 |nil=>rw[hx]at b;simp at b;omega
 |cons a x=>rfl
theorem AI(k):sle (strOfNums []) k=true:=by
 have e:(strOfNums []).toList=[]:=by rw[ByteArray.toList_eq];rfl
 unfold sle sl;rw[e];cases k.toList<;>rfl
theorem AJ{t}(b:full t true)(d:∀k∈aQ t,1<=k.size):okT t true (strOfNums []) (strOfNums [])=(orT t true (strOfNums [],strOfNums [])).isSome:=by
 rw[Bool.eq_iff_iff,no t _ _ _ b,Option.isSome_iff_exists];constructor
 ·rintro⟨a,_⟩;exact nr t true _ _ b a (fun k hx=>AH (d k hx)) (fun _ k _=>AI k) (fun h=>absurd h uB)
 ·rintro⟨x,hx⟩;obtain⟨a,e,c,_⟩:=jp t true _ _ x b hx;exact⟨a,fun k hx=>lS.2 ⟨c (v6 rfl) k hx,v7 rfl⟩⟩
abbrev LSg:=ByteArray×ByteArray
def wkT(P:Pg)(f:Nat)(steps:Int)(st:St)(x:LSg)(id:Int):Option (Tr×St×LSg):=(rdT P f steps st id).bind fun y=>(orT y.1 true x).map fun z=>(y.1,y.2,z)
def wkK(r:St->LSg->Int->Option (Tr×St×LSg)):List (ByteArray×Int)->Bool->St->LSg->Option (Tr×St×LSg)
 |[],_,st,x=>some (.nil,st,x)
 |(s,id)::ls,b,st,x=>if b=true\/sl x.1 s=true then(r st (x.1,if b=true then x.2 else s) id).bind fun y=>(wkK r ls false y.2.1 y.2.2).map fun z=>(.cons s y.1 z.1,z.2)else none
theorem uc(P f steps):∀(ls:List (ByteArray×Int))(b:Bool)(a:St)(x:LSg),wkK (wkT P f steps) ls b a x=(rdK (rdT P f steps) ls a).bind fun y=>(orT y.1 b x).map fun g=>(y.1,y.2,g)
 |[],b,a,x=>by simp[wkK,rdK,orT]
 |(s,id)::ls,b,a,x=>by
  rw[wkK,rdK];cases j:rdT P f steps a id with
  |none=>
   simp only[Option.bind_none];split
   ·simp[wkT,j]
   ·rfl
  |some y=>
   simp only[xC];by_cases d:b=true\/sl x.1 s=true
   ·rw[B4 d];cases e:orT y.1 true (x.1,if b=true then x.2 else s)with
    |none=>
     have i:wkT P f steps a (x.1,if b=true then x.2 else s) id=none:=by simp only[wkT,j,xC,e,Option.map_none]
     rw[i,Option.bind_none];cases k:rdK (rdT P f steps) ls y.2 with
     |none=>rfl
     |some g=>
      simp only[xC];have c:orT (.cons s y.1 g.1) b x=none:=by rw[orT,B4 d,e];rfl
      rw[c]
      rfl
    |some o=>
     have i:wkT P f steps a (x.1,if b=true then x.2 else s) id=some (y.1,y.2,o):=by simp only[wkT,j,xC,e,Option.map_some]
     rw[i,xC,uc P f steps ls false y.2 o];cases k:rdK (rdT P f steps) ls y.2 with
     |none=>rfl
     |some g=>
      simp only[xC];have c:orT (.cons s y.1 g.1) b x=orT g.1 false o:=by rw[orT,B4 d,e];rfl
      rw[c];cases orT g.1 false o<;>rfl
   ·rw[CH d];cases k:rdK (rdT P f steps) ls y.2 with
    |none=>rfl
    |some g=>
     simp only[xC];have c:orT (.cons s y.1 g.1) b x=none:=by rw[orT,CH d]
     rw[c]
     rfl
def leR(l:List Int)(x:LSg):Option (List (ByteArray×ByteArray)×LSg):=(lfP l).bind fun es=>if es.isEmpty then none else(orE es x).map fun z=>(es,z)
theorem AK{P f steps a x id}(h:dQ P a id=false):wkT P (f+1) steps a x id=none:=by
 unfold wkT;rw[rdT,CH (by rw[h];decide)]
 rfl
theorem AL{P f steps a x id}(h:P.kd id=2)(b:¬(a.tall<0\/a.tall=steps)):wkT P (f+1) steps a x id=none:=by
 unfold wkT;rw[rdT];cases dQ P a id with
 |true=>rw[B4 rfl,B4 h,CH b];rfl
 |false=>rfl
theorem ud{P f steps a x id}(b:dQ P a id=true)(h:P.kd id=2)(c:a.tall<0\/a.tall=steps):wkT P (f+1) steps a x id=(leR (P.bd id) x).map fun y=>(.leaf id y.1,⟨id::a.seen,steps⟩,y.2):=by
 unfold wkT leR;rw[rdT,B4 b,B4 h,B4 c];cases lfP (P.bd id)with
 |none=>rfl
 |some es=>
  simp only[xC];cases d:es.isEmpty with
  |true=>rfl
  |false=>
   simp only[Bool.false_eq_true,if_false,xC,orT];cases orE es x<;>rfl
theorem AM{P f steps a x id}(b:dQ P a id=true)(h:P.kd id≠2):wkT P (f+1) steps a x id=(inP (P.bd id)).bind fun ls=>(wkK (wkT P f (steps+1)) ls true ⟨id::a.seen,a.tall⟩ x).map fun y=>(.node id y.1,y.2.1,y.2.2):=by
 unfold wkT;rw[rdT,B4 b,CH h];cases inP (P.bd id)with
 |none=>rfl
 |some ls=>
  simp only[xC];rw[show(fun a x id=>(rdT P f (steps+1) a id).bind fun y=>(orT y.1 true x).map fun c=>(y.1,y.2,c))=wkT P f (steps+1)from rfl,uc];cases rdK (rdT P f (steps+1)) ls ⟨id::a.seen,a.tall⟩with
  |none=>rfl
  |some y=>
   simp only[Option.map_some,xC,orT];cases orT y.1 true x<;>rfl
def dw:List (ByteArray×Tr)->Tr->Tr
 |[],r=>r
 |x::xs,r=> .cons x.1 x.2 (dw xs r)
theorem ue(xs x r):dw (xs++[x]) r=dw xs (.cons x.1 x.2 r):=by
 induction xs with
 |nil=>rfl
 |cons y a ih=>simp only[z1,dw,ih]
