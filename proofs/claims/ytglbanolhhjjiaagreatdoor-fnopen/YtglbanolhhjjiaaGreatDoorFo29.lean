import Derived.Test.YtglbanolhhjjiaaGreatDoorFo28
namespace Go.Proofs.YtglbanolhhjjiaaGreatDoor
open Go.Proofs.Tryz
open Go.RowKit
set_option linter.unusedVariables false
set_option maxRecDepth 100000
set_option maxHeartbeats 32000000
section
def fb(P P':List Nat)(m:Nat):Prop:=P'.Nodup/\∀j∈P',j∈P\/m<=j
variable {B0 g:Nat} {rest:List Value} {rt:Int} {w:World} {ns:List NdK} {nv:Nat->NdV} {na:Option Addr} {nc:Nat}
def xU(ms:List NdK)(P P':List Nat)(m:Nat)(e:Ending):Option Kd->Prop
 |none=>e= .returned (.tuple #[.int .i64 (-1),.string ⟨#[]⟩])/\fb P P' m
 |some x=> ∃(q:Int)(R:List Nat),e= .returned (.tuple #[.int .i64 q,.string x.1])/\0<=q/\SRep ms x.2 R [(strOfNums [],q)]/\fb P (P'++R) m
def xV(B0 g:Nat)(rest:List Value)(rt:Int)(na:Option Addr)(w:World)(ns:List NdK)(P:List Nat)(p:Int)(d:Nat)(r:Tr×Option Kd)(e:Ending)(w':World):Prop:=
 ∃(ms:List NdK)(P':List Nat),UQ B0 g rest rt na w w' ms/\(∀j,j<ns.length->j∉P->ms[j]?=ns[j]?)/\ns.length<=ms.length/\ms.length<=ns.length+d/\SRep ms r.1 P' [(strOfNums [],p)]/\xU ms P P' ns.length e r.2
theorem FE(k v es):(il k (es.map (·.1))=false->(fp k v es).map (·.1)=eE (es.map (·.1)) (plc k (es.map (·.1))) k/\(fp k v es).map (·.2)=eE (es.map (·.2)) (plc k (es.map (·.1))) v)/\(il k (es.map (·.1))=true->(fp k v es).map (·.1)=es.map (·.1)/\(fp k v es).map (·.2)=eE (dx (es.map (·.2)) (plc k (es.map (·.1)))) (plc k (es.map (·.1))) v):=by
 refine⟨fun h=> ?_,fun h=> ?_⟩
 ·simp[fp,h,eE,List.map_take,List.map_drop]
 ·have b:=h;unfold il at b;rw[wX,decide_eq_true_iff,beq_iff_eq]at b;obtain⟨c,d⟩:=b;have e:=pY d;have f:plc k (es.map (·.1))<=(es.map (·.2)).length:=by simpa using A2 c
  simp only[fp,h,if_true,eE,dx,AF,ws,BB,BC];generalize plc k (es.map (·.1))=p at*;refine⟨?_,?_⟩
  ·conv=>rhs;rw[<-my (strOfNums []) c,e]
  ·have a:((es.map (·.2)).take p).length=p:=by rw[wR];omega
   rw[List.take_left' a,List.drop_left' a]
theorem FF(bv:USt B0 g rest rt w ns nv na nc){p id es}(k v)(am:ns[p]?=some (ndL id es))(dE:lSz es<=240)(ca:eOk (k,v))(dp:ns.length<=1048575):
 Calls prog 132 #[.pointer (some ⟨g,0,none⟩),.int .i64 (p:Nat),.string k,.string v] w fun e w'=>xV B0 g rest rt na w ns [p] p 1 (ctL (fp k v es)) e w':=by
 have M:=im es;have dq:=wj k v es;have dl:=mw ca;have bE:=FE k v es;generalize b9:fp k v es=a at*;have ch:Hid _:=bv;have da:Hid _:=am;obtain⟨b,rfl,X,cL,Z⟩:=bv.cells am;have cr:w.cell? ⟨g,0,none⟩=some (.slice (some ⟨b,0,none⟩) ns.length nc):=bv.blk.cell 0;have G:Hid ((ndL id es).keys.length=es.length/\(ndL id es).vals.length=es.length):=by show _/\_;simp[ndL]
 have bs:=bAl w (.cells (ndc (nv p) (ndL id es)).toArray 176);have cV:=aq w 176 (ndc (nv p) (ndL id es)).toArray;have cl:=cL.below bs;have c1:(prog.info? 176).map (·.size)=some (ndc (nv p) (ndL id es)).length:=aD;have cS:=qZ k (es.map (·.1));rw[y2]at cS;have aS:Hid _:=bE;clear bE b9;go_enter func132,ntmps132;go_upto_region 2 with(first|(refine dG rfl 176 _ rfl b (p*6) rfl (ndc (nv p) (ndL id es)) _ X underlying176 rfl c1 ?_)|(refine bt rfl 176 _ _ rfl w (ndc aF nd0).toArray (ndc (nv p) (ndL id es)).toArray 176 rfl rfl aD rfl (cy _ _) ?_))
 change Code.wp _ _ _ _ (w.alloc (.cells (ndc (nv p) (ndL id es)).toArray 176));generalize w.alloc (.cells (ndc (nv p) (ndL id es)).toArray 176)=c2 at*;have ab:Blk c2 176 w.1.size (ndc (nv p) (ndL id es)):=cV;have cp:c2.cell? ⟨w.1.size,0,none⟩=some (.int .i64 id):=ab.cell 0;have cz:=ab.free 0;have W:Hid _:=ab;clear cV ab cr X cL;go_upto_region 3 with fail
 have bn:=ax c2 w.1.size 0 (.int .i64 0);have Q:=Blk.set W.out 0 (.int .i64 0);have C:=cl.keep (aw bn W.out uB) (aw bn W.out uB);have cn:=bs.trans (bn.below t6 bs.size);clear W cl bs bn cp cz bv am c1;generalize c2.setCell ⟨w.1.size,0,none⟩ (.int .i64 0)=m at*;replace Q:Blk m 176 w.1.size (ndc (nv p) (ndL 0 es)):=Q;replace C:RNd m (nv p) (ndL 0 es):=⟨C.keys,C.vals,C.kids,C.signs⟩;have b8:m.cell? ⟨w.1.size,1,none⟩=some (.bool true):=Q.cell 1;have bg:m.cell? ⟨w.1.size,2,none⟩=some (.slice (nv p).ka es.length (nv p).kc):=by rw[<-G.out.1];exact Q.cell 2
 have a3:m.cell? ⟨w.1.size,3,none⟩=some (.slice (nv p).va es.length (nv p).vc):=by rw[<-G.out.2];exact Q.cell 3
 have bu:R1 9 m (nv p).ka es.length (nv p).kc (os (es.map (·.1))):=by have:=C.keys;rwa [show(ndL 0 es).keys.length=es.length from G.out.1]at this
 have ce:R1 9 m (nv p).va es.length (nv p).vc (os (es.map (·.2))):=by have:=C.vals;rwa [show(ndL 0 es).vals.length=es.length from G.out.2]at this
 have F:=rg _ _ _ _ k m bu vo uA;have d:=uv Q (vJ C cn);clear Q C;go_upto_region 4 with fail
 go_wp2_with fail;refine F.mono ?_;rintro e an ⟨rfl,bF⟩;obtain rfl:=bF.symm;clear bF F;go_upto_region 5 with fail
 have aB:Hid (il k (es.map (·.1))=(decide (plc k (es.map (·.1))<es.length)&&(((es.map (·.1)).getD (plc k (es.map (·.1))) (strOfNums [])).toList==k.toList))):=by show _= _;unfold il;rw[y2]
 generalize il k (es.map (·.1))=H at*;generalize cM:plc k (es.map (·.1))=P at*;clear cM;go_cut [42] (fun s bd=>s= .bool H/\bd=m)
 case first=>
  by_cases A:P<es.length
  ·have cb:(P:Int)< (es.length:Int):=uA;obtain⟨dF,dI,cv,c6⟩:=bu.get A;rw[eh _ _ (by rw[y2];exact A)]at c6;rw[cv]at bg;have hx:Hid (H=(((es.map (·.1)).getD P (strOfNums [])).toList==k.toList)):=by show H= _;rw[aB.out,CR A,zd]
   generalize (es.map (·.1)).getD P (strOfNums [])=x at*;clear cv a3;go_wp2_with fail
   go_meet
   case rel=>exact⟨by rw[hx.out],rfl⟩
  ·have cb:¬(P:Int)< (es.length:Int):=uA;have hx:Hid (H=false):=by show H= _;rw[aB.out,CP A,z6]
   clear a3;go_wp2_with fail
   go_meet
   case rel=>exact⟨by rw[hx.out],rfl⟩
 case rest=>
 obtain⟨rfl,bP⟩:=hcut;obtain rfl:=bP.symm;clear bP;go_upto_if 42 with fail
 go_cut [] (fun bd=> ∃v2,Blk bd 176 w.1.size (ndc v2 (ndL 0 a))/\RNd bd v2 (ndL 0 a)/\Below w.1.size w bd)
 case first=>
  cases H with
  |true=>
   have A:P<es.length:=by
    have:=aB.out;rw[eq_comm,wX,decide_eq_true_iff]at this;exact this.1
   have LO:=kz _ _ _ _ P m ce A uA;obtain⟨I,J⟩:=aS.out.2 rfl;have K:=uv I J;clear I J b8 bg;go_wp2_with fail;refine LO.mono ?_;rintro e an ⟨L,n,rfl,c,a8⟩;have F:=oh _ _ _ _ P v an (a8.r1 (dR _)) uA uA;have B:=d.out.1.below c;have a9:=d.out.2.1.below c;have o:=d.out.2.2.trans (c.mono d.out.2.2.size);clear LO a8 a3;go_wp2_with fail;refine F.mono ?_;rintro e ap ⟨ae,ag,rfl,bf,R⟩;have r:=B.below bf;have ba:=a9.below bf;have z:=o.trans (bf.mono o.size);have bx:ap.cell? ⟨w.1.size,3,none⟩=some (.slice (nv p).va (ndL 0 es).vals.length (nv p).vc):=r.cell 3;have dd:=r.free 3;have c7:Hid (es.length-1+1=es.length):=by show _= _;omega
   have S:=ax ap w.1.size 3 (.slice ae (es.length-1+1) ag);have y:=r.set 3 (.slice ae (es.length-1+1) ag);have a7:=aw (t:=9) S r uB;have bW:=aw (t:=3) S r uB;have a4:(ndc (nv p) (ndL 0 es)).set 3 (.slice ae (es.length-1+1) ag)=ndc ⟨(nv p).ka,(nv p).kc,ae,ag,(nv p).da,(nv p).dc,(nv p).sa,(nv p).sc⟩ (ndL 0 a):=by
    have l:=C1 List.length K.out.1;simp only[y2]at l;simp[ndc,ndL,l,c7.out]
   rw[a4]at y;have bb:RNd (ap.setCell ⟨w.1.size,3,none⟩ (.slice ae (es.length-1+1) ag)) ⟨(nv p).ka,(nv p).kc,ae,ag,(nv p).da,(nv p).dc,(nv p).sa,(nv p).sc⟩ (ndL 0 a):=by
    have l:=ba.keep a7 bW;have M:=(R.r1 (dR _)).keep a7;rw[<-K.out.2]at M;refine⟨?_,?_,l.kids,l.signs⟩
    ·have:=l.keys;show R1 _ _ _ (a.map (·.1)).length _ (os (a.map (·.1)));rw[K.out.1];exact this
    ·show R1 _ _ _ (a.map (·.2)).length _ (os (a.map (·.2)));have cB:=M.len;rw[An]at cB;rw[cB];exact M
   have b2:=uv y (vJ bb (z.trans (S.below t6 z.size)));clear F R B a9 o c bf r ba z S y a7 bW a4 bb;go_wp2_with fail
   go_meet
   case rel=>exact⟨_,b2.out⟩
  |false=>
   have LO:=oh _ _ _ _ P k m bu uA uA;obtain⟨I,J⟩:=aS.out.1 rfl;have K:=uv I J;clear I J b8 a3;go_wp2_with fail;refine LO.mono ?_;rintro e an ⟨L,n,rfl,c,a8⟩;have B:=d.out.1.below c;have a9:=d.out.2.1.below c;have o:=d.out.2.2.trans (c.mono d.out.2.2.size);have cq:an.cell? ⟨w.1.size,2,none⟩=some (.slice (nv p).ka (ndL 0 es).keys.length (nv p).kc):=B.cell 2;have cA:=B.free 2;have R:=ax an w.1.size 2 (.slice L (es.length+1) n);have r:=B.set 2 (.slice L (es.length+1) n);have ac:=aw (t:=9) R B uB;have bT:=aw (t:=3) R B uB;have ba:=a9.keep ac bT;have z:=o.trans (R.below t6 o.size);have bZ:=(a8.r1 (dR _)).keep ac;have c0:=(ce.below c).keep ac;have aX:=uv r (vJ ba (vJ z bZ));clear LO a8 B a9 c o R ac bT ba z bZ bg;go_upto_region 8 with fail
   clear cq cA;generalize an.setCell ⟨w.1.size,2,none⟩ (.slice L (es.length+1) n)=ap at*;have bx:ap.cell? ⟨w.1.size,3,none⟩=some (.slice (nv p).va es.length (nv p).vc):=by rw[<-G.out.2];exact r.cell 3
   have F:=oh _ _ _ _ P v ap c0 uA uA;clear r;go_wp2_with fail;refine F.mono ?_;rintro e cf ⟨af,ak,rfl,a2,S⟩;have y:=aX.out.1.below a2;have cW:=aX.out.2.1.below a2;have a5:=aX.out.2.2.1.trans (a2.mono aX.out.2.2.1.size);have b0:=aX.out.2.2.2.below a2;have dc:cf.cell? ⟨w.1.size,3,none⟩=some (.slice (nv p).va (ndL 0 es).vals.length (nv p).vc):=y.cell 3;have dk:=y.free 3;have br:=ax cf w.1.size 3 (.slice af (es.length+1) ak);have cc:=y.set 3 (.slice af (es.length+1) ak);have ad:=aw (t:=9) br y uB;have bX:=aw (t:=3) br y uB;have Y:a.length=es.length+1:=by
    have l:=C1 List.length K.out.1;rw[re _ (by rw[y2];omega)]at l;simpa using l
   have a4:((ndc (nv p) (ndL 0 es)).set 2 (.slice L (es.length+1) n)).set 3 (.slice af (es.length+1) ak)=ndc ⟨L,n,af,ak,(nv p).da,(nv p).dc,(nv p).sa,(nv p).sc⟩ (ndL 0 a):=by
    simp[ndc,ndL,Y]
   rw[a4]at cc;have bb:RNd (cf.setCell ⟨w.1.size,3,none⟩ (.slice af (es.length+1) ak)) ⟨L,n,af,ak,(nv p).da,(nv p).dc,(nv p).sa,(nv p).sc⟩ (ndL 0 a):=by
    have l:=cW.keep ad bX;have M:=(S.r1 (dR _)).keep ad;have cD:=b0.keep ad;rw[<-K.out.2]at M;rw[<-K.out.1]at cD;refine⟨?_,?_,l.kids,l.signs⟩
    ·show R1 _ _ _ (a.map (·.1)).length _ (os (a.map (·.1)));rw[y2,Y];exact cD
    ·show R1 _ _ _ (a.map (·.2)).length _ (os (a.map (·.2)));rw[y2,Y];exact M
   have b2:=uv cc (vJ bb (a5.trans (br.below t6 a5.size)));clear F S a2 y cW a5 b0 br cc ad bX a4 bb Y bx;go_wp2_with fail
   go_meet
   case rel=>exact⟨_,b2.out⟩
 case rest=>
 obtain⟨vL,bR,cX,a0⟩:=hcut;obtain⟨db,cT⟩:=aa wc;subst cT;clear d bu ce b8 bg a3 cn aS;have i:Hid _:=(rfl:ndL 0 a=ndL 0 a);generalize bA:ndL 0 a=E at*;clear i;have i:Hid _:=bA;clear bA;have ck:Hid (∀(u:World)(k:Nat)(v:NdV)(c3:NdK),Blk u 176 k (ndc v c3)->(Instr.loadAt 176 (.pointer (some ⟨k,0,none⟩))).run prog u= .ok (.agg (ndc v c3).toArray) u):=fun u k v c3 c9=>jI u k v c3 c9;go_wp2_with fail;have bk:=bDr db;have a1:=a0.trans (bk.mono a0.size);have bS:=bR.below bk;have bc:=cX.below bk;have T:=ch.out.below a1;refine az (fun u=>u.cell? ⟨g,0,none⟩=some (.slice (some ⟨b,0,none⟩) ns.length nc)/\(Instr.loadAt 176 (.pointer (some ⟨w.1.size,0,none⟩))).run prog u= .ok (.agg (ndc vL E).toArray) u) (fun k=>decide (7<=k)) vk ?_;clear bk bR cX a0;generalize db.drew=b7 at*;have cs:b7.cell? ⟨g,0,none⟩=some (.slice (some ⟨b,0,none⟩) ns.length nc)/\(Instr.loadAt 176 (.pointer (some ⟨w.1.size,0,none⟩))).run prog b7= .ok (.agg (ndc vL E).toArray) b7:=⟨T.blk.cell 0,ck.out _ _ _ _ bS⟩;refine aj 0 cs ?_;refine aj 1 cs ?_;refine aj 2 cs ?_;refine aj 3 cs ?_;refine aj 4 cs ?_;refine aM 5 (.agg (ndc vL E).toArray) cs ?hy5 ?_
 case hy5=>exact fun u cP=>bo (p:= .pointer (some ⟨w.1.size,0,none⟩)) rfl rfl cP.2
 refine aj 6 cs ?_;refine ah 7 fun c4 am=> ?_;refine iY T bc Z rfl rfl rfl ?_;intro c5 U bY;refine aU am ?_;clear am c4 cs;have bz:UFr g (some ⟨b,0,none⟩) w c5:=(OnlyS.ofBelow a1).trans ((OnlyS.ofB bY).mono (fun k _ ca=>v6 (by rw[ca])));have bC:(ns.set p E).length=ns.length:=BD;have f:Hid _:=bC;have c8:(ns.set p E).length<=1048575:=uA;have b3:Hid _:=bz;clear T bY bS bc a1 bz bC;generalize bB:ns.set p E=q at*;generalize eA nv p vL=ds at*;have aT:Hid _:=bB;clear bB;have a6:q[p]?=some E:=by rw[<-aT.out];simp[Z]
 have dr:lSz a<=352:=uA;have b6:=mD U a6 a (by rw[<-i.out];rfl) (by rw[<-i.out];rfl) uA (by rw[<-i.out];simp[ndL,aH]) uA;have cj:Hid (kSz a E=lSz a):=by show _= _;rw[<-i.out];simp[kSz,ndL,aH]
 rw[cj.out]at b6;have b4:Hid _:=U;have V:Hid (ctL a=if 240<lSz a then(.leaf 0 (a.take (ctE 0 a)),some ((a.getD (ctE 0 a) en0).1,.leaf 0 (a.drop (ctE 0 a))))else(.leaf 0 a,none)):=rfl;clear U;go_wp2_with fail;refine b6.mono ?_;rintro e cm ⟨rfl,c⟩;clear b6;have D:=b4.out.below c;have aA:Hid (UFr g (some ⟨b,0,none⟩) w cm):=b3.out.trans (OnlyS.ofBelow c);by_cases N:240<lSz a
 ·have bl:¬(lSz a:Int)<=240:=uA;have cg:=FC D (id:=0) (es:=a) (by rw[i.out];exact a6) N uA uA;have b1:Hid _:=V.out.trans (B4 N);generalize lSz a=LS at*;clear D V;go_wp2_with fail;refine cg.mono ?_;rintro e dD ⟨rfl,cR⟩;have b5:Hid _:=cR;clear cg cR c;go_wp2_with fail
  go_ret2
  rw[b1.out];refine⟨q.set p (ndL 0 (a.take (ctE 0 a)))++[ndL 0 (a.drop (ctE 0 a))],[p],UQ.after b5.out aA.out (v7 rfl),fun j O bm=> ?_,by rw[wb,BD,f.out];omega,by rw[wb,BD,f.out];exact t6,?_,((q.length:Nat):Int),[q.length],rfl,uA,?_,?_⟩
  ·rw[w4 (by rw[BD,f.out];exact O),BV (by simp at bm;omega),<-aT.out,BV (by simp at bm;omega)]
  ·rw[SRep];refine⟨p,rfl,rfl,?_⟩;rw[w4 (by rw[BD,f.out];exact Z),List.getElem?_set_self (by rw[f.out];exact Z)]
  ·rw[SRep];refine⟨q.length,rfl,rfl,?_⟩;simp
  ·refine⟨by simp;have:=f.out;omega,fun j O=> ?_⟩;simp at O;rcases O with rfl|rfl
   ·exact v7 vo
   ·exact v6 (by rw[f.out];exact t6)
 ·have bl:(lSz a:Int)<=240:=uA;have b1:Hid _:=V.out.trans (CH N);have b5:Hid (UQ B0 g rest rt (some ⟨b,0,none⟩) w cm q):=D.uq aA.out (v7 rfl);generalize lSz a=LS at*;clear D c V;go_wp2_with fail
  go_ret2
  rw[b1.out];refine⟨q,[p],b5.out,fun j O bm=> ?_,by rw[f.out];exact t6,by rw[f.out];omega,?_,rfl,?_⟩
  ·rw[<-aT.out,BV (by simp at bm;omega)]
  ·rw[SRep];exact⟨p,rfl,rfl,by rw[i.out];exact a6⟩
  ·exact⟨vo,fun j O=>v7 O⟩
end
theorem xW{d c k f m}(h:(d++(c++f)).Nodup)(i:∀j∈d++(c++f),j<m)(g:fb c k m):fb (d++(c++f)) (d++(k++f)) m:=by
 have n:=h;rw[z8,z8]at n;obtain⟨o,⟨r,p,q⟩,l⟩:=n;refine⟨?_,fun j a=> ?_⟩
 ·rw[z8,z8];refine⟨o,⟨g.1,p,fun x hx y b e=> ?_⟩,fun x hx y b e=> ?_⟩
  ·subst e;rcases g.2 x hx with h1|h1
   ·exact q x h1 x b rfl
   ·have:=i x (by simp[b]);omega
  ·subst e;rcases w6.1 b with b|b
   ·rcases g.2 x b with h1|h1
    ·exact l x hx x (by simp[h1]) rfl
    ·have:=i x (by simp[hx]);omega
   ·exact l x hx x (by simp[b]) rfl
 ·rcases w6.1 a with a|a
  ·exact v7 (by simp[a])
  ·rcases w6.1 a with a|a
   ·rcases g.2 j a with h1|h1
    ·exact v7 (by simp[h1])
    ·exact v6 h1
   ·exact v7 (by simp[a])
def ouP(o:Option Kd)(q:Int):List Pl:=match o with|none=>[]|some x=>[(x.1,q)]
theorem xX{ns ms L G us}(h:SRep ns (kds L) G us)(l:G.Nodup){q}(F:q<L.length){e d c a R v y}(w:G=e++(d++c))(i:SRep ns (kds (L.take q)) e (us.take q))(k:SRep ns (kds (L.drop (q+1))) c (us.drop (q+1)))(n:∀j,j<ns.length->j∉d->ms[j]?=ns[j]?){t o}(u:SRep ms t a [(strOfNums [],v)])(z:SRep ms (kds o.toList) R (ouP o y))(x:fb d (a++R) ns.length):
 ∃g,SRep ms (kds (L.take q++((L.getD q t0).1,t)::(o.toList++L.drop (q+1)))) g (us.take q++((L.getD q t0).1,v)::(ouP o y++us.drop (q+1)))/\fb G g ns.length:=by
 have p:=h.lt;subst w;have m:=l;rw[z8,z8]at m;obtain⟨C,⟨D,E,r⟩,s⟩:=m;have A:=i.keep (fun j b=>n j (i.lt j b) (fun f=>s j b j (by simp[f]) rfl));have B:=k.keep (fun j b=>n j (k.lt j b) (fun f=>r j f j b rfl));refine⟨e++((a++R)++c),?_,xW l p x⟩;refine SRep.cat ?_ A;refine er.2 ⟨v,ouP o y++us.drop (q+1),a,R++c,vo,rfl,u,?_⟩;exact SRep.cat B z
theorem FG{us:List Pl}{q}(c:q<us.length)(s v)(d:us.getD q (strOfNums [],0)=(s,v))(x:Pl):
 (us.take q++(s,v)::([x]++us.drop (q+1))).map (·.2)=eE (us.map (·.2)) (q+1) x.2/\(us.take q++(s,v)::([x]++us.drop (q+1))).tail.map (·.1)=eE (us.tail.map (·.1)) q x.1:=by
 have e:us=us.take q++(s,v)::us.drop (q+1):=by rw[<-d,my _ c]
 have b:(us.take q).length=q:=by rw[wR];omega
 generalize us.take q=f at*;generalize us.drop (q+1)=D at*;subst e;subst b;refine⟨?_,?_⟩
 ·simp only[eE,AF,ws,List.take_append,List.drop_append,y2];rw[w5 vo,A0 vo];simp
 ·cases f with
  |nil=>simp[eE]
  |cons a f=>
   simp only[eE,z1,List.tail_cons,AF,ws,List.take_append,List.drop_append,y2,w8];rw[w5 vo,A0 vo];simp
theorem xY{us:List Pl}{q}(a:q<us.length)(s v)(b:us.getD q (strOfNums [],0)=(s,v)):us.take q++(s,v)::([]++us.drop (q+1))=us:=by
 rw[xd,<-b,my _ a]
theorem rM{ns ms:List NdK}{p G a L us}(f:(p::G).Nodup)(k:p<ns.length)(i:ns.length<=ms.length)(h:SRep ms (kds L) a us)(d:fb G a ns.length):
 SRep (ms.set p (ndI 0 us)) (.node 0 (kds L)) (p::a) [(strOfNums [],(p:Int))]/\fb (p::G) (p::a) ns.length:=by
 have c:p∉a:=fun g=>by
  rcases d.2 p g with h1|h1
  ·exact(zz.1 f).1 h1
  ·omega
 refine⟨?_,zz.2 ⟨c,d.1⟩,fun j b=> ?_⟩
 ·rw[SRep];exact⟨p,us,a,rfl,rfl,List.getElem?_set_self uA,h.keep (fun j b=>BV (fun e=>c (by rw[e];exact b)))⟩
 ·rcases w3.1 b with rfl|b
  ·exact v7 vo
  ·rcases d.2 j b with h1|h1
   ·exact v7 (by simp[h1])
   ·exact v6 h1
theorem FH{ns ms:List NdK}{p m G r L us}(C:(p::G).Nodup)(E:p<ns.length)(s:ns.length<=ms.length)(h:SRep ms (kds L) r us)(n:fb G r ns.length)(D:m<=L.length):
 ∃q B,SRep ((ms.set p (ndI 0 us)).set p (ndI 0 (us.take m))++[ndI 0 (us.drop m)]) (.node 0 (kds (L.take m))) (p::q) [(strOfNums [],(p:Int))]/\SRep ((ms.set p (ndI 0 us)).set p (ndI 0 (us.take m))++[ndI 0 (us.drop m)]) (.node 0 (kds (L.drop m))) (ms.length::B) [(strOfNums [],(ms.length:Int))]/\fb (p::G) ((p::q)++(ms.length::B)) ns.length:=by
 have i:p∉r:=fun f=>by
  rcases n.2 p f with h1|h1
  ·exact(zz.1 C).1 h1
  ·omega
 have g:=h.lt;have t:=h;rw[<-A5 m L]at t;obtain⟨q,B,d,k,rfl,rfl,w,z,A⟩:=SRep.split t;have v:d.length=m:=by rw[w,wR];omega
 rw[List.take_left' v,List.drop_left' v];have c:∀j,j∈q++B->((ms.set p (ndI 0 (d++k))).set p (ndI 0 d)++[ndI 0 k])[j]?=ms[j]?:=fun j a=>by
  have u:=g j a;have o:p≠j:=fun e=>i (by rw[e];exact a);rw[w4 (by simpa using u),BV o,BV o]
 refine⟨q,B,?_,?_,?_,?_⟩
 ·rw[SRep];refine⟨p,d,q,rfl,rfl,?_,z.keep (fun j a=>c j (by simp[a]))⟩;rw[w4 (by simp;omega),List.getElem?_set_self (by simp;omega)]
 ·rw[SRep];refine⟨ms.length,k,B,rfl,rfl,?_,A.keep (fun j a=>c j (by simp[a]))⟩;rw[xb vo];simp
 ·have l:=n.1;rw[z8]at l;rw[z8];refine⟨zz.2 ⟨fun f=>i (by simp[f]),l.1⟩,zz.2 ⟨fun f=>by have:=g _ (List.mem_append_right q f);omega,l.2.1⟩,fun x hx y b e=> ?_⟩;subst e;rcases w3.1 hx with rfl|hx
  ·rcases w3.1 b with b|b
   ·omega
   ·exact i (by simp[b])
  ·rcases w3.1 b with b|b
   ·have:=g x (by simp[hx]);omega
   ·exact l.2.2 x hx x b rfl
 ·intro j a;rcases w6.1 a with a|a
  ·rcases w3.1 a with rfl|a
   ·exact v7 vo
   ·rcases n.2 j (by simp[a])with h1|h1
    ·exact v7 (by simp[h1])
    ·exact v6 h1
  ·rcases w3.1 a with rfl|a
   ·exact v6 s
   ·rcases n.2 j (by simp[a])with h1|h1
    ·exact v7 (by simp[h1])
    ·exact v6 h1
theorem FJ{L q t}{o:Option Kd}(f:q<L.length)(b:∀s∈sgs L,eQ s)(d:nSz (sgs L)<=240)(c:∀x,o=some x->eQ x.1):(∀s∈sgs (L.take q++((L.getD q t0).1,t)::(o.toList++L.drop (q+1))),eQ s)/\nSz (sgs (L.take q++((L.getD q t0).1,t)::(o.toList++L.drop (q+1))))<=285:=by
 rw[rj f];refine⟨fun s a=> ?_,?_⟩
 ·simp only[w6,x7,Option.mem_toList]at a;rcases a with a|⟨x,hx,rfl⟩|a
  ·exact b s (List.mem_of_mem_take a)
  ·exact c x hx
  ·exact b s (List.mem_of_mem_drop a)
 ·rw[dm,iE,iE];have:aH ((sgs L).take q)+aH ((sgs L).drop q)=aH (sgs L):=by rw[<-iE,A5]
  rw[dm]at d;have:aH (o.toList.map (·.1))<=45:=by
   cases e:o with
   |none=>simp[aH]
   |some x=>
    have:=kL (c x e);simpa [aH]using this
  omega
theorem USt.only{B0 g k rest rt w w' ns nv na nc cs}(h:USt B0 g rest rt w ns nv na nc)(a:OnlyB k w w')(c:Blk w 176 k cs)(d:na≠some ⟨k,0,none⟩):USt B0 g rest rt w' ns nv na nc:=by
 have j:g≠k:=fun e=>by have:=h.blk;rw[e]at this;unfold Blk at this c;rw[c]at this;cases this
 exact⟨h.blk.only a j,h.nodes.keep (fun b e=>a.block b (cE h.nodes b (by simp[rb,e])).2 (fun f=>d (by rw[e,f]))),fun i l=>(h.each i l).keep (aw a c uB) (aw a c uB),wg h.gB a.size⟩
section
variable {B0 g:Nat} {rest:List Value} {rt:Int} {w:World} {ns:List NdK} {nv:Nat->NdV} {na:Option Addr} {nc:Nat}
def rT(B0 g:Nat)(rest:List Value)(rt:Int)(k v:ByteArray)(n:Nat)(t:Tr):Prop:= ∀(w:World)(ns:List NdK)(nv:Nat->NdV)(na:Option Addr)(nc:Nat)(P:List Nat)(p:Int),USt B0 g rest rt w ns nv na nc->SRep ns t P [(strOfNums [],p)]->P.Nodup->ns.length+(n+1)<=1048575->
 Calls prog 132 #[.pointer (some ⟨g,0,none⟩),.int .i64 p,.string k,.string v] w fun e w'=>xV B0 g rest rt na w ns P p (n+1) (dh k v n t) e w'
theorem xZ{ms P P' m e o}(h:xU ms P P' m e o):∃(y:Int)(R:List Nat)(sg:ByteArray),e= .returned (.tuple #[.int .i64 y,.string sg])/\SRep ms (kds o.toList) R (ouP o y)/\fb P (P'++R) m/\(o=none->y= -1)/\∀x,o=some x->0<=y/\sg=x.1:=by
 cases o with
 |none=>exact⟨-1,[],⟨#[]⟩,h.1,gE.2 ⟨rfl,rfl⟩,by rw[wP];exact h.2,fun _=>rfl,fun x hx=>by cases hx⟩
 |some x=>
  obtain⟨q,R,a,b,c,d⟩:=h;exact⟨q,R,x.1,a,er.2 ⟨q,[],R,[],vo,rfl,c,gE.2 ⟨rfl,rfl⟩⟩,d,(fun hx=>by cases hx),fun y f=>by cases f;exact⟨b,rfl⟩⟩
theorem yd{B0 g rest rt w ns nv na nc k}(h:USt B0 g rest rt w ns nv na nc)(a:w.1.size<=k):na≠some ⟨k,0,none⟩:=fun e=>by
 have:=(cE h.nodes k (by simp[rb,e])).2;omega
theorem FK(k v)(e4:eOk (k,v))(n id L)(e9:wf (n+1) (.node id (kds L)))(ej:∀x∈L,rT B0 g rest rt k v n x.2):rT B0 g rest rt k v (n+1) (.node id (kds L)):=by
 intro w ns nv na nc P gA cl e7 F gg;obtain⟨dV,ba,bz,dW⟩:=bq.1 e9;rw[SRep]at e7;obtain⟨p,us,G,rfl,e5,bb,W⟩:=e7;cases e5;have aS:=jD (k:=k) dV;have dX:=W.len;have a6:=W.sgs;obtain⟨gr,dr,gs,H,aA,e8,Z,X,cP,Y⟩:=W.at aS;have f:=(zz.1 F).2;have bZ:dr.Nodup:=by rw[aA]at f;rw[z8,z8]at f;exact f.2.1.1
 have cp:Hid (dh k v (n+1) (.node id (kds L))=ctN (L.take (kid k L)++((L.getD (kid k L) t0).1,(dh k v n (L.getD (kid k L) t0).2).1)::((dh k v n (L.getD (kid k L) t0).2).2.toList++L.drop (kid k L+1)))):=by show _= _;rw[dh];simp only[ct]
 have cX:kid k L=iD k (us.tail.map (·.1)):=by rw[a6];rfl
 have ea:Hid _:=ej _ (bO (d:=t0) aS);have ab:=rl e4 (ba _ (bO (d:=t0) aS));generalize dh k v n (L.getD (kid k L) t0).2=r at*;have b8:=uv W (vJ f (vJ aS (vJ aA (vJ X (vJ Y (vJ F (vJ Z (vJ ab (vJ ba (vJ bz dW))))))))));have cq:=uv cP bZ;have cT:(us.map (·.2)).getD (kid k L) 0=H:=by
  have:=eF (·.2) us (kid k L) ((strOfNums [],0):Pl);rw[Z]at this;exact this
 generalize kid k L=q at*;have bn:Hid _:=cl;have eb:Hid _:=bb;obtain⟨b,rfl,a3,e1,b1⟩:=cl.cells bb;have eC:w.cell? ⟨g,0,none⟩=some (.slice (some ⟨b,0,none⟩) ns.length nc):=cl.blk.cell 0;have D:Hid ((ndI id us).kids.length=us.length/\(ndI id us).signs.length=(us.tail.map (·.1)).length/\(us.tail.map (·.1)).length+1=us.length):=by
  refine⟨by simp[ndI],rfl,?_⟩;have:=List.length_pos_iff.2 dV;simp;omega
 have z:q<us.length:=uA;have gj:us.length<=100:=by
  have f5:=gQ (us.tail.map (·.1));rw[a6]at f5;rw[dm]at dW;have:=D.out.2.2;rw[a6]at this;omega
 have ck:=bAl w (.cells (ndc (nv p) (ndI id us)).toArray 176);have fm:=aq w 176 (ndc (nv p) (ndI id us)).toArray;have em:=e1.below ck;have fD:(prog.info? 176).map (·.size)=some (ndc (nv p) (ndI id us)).length:=aD;clear dX;clear W f aA X Y F Z ab cP bZ e8 e9 ej dV ba bz dW a6;go_enter func132,ntmps132;go_upto_region 2 with(first|(refine dG rfl 176 _ rfl b (p*6) rfl (ndc (nv p) (ndI id us)) _ a3 underlying176 rfl fD ?_)|(refine bt rfl 176 _ _ rfl w (ndc aF nd0).toArray (ndc (nv p) (ndI id us)).toArray 176 rfl rfl aD rfl (cy _ _) ?_))
 change Code.wp _ _ _ _ (w.alloc (.cells (ndc (nv p) (ndI id us)).toArray 176));generalize w.alloc (.cells (ndc (nv p) (ndI id us)).toArray 176)=fP at*;have a7:Blk fP 176 w.1.size (ndc (nv p) (ndI id us)):=fm;have es:fP.cell? ⟨w.1.size,0,none⟩=some (.int .i64 id):=a7.cell 0;have eN:=a7.free 0;have a2:Hid _:=a7;clear fm a7 eC a3 e1;go_upto_region 3 with fail
 have cg:=ax fP w.1.size 0 (.int .i64 0);have aT:=Blk.set a2.out 0 (.int .i64 0);have U:=em.keep (aw cg a2.out uB) (aw cg a2.out uB);have br:=ck.trans (cg.below t6 ck.size);clear a2 em ck cg es eN cl bb fD;generalize fP.setCell ⟨w.1.size,0,none⟩ (.int .i64 0)=O at*;replace aT:Blk O 176 w.1.size (ndc (nv p) (ndI 0 us)):=aT;replace U:RNd O (nv p) (ndI 0 us):=⟨U.keys,U.vals,U.kids,U.signs⟩;have am:O.cell? ⟨w.1.size,1,none⟩=some (.bool false):=aT.cell 1;have et:O.cell? ⟨w.1.size,4,none⟩=some (.slice (nv p).da us.length (nv p).dc):=by rw[<-D.out.1];exact aT.cell 4
 have Q:O.cell? ⟨w.1.size,5,none⟩=some (.slice (nv p).sa (us.tail.map (·.1)).length (nv p).sc):=aT.cell 5;have d4:R1 3 O (nv p).da us.length (nv p).dc (on (us.map (·.2))):=by have:=U.kids;rwa [show(ndI 0 us).kids.length=us.length from D.out.1]at this
 have d5:R1 9 O (nv p).sa (us.tail.map (·.1)).length (nv p).sc (os (us.tail.map (·.1))):=U.signs;have gi:(us.tail.map (·.1)).length<=100:=by have:=D.out.2.2;omega
 have a9:=rh _ _ _ _ k O d5 rfl uA;rw[<-cX]at a9;have A:=uv aT (vJ U (vJ br (vJ d4 d5)));clear aT U cX d5;generalize c5:(us.tail.map (·.1)).length=sl at*;have bm:Hid _:=c5;clear c5;go_upto_region 13 with fail
 go_wp2_with fail;refine a9.mono ?_;rintro e gB ⟨rfl,ac⟩;obtain rfl:=ac.symm;clear ac a9;have ae:=bn.out.below br;have en:=ea.out O ns nv _ nc dr H ae cq.out.1 cq.out.2 uA;obtain⟨gv,gw,eL,eK⟩:=d4.get z;rw[cF _ _ (by simpa using z),cT]at eK;rw[eL]at et;clear cT Q eL d4;go_wp2_with fail;refine en.mono ?_;rintro e af e2;obtain⟨ms,ga,ce,c6,bX,gf,cR,bP⟩:=e2;obtain⟨gn,b6,da,dp,bx,M⟩:=ce;have fd:=A.out.1.onlyS bx (fun ad=>by
  rcases ad with ad|ad
  ·have:=ae.blk;rw[<-ad]at this;have k0:=A.out.1;unfold Blk at this k0;rw[k0]at this;cases this
  ·exact yd bn.out t6 ad)
 have d1:=ae.keepT bx (t:=9) uB uB;have kI:=ae.keepT bx (t:=3) uB uB;have fs:=A.out.2.1.keep d1 kI;have dd:=A.out.2.2.2.1.keep kI;have dl:=A.out.2.2.2.2.keep d1;have b0:b6≠some ⟨w.1.size,0,none⟩:=by
  rcases M with rfl|⟨k,rfl,hk⟩
  ·exact yd bn.out t6
  ·have:=A.out.1.lt;intro e;cases e;omega
 have cz:UFr g (some ⟨b,0,none⟩) w af:=(OnlyS.ofBelow br).trans bx;have bY:b6=some ⟨b,0,none⟩\/∃k,b6=some ⟨k,0,none⟩/\w.1.size<=k:=by
  rcases M with h|⟨k,h,hk⟩
  ·exact v7 h
  ·exact v6 ⟨k,h,wg br.size hk⟩
 have o:=uv fd (vJ fs (vJ dd (vJ dl (vJ dp (vJ cz (vJ bY b0))))));have bg:=uv c6 (vJ cR bP);clear en bx M fd d1 kI fs dd dl b0 cz bY am et eK ae br A c6 cR dp;obtain⟨y,R,sg,rfl,cS,cM,a4,T⟩:=xZ bP;have bk:=uv cS cM;clear bP cS cM;go_upto_if 96 with fail
 go_cut [] (fun d8=> ∃v2,Blk d8 176 w.1.size (ndc v2 (ndI 0 (us.take q++((L.getD q t0).1,H)::(ouP r.2 y++us.drop (q+1)))))/\RNd d8 v2 (ndI 0 (us.take q++((L.getD q t0).1,H)::(ouP r.2 y++us.drop (q+1))))/\OnlyB w.1.size af d8)
 case first=>
  cases N:r.2 with
  |none=>
   have f9:=a4 N;subst f9;have dD:Hid (Blk af 176 w.1.size (ndc (nv p) (ndI 0 (us.take q++((L.getD q t0).1,H)::(ouP none (-1)++us.drop (q+1)))))/\RNd af (nv p) (ndI 0 (us.take q++((L.getD q t0).1,H)::(ouP none (-1)++us.drop (q+1))))/\OnlyB w.1.size af af):=by
    have e:=xY z _ _ b8.out.2.2.2.2.2.2.2.1;show Blk _ _ _ (ndc _ (ndI 0 (us.take q++((L.getD q t0).1,H)::([]++us.drop (q+1)))))/\RNd _ _ (ndI 0 (us.take q++((L.getD q t0).1,H)::([]++us.drop (q+1))))/\_;rw[e];exact⟨o.out.1,o.out.2.1,OnlyB.refl _ _⟩
   have bl:Hid _:=N;clear a4 T N;go_wp2_with fail
   go_meet
   case rel=>rw[bl.out];exact⟨_,dD.out⟩
  |some x=>
   obtain⟨gm,rfl⟩:=T x N;have dI:=DY _ _ _ _ (q+1) y af o.out.2.2.1 z uA;have ev:af.cell? ⟨w.1.size,4,none⟩=some (.slice (nv p).da us.length (nv p).dc):=by rw[<-D.out.1];exact o.out.1.cell 4
   have e6:Hid (((q+1:Nat):Int)=(q:Int)+1):=by show _= _;omega
   rw[e6.out]at dI;obtain⟨c0,c1⟩:=FG z _ _ b8.out.2.2.2.2.2.2.2.1 (x.1,y);have cn:=uv c0 c1;have bl:Hid _:=N;clear a4 T N c0 c1;go_wp2_with fail;refine dI.mono ?_;rintro e d6 ⟨ag,Q,rfl,bs,fn⟩;have bc:=o.out.1.below bs;have ft:=o.out.2.1.below bs;have ex:d6.cell? ⟨w.1.size,4,none⟩=some (.slice (nv p).da (ndI 0 us).kids.length (nv p).dc):=bc.cell 4;have eR:=bc.free 4;have ch:=ax d6 w.1.size 4 (.slice ag (us.length+1) Q);have fl:=bc.set 4 (.slice ag (us.length+1) Q);have b4:=aw (t:=9) ch bc uB;have b2:=aw (t:=3) ch bc uB;have a8:=uv fl (vJ (ft.keep b4 b2) (vJ ((fn.r1 (fw _)).keep b2) (vJ ((o.out.2.2.2.1.below bs).keep b4) ((Below.onlyB bs w.1.size).trans ch))));clear dI fn bs bc ft ch fl b4 b2 ev;go_upto_region 17 with fail
   clear ex eR;generalize d6.setCell ⟨w.1.size,4,none⟩ (.slice ag (us.length+1) Q)=fM at*;have eB:fM.cell? ⟨w.1.size,5,none⟩=some (.slice (nv p).sa sl (nv p).sc):=by rw[<-bm.out];exact a8.out.1.cell 5
   have a9:=oh _ _ _ _ q x.1 fM a8.out.2.2.2.1 (by have:=D.out.2.2;omega) uA;go_wp2_with fail;refine a9.mono ?_;rintro e d7 ⟨ak,an,rfl,bu,fo⟩;have bd:=a8.out.1.below bu;have fz:=a8.out.2.1.below bu;have dk:=a8.out.2.2.1.below bu;have gb:d7.cell? ⟨w.1.size,5,none⟩=some (.slice (nv p).sa (ndI 0 us).signs.length (nv p).sc):=bd.cell 5;have gc:=bd.free 5;have cj:=ax d7 w.1.size 5 (.slice ak (sl+1) an);have cf:=bd.set 5 (.slice ak (sl+1) an);have b5:=aw (t:=9) cj bd uB;have b3:=aw (t:=3) cj bd uB;have K:∃c,c=us.take q++((L.getD q t0).1,H)::([(x.1,y)]++us.drop (q+1)):=⟨_,rfl⟩;obtain⟨c,K⟩:=K;have bE:c.map (·.2)=eE (us.map (·.2)) (q+1) y:=by rw[K];exact cn.out.1
   have bF:c.tail.map (·.1)=eE (us.tail.map (·.1)) q x.1:=by rw[K];exact cn.out.2
   have bW:(c.map (·.2)).length=us.length+1:=by rw[bE,re _ (by rw[y2];exact z),y2]
   have E:(c.tail.map (·.1)).length=sl+1:=by rw[bF,re _ (by rw[bm.out];have:=D.out.2.2;omega),bm.out]
   have eM:((ndc (nv p) (ndI 0 us)).set 4 (.slice ag (us.length+1) Q)).set 5 (.slice ak (sl+1) an)=ndc ⟨(nv p).ka,(nv p).kc,(nv p).va,(nv p).vc,ag,Q,ak,an⟩ (ndI 0 c):=by
    show [_,_,_,_,_,_]=[_,_,_,_,Value.slice ag (c.map (·.2)).length Q,Value.slice ak (c.tail.map (·.1)).length an];rw[bW,E]
    rfl
   rw[eM]at cf;have d3:RNd (d7.setCell ⟨w.1.size,5,none⟩ (.slice ak (sl+1) an)) ⟨(nv p).ka,(nv p).kc,(nv p).va,(nv p).vc,ag,Q,ak,an⟩ (ndI 0 c):=by
    have ba:=fz.keep b5 b3;have bz:=(fo.r1 (dR _)).keep b5;have eV:=dk.keep b3;rw[<-bF]at bz;rw[<-bE]at eV;refine⟨ba.keys,ba.vals,?_,?_⟩
    ·show R1 _ _ _ (c.map (·.2)).length _ (on (c.map (·.2)));rw[bW];exact eV
    ·show R1 _ _ _ (c.tail.map (·.1)).length _ (os (c.tail.map (·.1)));rw[E];exact bz
   rw[K]at cf d3;have dD:=uv cf (vJ d3 (a8.out.2.2.2.2.trans ((Below.onlyB bu w.1.size).trans cj)));clear a9 fo bu bd fz dk cj cf b5 b3 eM d3 bW E eB bE bF K;go_wp2_with fail
   go_meet
   case rel=>rw[bl.out];exact⟨_,dD.out⟩
 case rest=>
 obtain⟨vL,c8,fB,d2⟩:=hcut;obtain⟨f2,fc⟩:=aa wc;subst fc;obtain⟨W,f,aS,aA,X,Y,F,Z,ab,fa,c7,ac⟩:=b8.out;obtain⟨fZ,bB,cL⟩:=xX W f aS aA X Y bg.out.1 bg.out.2.1 bk.out.1 bk.out.2;obtain⟨bS,bT⟩:=FJ (t:=r.1) aS c7 ac (fun x hx=>(ab.2 x hx).2);have bA:∀j,j∈dr->j∈G:=fun j S=>by rw[aA];simp[S]
 have c3:=(zz.1 F).1;have cB:=(bg.out.1 p b1 (fun h=>c3 (bA p h))).trans eb.out;have stV:=o.out.2.2.2.2.1.only d2 o.out.1 o.out.2.2.2.2.2.2.2;have eU:UFr g (some ⟨b,0,none⟩) w f2:=o.out.2.2.2.2.2.1.transN (OnlyS.ofB d2) (fun j S ad=>by omega);have M:=o.out.2.2.2.2.2.2.1;obtain⟨ca,rfl,_,_,c4⟩:=stV.cells cB;have bR:=bB.sgs;have bC:Hid (∀j,j<ns.length->j∉p::G->ms[j]?=ns[j]?):=fun j S aB=>bg.out.1 j S (fun h=>aB (by simp[bA j h]));have l:=uv bB (vJ cL (vJ F (vJ eU M)));have cm:Hid (dh k v (n+1) (.node id (kds L))= _):=cp.out;generalize eW:L.take q++((L.getD q t0).1,r.1)::(r.2.toList++L.drop (q+1))=a at*;generalize us.take q++((L.getD q t0).1,H)::(ouP r.2 y++us.drop (q+1))=c at*;clear bB cL W f aA X Y F Z ab fa c7 ac b8 bg bk o cp eW cB d2 eU M bA c3 T a4;generalize cA:ndI 0 c=s at*;have C:Hid _:=cA;clear cA;have ek:Hid (∀(u:World)(k:Nat)(v:NdV)(fV:NdK),Blk u 176 k (ndc v fV)->(Instr.loadAt 176 (.pointer (some ⟨k,0,none⟩))).run prog u= .ok (.agg (ndc v fV).toArray) u):=fun u k v fV f8=>jI u k v fV f8;go_wp2_with fail;have bv:=bDr f2;have c9:=c8.below bv;have b7:=fB.below bv;have aX:=stV.below bv;have d9:Hid _:=bv;refine az (fun u=>u.cell? ⟨g,0,none⟩=some (.slice (some ⟨ca,0,none⟩) ms.length da)/\(Instr.loadAt 176 (.pointer (some ⟨w.1.size,0,none⟩))).run prog u= .ok (.agg (ndc vL s).toArray) u) (fun k=>decide (7<=k)) vk ?_;clear bv c8 fB;generalize f2.drew=dS at*;have cs:dS.cell? ⟨g,0,none⟩=some (.slice (some ⟨ca,0,none⟩) ms.length da)/\(Instr.loadAt 176 (.pointer (some ⟨w.1.size,0,none⟩))).run prog dS= .ok (.agg (ndc vL s).toArray) dS:=⟨aX.blk.cell 0,ek.out _ _ _ _ c9⟩;refine aj 0 cs ?_;refine aj 1 cs ?_;refine aj 2 cs ?_;refine aj 3 cs ?_;refine aj 4 cs ?_;refine aM 5 (.agg (ndc vL s).toArray) cs ?hy5 ?_
 case hy5=>exact fun u e3=>bo (p:= .pointer (some ⟨w.1.size,0,none⟩)) rfl rfl e3.2
 refine aj 6 cs ?_;refine ah 7 fun f0 bb=> ?_;refine iY aX b7 c4 rfl rfl rfl ?_;intro f3 a0 dc;refine aU bb ?_;clear bb f0 cs;have E:(ms.set p s).length=ms.length:=BD;have cv:UFr g (some ⟨b,0,none⟩) w f3:=(l.out.2.2.2.1.trans (OnlyS.ofBelow d9.out)).transN (OnlyS.ofB dc) (fun j S ad=>by
  rcases l.out.2.2.2.2 with e|⟨k1,e,hk1⟩
  ·cases e;exact v6 (by rw[ad])
  ·cases e;omega)
 have cW:(ms.set p s)[p]?=some s:=List.getElem?_set_self c4;have f7:(ms.set p s).length<=1048575:=by rw[E];omega
 have I:Hid _:=E;have J:Hid _:=(rfl:ms.set p s=ms.set p s);generalize cD:ms.set p s=db at*;clear J;have J:Hid _:=cD;have cr:Hid (s.signs=sgs a):=by show _= _;rw[<-C.out];exact bR
 have dP:=mD a0 cW [] (by rw[<-C.out];rfl) (by rw[<-C.out];rfl) (by simp[lSz]) (by rw[cr.out];rw[dm]at bT;omega) uA;have ef:Hid (kSz [] s=nSz (sgs a)):=by
  show _= _;have e:s.leaf=false:=by rw[<-C.out];rfl
  simp only[kSz,cr.out,e,dm];simp[lSz];omega
 rw[ef.out]at dP;have i:=uv a0 (vJ cv (vJ bS bR));have c2:Hid ((some ⟨ca,0,none⟩:Option Addr)=some ⟨b,0,none⟩\/∃k,(some ⟨ca,0,none⟩:Option Addr)=some ⟨k,0,none⟩/\w.1.size<=k):=l.out.2.2.2.2;have a1:Hid (ctN a=if 240<nSz (sgs a)then(.node 0 (kds (a.take (ctS 4 (sgs a)+1))),some ((a.getD (ctS 4 (sgs a)+1) t0).1,.node 0 (kds (a.drop (ctS 4 (sgs a)+1)))))else(.node 0 (kds a),none)):=rfl;clear a0 E cD aX dc c9 b7 cv bR bS;go_wp2_with fail;refine dP.mono ?_;rintro e eq ⟨rfl,b9⟩;clear dP;have V:=i.out.1.below b9;have bf:Hid (UFr g (some ⟨b,0,none⟩) w eq):=i.out.2.1.trans (OnlyS.ofBelow b9);by_cases ap:240<nSz (sgs a)
 ·have cc:¬(nSz (sgs a):Int)<=240:=uA;have a5:2<=(c.tail.map (·.1)).length:=by
   rw[i.out.2.2.2];have:=oq _ i.out.2.2.1;rw[dm]at ap;omega
  have dq:=FD V (id:=0) (us:=c) (by rw[C.out];exact cW) a5 (by rw[i.out.2.2.2];rw[dm]at bT;omega) uA;rw[i.out.2.2.2]at dq;have ds:Hid _:=a1.out.trans (B4 ap);have dE:Hid (ctS 4 (sgs a)+1<=a.length):=by
   show _<=_;rw[i.out.2.2.2]at a5;have f6:=(oo (sgs a) 4 a5 uA).1;rw[gC]at f6;omega
  generalize nSz (sgs a)=LS at*;clear V a1 a5;go_wp2_with fail;refine dq.mono ?_;rintro e gt ⟨rfl,ce⟩;have dF:Hid _:=ce;clear dq ce b9;go_wp2_with fail
  go_ret2
  rw[cm.out,ds.out];obtain⟨gp,B,am,cb,f4⟩:=FH (m:=ctS 4 (sgs a)+1) l.out.2.2.1 b1 bX l.out.1 l.out.2.1 dE.out;rw[C.out,J.out]at am cb;refine⟨_,p::gp,UQ.after dF.out bf.out c2.out,fun j S aB=> ?_,?_,?_,am,((ms.length:Nat):Int),_,?_,uA,cb,f4⟩
  ·have cV:p≠j:=fun e=>aB (by simp[e]);rw[w4 (by rw[BD,I.out];omega),BV cV,<-J.out,BV cV,bC.out j S aB]
  ·rw[wb,BD,I.out];omega
  ·rw[wb,BD,I.out,yb];omega
  ·rw[<-mx,<-I.out];rfl
 ·have cc:(nSz (sgs a):Int)<=240:=uA;have ds:Hid _:=a1.out.trans (CH ap);have dF:Hid (UQ B0 g rest rt (some ⟨b,0,none⟩) w eq db):=V.uq bf.out c2.out;generalize nSz (sgs a)=LS at*;clear V b9 a1;go_wp2_with fail
  go_ret2
  rw[cm.out,ds.out];obtain⟨am,cb⟩:=rM l.out.2.2.1 b1 bX l.out.1 l.out.2.1;rw[C.out,J.out]at am;refine⟨db,p::fZ,dF.out,fun j S aB=> ?_,by rw[I.out];exact bX,by rw[I.out];omega,am,rfl,cb⟩;rw[<-J.out,BV (by intro e;exact aB (by simp[e])),bC.out j S aB]
theorem FM{k v}(b:eOk (k,v)):∀(n:Nat)(t:Tr),wf n t->rT B0 g rest rt k v n t:=by
 intro n;induction n with
 |zero=>
  intro t a;rcases aO a with⟨id,es,_,rfl⟩|⟨id,L,m,e,_⟩
  ·intro w ns nv na nc P p i c j l;rw[SRep]at c;obtain⟨q,rfl,f,d⟩:=c;cases f;exact FF i k v d (dA.1 a).2.2 b uA
  ·omega
 |succ n ih=>
  intro t a;rcases aO a with⟨id,es,e,_⟩|⟨id,L,m,e,rfl⟩
  ·omega
  ·exact FK k v b n id L a (fun x hx=>ih _ ((bq.1 a).2.1 x hx))
end
section
variable {P:Program} {ops:Array Oper} {Q:Exit->Act->World->Prop} {md:Region.Mode} {S:World->Prop} {D:Nat->Bool}
theorem ay(i:Nat){d:Nat}{oi:Oper}{v:Value}{e:Nat}{b:Array Bool}{a f:Act}{w:World}(k:S w)
 (h:bh P md ops Q S D e (b.setIfInBounds i true) f w)(p:ops[i]?=some oi:=by rfl)(m:oi.dst=some d:=by rfl)(o:Region.wanted oi (yielded ops a.tmps)=true:=by rfl)
 (r:Region.noSelect ops=true:=by kernel_rfl)(n:Region.free md ops b i=true:=by kernel_rfl)(q:(Region.ready md ops b).contains i=true:=by kernel_rfl)(s:ie md ops D b i=true:=by kernel_rfl)
 (t:∀w,S w->(execOp a.eval oi).run P w= .ok (.value v) w:=by(intro w g;obtain⟨u,x,y,z⟩:=g;go_simp;try with_reducible rfl))
 (l:a.put (some d) v=f:=by(simp only[Act.put,fx,List.set];first|done|exact rfl))
 (j:∀c a w,Q (.panic c) (a.put oi.dst v) w->Q (.panic c) a w:=by exact fun _ _ _ h=>h):bh P md ops Q S D (e+1) b a w:=
 iu i d p m r n q s j (v7 ⟨o,t⟩) k (by rw[l];exact h)
end
variable {B0 g:Nat} {rest:List Value} {rt:Int} {w:World} {ns:List NdK} {nv:Nat->NdV} {na:Option Addr} {nc:Nat}
theorem USt.loadNd{b p K}(h:USt B0 g rest rt w ns nv (some ⟨b,0,none⟩) nc)(c:ns[p]?=some K):(Instr.loadAt 176 (.pointer (some ⟨b,p*6,none⟩))).run prog w= .ok (.agg (ndc (nv p) K).toArray) w:=by
 obtain⟨d,e,a,_,_⟩:=h.cells c;cases e;simp only[Instr.loadAt,Instr.sureAddr,CT,C2,Result.andThen];exact tc w b (p*6) 176 (ndc (nv p) K) _ a underlying176 rfl aD
theorem FN{us:List Pl}{p}(a:p<us.length):(us.eraseIdx p).map (·.2)=dx (us.map (·.2)) p/\(us.eraseIdx p).tail.map (·.1)=(if 0<p then dx (us.tail.map (·.1)) (p-1)else(us.tail.map (·.1)).tail):=by
 refine⟨?_,?_⟩
 ·rw[jE,dx,List.eraseIdx_eq_take_drop_succ]
 ·cases us with
  |nil=>simp at a
  |cons x us=>
   cases p with
   |zero=>simp
   |succ p=>simp[dx,List.eraseIdx_eq_take_drop_succ,List.map_take,List.map_drop]
