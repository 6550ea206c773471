import Derived.Test.YtglbanolhhjjiaaGreatDoorFo28
namespace Go.Proofs.YtglbanolhhjjiaaGreatDoor
open Go.Proofs.Tryz
open Go.RowKit
set_option linter.unusedVariables false
set_option maxRecDepth 100000
set_option maxHeartbeats 32000000
section
def fb(P P':List Nat)(m:Nat):Prop:=P'.Nodup/\∀j∈P',j∈P\/m<=j
variable {B0 g:Nat} {rest:List Value} {rt:Int} {w:World} {ns:List NdK} {nv:Nat->NdV} {na:Option Addr} {nc:Nat}
def xU(ms:List NdK)(P P':List Nat)(m:Nat)(e:Ending):Option Kd->Prop
 |none=>e= .returned (.tuple #[.int .i64 (-1),.string ⟨#[]⟩])/\fb P P' m
 |some x=> ∃(q:Int)(R:List Nat),e= .returned (.tuple #[.int .i64 q,.string x.1])/\0<=q/\SRep ms x.2 R [(strOfNums [],q)]/\fb P (P'++R) m
def xV(B0 g:Nat)(rest:List Value)(rt:Int)(na:Option Addr)(w:World)(ns:List NdK)(P:List Nat)(p:Int)(d:Nat)(r:Tr×Option Kd)(e:Ending)(w':World):Prop:=
 ∃(ms:List NdK)(P':List Nat),UQ B0 g rest rt na w w' ms/\(∀j,j<ns.length->j∉P->ms[j]?=ns[j]?)/\ns.length<=ms.length/\ms.length<=ns.length+d/\SRep ms r.1 P' [(strOfNums [],p)]/\xU ms P P' ns.length e r.2
theorem FE(k v es):(il k (es.map (·.1))=false->(fp k v es).map (·.1)=eE (es.map (·.1)) (plc k (es.map (·.1))) k/\(fp k v es).map (·.2)=eE (es.map (·.2)) (plc k (es.map (·.1))) v)/\(il k (es.map (·.1))=true->(fp k v es).map (·.1)=es.map (·.1)/\(fp k v es).map (·.2)=eE (dx (es.map (·.2)) (plc k (es.map (·.1)))) (plc k (es.map (·.1))) v):=by
 refine⟨fun d=> ?_,fun d=> ?_⟩
 ·simp[fp,d,eE,List.map_take,List.map_drop]
 ·have b:=d;unfold il at b;rw[wz,decide_eq_true_iff,beq_iff_eq]at b;obtain⟨c,e⟩:=b;have f:=pY e;have g:plc k (es.map (·.1))<=(es.map (·.2)).length:=by simpa using z2 c
  simp only[fp,d,if_true,eE,dx,zz,vo,AO,A0];generalize plc k (es.map (·.1))=p at*;refine⟨?_,?_⟩
  ·conv=>rhs;rw[<-my (strOfNums []) c,f]
  ·have a:((es.map (·.2)).take p).length=p:=by rw[wv];omega
   rw[List.take_left' a,List.drop_left' a]
theorem FF(bv:USt B0 g rest rt w ns nv na nc){p id es}(k v)(am:ns[p]?=some (ndL id es))(dE:i es<=240)(ca:eOk (k,v))(dp:ns.length<=1048575):
 Calls prog 132 #[.pointer (some ⟨g,0,none⟩),.int .i64 (p:Nat),.string k,.string v] w fun e w'=>xV B0 g rest rt na w ns [p] p 1 (ctL (fp k v es)) e w':=by
 have M:=im es;have dq:=wj k v es;have dl:=mw ca;have bE:=FE k v es;generalize b9:fp k v es=a at*;have ch:Hid _:=bv;have da:Hid _:=am;obtain⟨b,rfl,X,cL,Z⟩:=bv.cells am;have cr:w.cell? ⟨g,0,none⟩=some (.slice (some ⟨b,0,none⟩) ns.length nc):=bv.blk.cell 0;have G:Hid ((ndL id es).keys.length=es.length/\(ndL id es).vals.length=es.length):=by show _/\_;simp[ndL]
 have bs:=bAl w (.cells (ndc (nv p) (ndL id es)).toArray 176);have cV:=aq w 176 (ndc (nv p) (ndL id es)).toArray;have cl:=cL.below bs;have c1:(prog.info? 176).map (·.size)=some (ndc (nv p) (ndL id es)).length:=aD;have cS:=qZ k (es.map (·.1));rw[x7]at cS;have aS:Hid _:=bE;clear bE b9;go_enter func132,ntmps132;go_upto_region 2 with(first|(refine dG rfl 176 _ rfl b (p*6) rfl (ndc (nv p) (ndL id es)) _ X underlying176 rfl c1 ?_)|(refine bt rfl 176 _ _ rfl w (ndc aF nd0).toArray (ndc (nv p) (ndL id es)).toArray 176 rfl rfl aD rfl (cy _ _) ?_))
 change Code.wp _ _ _ _ (w.alloc (.cells (ndc (nv p) (ndL id es)).toArray 176));generalize w.alloc (.cells (ndc (nv p) (ndL id es)).toArray 176)=c2 at*;have ab:Blk c2 176 w.1.size (ndc (nv p) (ndL id es)):=cV;have cp:c2.cell? ⟨w.1.size,0,none⟩=some (.int .i64 id):=ab.cell 0;have cz:=ab.free 0;have W:Hid _:=ab;clear cV ab cr X cL;go_upto_region 3 with fail
 have bn:=ax c2 w.1.size 0 (.int .i64 0);have Q:=Blk.set W.out 0 (.int .i64 0);have C:=cl.keep (aw bn W.out uv) (aw bn W.out uv);have cn:=bs.trans (bn.below t1 bs.size);clear W cl bs bn cp cz bv am c1;generalize c2.setCell ⟨w.1.size,0,none⟩ (.int .i64 0)=m at*;replace Q:Blk m 176 w.1.size (ndc (nv p) (ndL 0 es)):=Q;replace C:RNd m (nv p) (ndL 0 es):=⟨C.keys,C.vals,C.kids,C.signs⟩;have b8:m.cell? ⟨w.1.size,1,none⟩=some (.bool true):=Q.cell 1;have bg:m.cell? ⟨w.1.size,2,none⟩=some (.slice (nv p).ka es.length (nv p).kc):=by rw[<-G.out.1];exact Q.cell 2
 have a3:m.cell? ⟨w.1.size,3,none⟩=some (.slice (nv p).va es.length (nv p).vc):=by rw[<-G.out.2];exact Q.cell 3
 have bu:R1 9 m (nv p).ka es.length (nv p).kc (os (es.map (·.1))):=by have:=C.keys;rwa [show(ndL 0 es).keys.length=es.length from G.out.1]at this
 have ce:R1 9 m (nv p).va es.length (nv p).vc (os (es.map (·.2))):=by have:=C.vals;rwa [show(ndL 0 es).vals.length=es.length from G.out.2]at this
 have F:=rg _ _ _ _ k m bu uB t7;have d:=t6 Q (u2 C cn);clear Q C;go_upto_region 4 with fail
 go_wp2_with fail;refine F.mono ?_;rintro e an ⟨rfl,bF⟩;obtain rfl:=bF.symm;clear bF F;go_upto_region 5 with fail
 have aB:Hid (il k (es.map (·.1))=(decide (plc k (es.map (·.1))<es.length)&&(((es.map (·.1)).getD (plc k (es.map (·.1))) (strOfNums [])).toList==k.toList))):=by show _= _;unfold il;rw[x7]
 generalize il k (es.map (·.1))=H at*;generalize cM:plc k (es.map (·.1))=P at*;clear cM;go_cut [42] (fun s bd=>s= .bool H/\bd=m)
 case first=>
  by_cases A:P<es.length
  ·have cb:(P:Int)< (es.length:Int):=t7;obtain⟨dF,dI,cv,c6⟩:=bu.get A;rw[eh _ _ (by rw[x7];exact A)]at c6;rw[cv]at bg;have hx:Hid (H=(((es.map (·.1)).getD P (strOfNums [])).toList==k.toList)):=by show H= _;rw[aB.out,B2 A,yv]
   generalize (es.map (·.1)).getD P (strOfNums [])=x at*;clear cv a3;go_wp2_with fail
   go_meet
   case rel=>exact⟨by rw[hx.out],rfl⟩
  ·have cb:¬(P:Int)< (es.length:Int):=t7;have hx:Hid (H=false):=by show H= _;rw[aB.out,B1 A,za]
   clear a3;go_wp2_with fail
   go_meet
   case rel=>exact⟨by rw[hx.out],rfl⟩
 case rest=>
 obtain⟨rfl,bP⟩:=hcut;obtain rfl:=bP.symm;clear bP;go_upto_if 42 with fail
 go_cut [] (fun bd=> ∃v2,Blk bd 176 w.1.size (ndc v2 (ndL 0 a))/\RNd bd v2 (ndL 0 a)/\Below w.1.size w bd)
 case first=>
  cases H with
  |true=>
   have A:P<es.length:=by
    have:=aB.out;rw[eq_comm,wz,decide_eq_true_iff]at this;exact this.1
   have LO:=kz _ _ _ _ P m ce A t7;obtain⟨I,J⟩:=aS.out.2 rfl;have K:=t6 I J;clear I J b8 bg;go_wp2_with fail;refine LO.mono ?_;rintro e an ⟨L,n,rfl,c,a8⟩;have F:=oh _ _ _ _ P v an (a8.r1 (dR _)) t7 t7;have B:=d.out.1.below c;have a9:=d.out.2.1.below c;have o:=d.out.2.2.trans (c.mono d.out.2.2.size);clear LO a8 a3;go_wp2_with fail;refine F.mono ?_;rintro e ap ⟨ae,ag,rfl,bf,R⟩;have r:=B.below bf;have ba:=a9.below bf;have z:=o.trans (bf.mono o.size);have bx:ap.cell? ⟨w.1.size,3,none⟩=some (.slice (nv p).va (ndL 0 es).vals.length (nv p).vc):=r.cell 3;have dd:=r.free 3;have c7:Hid (es.length-1+1=es.length):=by show _= _;omega
   have S:=ax ap w.1.size 3 (.slice ae (es.length-1+1) ag);have y:=r.set 3 (.slice ae (es.length-1+1) ag);have a7:=aw (t:=9) S r uv;have bW:=aw (t:=3) S r uv;have a4:(ndc (nv p) (ndL 0 es)).set 3 (.slice ae (es.length-1+1) ag)=ndc ⟨(nv p).ka,(nv p).kc,ae,ag,(nv p).da,(nv p).dc,(nv p).sa,(nv p).sc⟩ (ndL 0 a):=by
    have l:=B8 List.length K.out.1;simp only[x7]at l;simp[ndc,ndL,l,c7.out]
   rw[a4]at y;have bb:RNd (ap.setCell ⟨w.1.size,3,none⟩ (.slice ae (es.length-1+1) ag)) ⟨(nv p).ka,(nv p).kc,ae,ag,(nv p).da,(nv p).dc,(nv p).sa,(nv p).sc⟩ (ndL 0 a):=by
    have l:=ba.keep a7 bW;have M:=(R.r1 (dR _)).keep a7;rw[<-K.out.2]at M;refine⟨?_,?_,l.kids,l.signs⟩
    ·have:=l.keys;show R1 _ _ _ (a.map (·.1)).length _ (os (a.map (·.1)));rw[K.out.1];exact this
    ·show R1 _ _ _ (a.map (·.2)).length _ (os (a.map (·.2)));have cB:=M.len;rw[An]at cB;rw[cB];exact M
   have b2:=t6 y (u2 bb (z.trans (S.below t1 z.size)));clear F R B a9 o c bf r ba z S y a7 bW a4 bb;go_wp2_with fail
   go_meet
   case rel=>exact⟨_,b2.out⟩
  |false=>
   have LO:=oh _ _ _ _ P k m bu t7 t7;obtain⟨I,J⟩:=aS.out.1 rfl;have K:=t6 I J;clear I J b8 a3;go_wp2_with fail;refine LO.mono ?_;rintro e an ⟨L,n,rfl,c,a8⟩;have B:=d.out.1.below c;have a9:=d.out.2.1.below c;have o:=d.out.2.2.trans (c.mono d.out.2.2.size);have cq:an.cell? ⟨w.1.size,2,none⟩=some (.slice (nv p).ka (ndL 0 es).keys.length (nv p).kc):=B.cell 2;have cA:=B.free 2;have R:=ax an w.1.size 2 (.slice L (es.length+1) n);have r:=B.set 2 (.slice L (es.length+1) n);have ac:=aw (t:=9) R B uv;have bT:=aw (t:=3) R B uv;have ba:=a9.keep ac bT;have z:=o.trans (R.below t1 o.size);have bZ:=(a8.r1 (dR _)).keep ac;have c0:=(ce.below c).keep ac;have aX:=t6 r (u2 ba (u2 z bZ));clear LO a8 B a9 c o R ac bT ba z bZ bg;go_upto_region 8 with fail
   clear cq cA;generalize an.setCell ⟨w.1.size,2,none⟩ (.slice L (es.length+1) n)=ap at*;have bx:ap.cell? ⟨w.1.size,3,none⟩=some (.slice (nv p).va es.length (nv p).vc):=by rw[<-G.out.2];exact r.cell 3
   have F:=oh _ _ _ _ P v ap c0 t7 t7;clear r;go_wp2_with fail;refine F.mono ?_;rintro e cf ⟨af,ak,rfl,a2,S⟩;have y:=aX.out.1.below a2;have cW:=aX.out.2.1.below a2;have a5:=aX.out.2.2.1.trans (a2.mono aX.out.2.2.1.size);have b0:=aX.out.2.2.2.below a2;have dc:cf.cell? ⟨w.1.size,3,none⟩=some (.slice (nv p).va (ndL 0 es).vals.length (nv p).vc):=y.cell 3;have dk:=y.free 3;have br:=ax cf w.1.size 3 (.slice af (es.length+1) ak);have cc:=y.set 3 (.slice af (es.length+1) ak);have ad:=aw (t:=9) br y uv;have bX:=aw (t:=3) br y uv;have Y:a.length=es.length+1:=by
    have l:=B8 List.length K.out.1;rw[re _ (by rw[x7];omega)]at l;simpa using l
   have a4:((ndc (nv p) (ndL 0 es)).set 2 (.slice L (es.length+1) n)).set 3 (.slice af (es.length+1) ak)=ndc ⟨L,n,af,ak,(nv p).da,(nv p).dc,(nv p).sa,(nv p).sc⟩ (ndL 0 a):=by
    simp[ndc,ndL,Y]
   rw[a4]at cc;have bb:RNd (cf.setCell ⟨w.1.size,3,none⟩ (.slice af (es.length+1) ak)) ⟨L,n,af,ak,(nv p).da,(nv p).dc,(nv p).sa,(nv p).sc⟩ (ndL 0 a):=by
    have l:=cW.keep ad bX;have M:=(S.r1 (dR _)).keep ad;have cD:=b0.keep ad;rw[<-K.out.2]at M;rw[<-K.out.1]at cD;refine⟨?_,?_,l.kids,l.signs⟩
    ·show R1 _ _ _ (a.map (·.1)).length _ (os (a.map (·.1)));rw[x7,Y];exact cD
    ·show R1 _ _ _ (a.map (·.2)).length _ (os (a.map (·.2)));rw[x7,Y];exact M
   have b2:=t6 cc (u2 bb (a5.trans (br.below t1 a5.size)));clear F S a2 y cW a5 b0 br cc ad bX a4 bb Y bx;go_wp2_with fail
   go_meet
   case rel=>exact⟨_,b2.out⟩
 case rest=>
 obtain⟨vL,bR,cX,a0⟩:=hcut;obtain⟨db,cT⟩:=aa wc;subst cT;clear d bu ce b8 bg a3 cn aS;have h:Hid _:=(rfl:ndL 0 a=ndL 0 a);generalize bA:ndL 0 a=E at*;clear h;have h:Hid _:=bA;clear bA;have ck:Hid (∀(u:World)(k:Nat)(v:NdV)(c3:NdK),Blk u 176 k (ndc v c3)->(Instr.loadAt 176 (.pointer (some ⟨k,0,none⟩))).run prog u= .ok (.agg (ndc v c3).toArray) u):=fun u k v c3 c9=>jI u k v c3 c9;go_wp2_with fail;have bk:=bDr db;have a1:=a0.trans (bk.mono a0.size);have bS:=bR.below bk;have bc:=cX.below bk;have T:=ch.out.below a1;refine az (fun u=>u.cell? ⟨g,0,none⟩=some (.slice (some ⟨b,0,none⟩) ns.length nc)/\(Instr.loadAt 176 (.pointer (some ⟨w.1.size,0,none⟩))).run prog u= .ok (.agg (ndc vL E).toArray) u) (fun k=>decide (7<=k)) uA ?_;clear bk bR cX a0;generalize db.drew=b7 at*;have cs:b7.cell? ⟨g,0,none⟩=some (.slice (some ⟨b,0,none⟩) ns.length nc)/\(Instr.loadAt 176 (.pointer (some ⟨w.1.size,0,none⟩))).run prog b7= .ok (.agg (ndc vL E).toArray) b7:=⟨T.blk.cell 0,ck.out _ _ _ _ bS⟩;refine aj 0 cs ?_;refine aj 1 cs ?_;refine aj 2 cs ?_;refine aj 3 cs ?_;refine aj 4 cs ?_;refine aM 5 (.agg (ndc vL E).toArray) cs ?hy5 ?_
 case hy5=>exact fun u cP=>bo (p:= .pointer (some ⟨w.1.size,0,none⟩)) rfl rfl cP.2
 refine aj 6 cs ?_;refine ah 7 fun c4 am=> ?_;refine iY T bc Z rfl rfl rfl ?_;intro c5 U bY;refine aU am ?_;clear am c4 cs;have bz:UFr g (some ⟨b,0,none⟩) w c5:=(OnlyS.ofBelow a1).trans ((OnlyS.ofB bY).mono (fun k _ ca=>u4 (by rw[ca])));have bC:(ns.set p E).length=ns.length:=A1;have f:Hid _:=bC;have c8:(ns.set p E).length<=1048575:=t7;have b3:Hid _:=bz;clear T bY bS bc a1 bz bC;generalize bB:ns.set p E=q at*;generalize eA nv p vL=ds at*;have aT:Hid _:=bB;clear bB;have a6:q[p]?=some E:=by rw[<-aT.out];simp[Z]
 have dr:i a<=352:=t7;have b6:=mD U a6 a (by rw[<-h.out];rfl) (by rw[<-h.out];rfl) t7 (by rw[<-h.out];simp[ndL,aH]) t7;have cj:Hid (kSz a E=i a):=by show _= _;rw[<-h.out];simp[kSz,ndL,aH]
 rw[cj.out]at b6;have b4:Hid _:=U;have V:Hid (ctL a=if 240<i a then(.leaf 0 (a.take (ctE 0 a)),some ((a.getD (ctE 0 a) en0).1,.leaf 0 (a.drop (ctE 0 a))))else(.leaf 0 a,none)):=rfl;clear U;go_wp2_with fail;refine b6.mono ?_;rintro e cm ⟨rfl,c⟩;clear b6;have D:=b4.out.below c;have aA:Hid (UFr g (some ⟨b,0,none⟩) w cm):=b3.out.trans (OnlyS.ofBelow c);by_cases N:240<i a
 ·have bl:¬(i a:Int)<=240:=t7;have cg:=FC D (id:=0) (es:=a) (by rw[h.out];exact a6) N t7 t7;have b1:Hid _:=V.out.trans (BC N);generalize i a=LS at*;clear D V;go_wp2_with fail;refine cg.mono ?_;rintro e dD ⟨rfl,cR⟩;have b5:Hid _:=cR;clear cg cR c;go_wp2_with fail
  go_ret2
  rw[b1.out];refine⟨q.set p (ndL 0 (a.take (ctE 0 a)))++[ndL 0 (a.drop (ctE 0 a))],[p],UQ.after b5.out aA.out (u5 rfl),fun j O bm=> ?_,by rw[u7,A1,f.out];omega,by rw[u7,A1,f.out];exact t1,?_,((q.length:Nat):Int),[q.length],rfl,t7,?_,?_⟩
  ·rw[wB (by rw[A1,f.out];exact O),A4 (by simp at bm;omega),<-aT.out,A4 (by simp at bm;omega)]
  ·rw[SRep];refine⟨p,rfl,rfl,?_⟩;rw[wB (by rw[A1,f.out];exact Z),List.getElem?_set_self (by rw[f.out];exact Z)]
  ·rw[SRep];refine⟨q.length,rfl,rfl,?_⟩;simp
  ·refine⟨by simp;have:=f.out;omega,fun j O=> ?_⟩;simp at O;rcases O with rfl|rfl
   ·exact u5 uB
   ·exact u4 (by rw[f.out];exact t1)
 ·have bl:(i a:Int)<=240:=t7;have b1:Hid _:=V.out.trans (BX N);have b5:Hid (UQ B0 g rest rt (some ⟨b,0,none⟩) w cm q):=D.uq aA.out (u5 rfl);generalize i a=LS at*;clear D c V;go_wp2_with fail
  go_ret2
  rw[b1.out];refine⟨q,[p],b5.out,fun j O bm=> ?_,by rw[f.out];exact t1,by rw[f.out];omega,?_,rfl,?_⟩
  ·rw[<-aT.out,A4 (by simp at bm;omega)]
  ·rw[SRep];exact⟨p,rfl,rfl,by rw[h.out];exact a6⟩
  ·exact⟨uB,fun j O=>u5 O⟩
end
theorem xW{d c i f m}(r:(d++(c++f)).Nodup)(h:∀j∈d++(c++f),j<m)(g:fb c i m):fb (d++(c++f)) (d++(i++f)) m:=by
 have l:=r;rw[zd,zd]at l;obtain⟨n,⟨q,o,p⟩,k⟩:=l;refine⟨?_,fun j a=> ?_⟩
 ·rw[zd,zd];refine⟨n,⟨g.1,o,fun x hx y b e=> ?_⟩,fun x hx y b e=> ?_⟩
  ·subst e;rcases g.2 x hx with h1|h1
   ·exact p x h1 x b rfl
   ·have:=h x (by simp[b]);omega
  ·subst e;rcases wE.1 b with b|b
   ·rcases g.2 x b with h1|h1
    ·exact k x hx x (by simp[h1]) rfl
    ·have:=h x (by simp[hx]);omega
   ·exact k x hx x (by simp[b]) rfl
 ·rcases wE.1 a with a|a
  ·exact u5 (by simp[a])
  ·rcases wE.1 a with a|a
   ·rcases g.2 j a with h1|h1
    ·exact u5 (by simp[h1])
    ·exact u4 h1
   ·exact u5 (by simp[a])
def ouP(o:Option Kd)(q:Int):List Pl:=match o with|none=>[]|some x=>[(x.1,q)]
theorem xX{ns ms L G us}(E:SRep ns (kds L) G us)(k:G.Nodup){q}(F:q<L.length){e d c a R v y}(u:G=e++(d++c))(h:SRep ns (kds (L.take q)) e (us.take q))(i:SRep ns (kds (L.drop (q+1))) c (us.drop (q+1)))(m:∀j,j<ns.length->j∉d->ms[j]?=ns[j]?){t o}(s:SRep ms t a [(strOfNums [],v)])(x:SRep ms (kds o.toList) R (ouP o y))(w:fb d (a++R) ns.length):
 ∃g,SRep ms (kds (L.take q++((L.getD q t0).1,t)::(o.toList++L.drop (q+1)))) g (us.take q++((L.getD q t0).1,v)::(ouP o y++us.drop (q+1)))/\fb G g ns.length:=by
 have n:=E.lt;subst u;have l:=k;rw[zd,zd]at l;obtain⟨B,⟨C,D,p⟩,r⟩:=l;have z:=h.keep (fun j b=>m j (h.lt j b) (fun f=>r j b j (by simp[f]) rfl));have A:=i.keep (fun j b=>m j (i.lt j b) (fun f=>p j f j b rfl));refine⟨e++((a++R)++c),?_,xW k n w⟩;refine SRep.cat ?_ z;refine er.2 ⟨v,ouP o y++us.drop (q+1),a,R++c,uB,rfl,s,?_⟩;exact SRep.cat A x
theorem FG{us:List Pl}{q}(c:q<us.length)(s v)(d:us.getD q (strOfNums [],0)=(s,v))(x:Pl):
 (us.take q++(s,v)::([x]++us.drop (q+1))).map (·.2)=eE (us.map (·.2)) (q+1) x.2/\(us.take q++(s,v)::([x]++us.drop (q+1))).tail.map (·.1)=eE (us.tail.map (·.1)) q x.1:=by
 have e:us=us.take q++(s,v)::us.drop (q+1):=by rw[<-d,my _ c]
 have b:(us.take q).length=q:=by rw[wv];omega
 generalize us.take q=f at*;generalize us.drop (q+1)=D at*;subst e;subst b;refine⟨?_,?_⟩
 ·simp only[eE,zz,vo,List.take_append,List.drop_append,x7];rw[wC uB,zW uB];simp
 ·cases f with
  |nil=>simp[eE]
  |cons a f=>
   simp only[eE,y4,List.tail_cons,zz,vo,List.take_append,List.drop_append,x7,wQ];rw[wC uB,zW uB];simp
theorem xY{us:List Pl}{q}(a:q<us.length)(s v)(b:us.getD q (strOfNums [],0)=(s,v)):us.take q++(s,v)::([]++us.drop (q+1))=us:=by
 rw[w4,<-b,my _ a]
theorem rM{ns ms:List NdK}{p G a L us}(f:(p::G).Nodup)(k:p<ns.length)(h:ns.length<=ms.length)(i:SRep ms (kds L) a us)(d:fb G a ns.length):
 SRep (ms.set p (ndI 0 us)) (.node 0 (kds L)) (p::a) [(strOfNums [],(p:Int))]/\fb (p::G) (p::a) ns.length:=by
 have c:p∉a:=fun g=>by
  rcases d.2 p g with h1|h1
  ·exact(y1.1 f).1 h1
  ·omega
 refine⟨?_,y1.2 ⟨c,d.1⟩,fun j b=> ?_⟩
 ·rw[SRep];exact⟨p,us,a,rfl,rfl,List.getElem?_set_self t7,i.keep (fun j b=>A4 (fun e=>c (by rw[e];exact b)))⟩
 ·rcases wA.1 b with rfl|b
  ·exact u5 uB
  ·rcases d.2 j b with h1|h1
   ·exact u5 (by simp[h1])
   ·exact u4 h1
theorem FH{ns ms:List NdK}{p m G q L us}(A:(p::G).Nodup)(E:p<ns.length)(r:ns.length<=ms.length)(C:SRep ms (kds L) q us)(l:fb G q ns.length)(D:m<=L.length):
 ∃o B,SRep ((ms.set p (ndI 0 us)).set p (ndI 0 (us.take m))++[ndI 0 (us.drop m)]) (.node 0 (kds (L.take m))) (p::o) [(strOfNums [],(p:Int))]/\SRep ((ms.set p (ndI 0 us)).set p (ndI 0 (us.take m))++[ndI 0 (us.drop m)]) (.node 0 (kds (L.drop m))) (ms.length::B) [(strOfNums [],(ms.length:Int))]/\fb (p::G) ((p::o)++(ms.length::B)) ns.length:=by
 have h:p∉q:=fun f=>by
  rcases l.2 p f with h1|h1
  ·exact(y1.1 A).1 h1
  ·omega
 have g:=C.lt;have s:=C;rw[<-z8 m L]at s;obtain⟨o,B,d,i,rfl,rfl,v,w,z⟩:=SRep.split s;have u:d.length=m:=by rw[v,wv];omega
 rw[List.take_left' u,List.drop_left' u];have c:∀j,j∈o++B->((ms.set p (ndI 0 (d++i))).set p (ndI 0 d)++[ndI 0 i])[j]?=ms[j]?:=fun j a=>by
  have t:=g j a;have n:p≠j:=fun e=>h (by rw[e];exact a);rw[wB (by simpa using t),A4 n,A4 n]
 refine⟨o,B,?_,?_,?_,?_⟩
 ·rw[SRep];refine⟨p,d,o,rfl,rfl,?_,w.keep (fun j a=>c j (by simp[a]))⟩;rw[wB (by simp;omega),List.getElem?_set_self (by simp;omega)]
 ·rw[SRep];refine⟨ms.length,i,B,rfl,rfl,?_,z.keep (fun j a=>c j (by simp[a]))⟩;rw[wX uB];simp
 ·have k:=l.1;rw[zd]at k;rw[zd];refine⟨y1.2 ⟨fun f=>h (by simp[f]),k.1⟩,y1.2 ⟨fun f=>by have:=g _ (List.mem_append_right o f);omega,k.2.1⟩,fun x hx y b e=> ?_⟩;subst e;rcases wA.1 hx with rfl|hx
  ·rcases wA.1 b with b|b
   ·omega
   ·exact h (by simp[b])
  ·rcases wA.1 b with b|b
   ·have:=g x (by simp[hx]);omega
   ·exact k.2.2 x hx x b rfl
 ·intro j a;rcases wE.1 a with a|a
  ·rcases wA.1 a with rfl|a
   ·exact u5 uB
   ·rcases l.2 j (by simp[a])with h1|h1
    ·exact u5 (by simp[h1])
    ·exact u4 h1
  ·rcases wA.1 a with rfl|a
   ·exact u4 r
   ·rcases l.2 j (by simp[a])with h1|h1
    ·exact u5 (by simp[h1])
    ·exact u4 h1
theorem FJ{L q t}{o:Option Kd}(f:q<L.length)(b:∀s∈sgs L,eQ s)(d:nSz (sgs L)<=240)(c:∀x,o=some x->eQ x.1):(∀s∈sgs (L.take q++((L.getD q t0).1,t)::(o.toList++L.drop (q+1))),eQ s)/\nSz (sgs (L.take q++((L.getD q t0).1,t)::(o.toList++L.drop (q+1))))<=285:=by
 rw[rj f];refine⟨fun s a=> ?_,?_⟩
 ·simp only[wE,xC,Option.mem_toList]at a;rcases a with a|⟨x,hx,rfl⟩|a
  ·exact b s (List.mem_of_mem_take a)
  ·exact c x hx
  ·exact b s (List.mem_of_mem_drop a)
 ·rw[dm,iE,iE];have:aH ((sgs L).take q)+aH ((sgs L).drop q)=aH (sgs L):=by rw[<-iE,z8]
  rw[dm]at d;have:aH (o.toList.map (·.1))<=45:=by
   cases e:o with
   |none=>simp[aH]
   |some x=>
    have:=kL (c x e);simpa [aH]using this
  omega
theorem USt.only{B0 g k rest rt w w' ns nv na nc cs}(d:USt B0 g rest rt w ns nv na nc)(a:OnlyB k w w')(c:Blk w 176 k cs)(f:na≠some ⟨k,0,none⟩):USt B0 g rest rt w' ns nv na nc:=by
 have j:g≠k:=fun e=>by have:=d.blk;rw[e]at this;unfold Blk at this c;rw[c]at this;cases this
 exact⟨d.blk.only a j,d.nodes.keep (fun b e=>a.block b (cE d.nodes b (by simp[rb,e])).2 (fun h=>f (by rw[e,h]))),fun i l=>(d.each i l).keep (aw a c uv) (aw a c uv),u9 d.gB a.size⟩
section
variable {B0 g:Nat} {rest:List Value} {rt:Int} {w:World} {ns:List NdK} {nv:Nat->NdV} {na:Option Addr} {nc:Nat}
def rT(B0 g:Nat)(rest:List Value)(rt:Int)(k v:ByteArray)(n:Nat)(t:Tr):Prop:= ∀(w:World)(ns:List NdK)(nv:Nat->NdV)(na:Option Addr)(nc:Nat)(P:List Nat)(p:Int),USt B0 g rest rt w ns nv na nc->SRep ns t P [(strOfNums [],p)]->P.Nodup->ns.length+(n+1)<=1048575->
 Calls prog 132 #[.pointer (some ⟨g,0,none⟩),.int .i64 p,.string k,.string v] w fun e w'=>xV B0 g rest rt na w ns P p (n+1) (dh k v n t) e w'
theorem xZ{ms P P' m e o}(a:xU ms P P' m e o):∃(y:Int)(R:List Nat)(sg:ByteArray),e= .returned (.tuple #[.int .i64 y,.string sg])/\SRep ms (kds o.toList) R (ouP o y)/\fb P (P'++R) m/\(o=none->y= -1)/\∀x,o=some x->0<=y/\sg=x.1:=by
 cases o with
 |none=>exact⟨-1,[],⟨#[]⟩,a.1,gE.2 ⟨rfl,rfl⟩,by rw[wi];exact a.2,fun _=>rfl,fun x hx=>by cases hx⟩
 |some x=>
  obtain⟨q,R,b,c,d,f⟩:=a;exact⟨q,R,x.1,b,er.2 ⟨q,[],R,[],uB,rfl,d,gE.2 ⟨rfl,rfl⟩⟩,f,(fun hx=>by cases hx),fun y g=>by cases g;exact⟨c,rfl⟩⟩
theorem yd{B0 g rest rt w ns nv na nc k}(a:USt B0 g rest rt w ns nv na nc)(b:w.1.size<=k):na≠some ⟨k,0,none⟩:=fun e=>by
 have:=(cE a.nodes k (by simp[rb,e])).2;omega
theorem FK(k v)(e3:eOk (k,v))(n id L)(e8:wf (n+1) (.node id (kds L)))(ef:∀x∈L,rT B0 g rest rt k v n x.2):rT B0 g rest rt k v (n+1) (.node id (kds L)):=by
 intro w ns nv na nc P gw ck e6 E gf;obtain⟨dU,a9,bx,dV⟩:=bq.1 e8;rw[SRep]at e6;obtain⟨p,us,G,rfl,e4,ba,V⟩:=e6;cases e4;have aB:=jD (k:=k) dU;have dW:=V.len;have a5:=V.sgs;obtain⟨gp,dq,gr,F,ap,e7,Y,W,cM,X⟩:=V.at aB;have f:=(y1.1 E).2;have bY:dq.Nodup:=by rw[ap]at f;rw[zd,zd]at f;exact f.2.1.1
 have cn:Hid (dh k v (n+1) (.node id (kds L))=ctN (L.take (kid k L)++((L.getD (kid k L) t0).1,(dh k v n (L.getD (kid k L) t0).2).1)::((dh k v n (L.getD (kid k L) t0).2).2.toList++L.drop (kid k L+1)))):=by show _= _;rw[dh];simp only[ct]
 have cW:kid k L=iD k (us.tail.map (·.1)):=by rw[a5];rfl
 have d9:Hid _:=ef _ (bO (d:=t0) aB);have Z:=rl e3 (a9 _ (bO (d:=t0) aB));generalize dh k v n (L.getD (kid k L) t0).2=r at*;have b7:=t6 V (u2 f (u2 aB (u2 ap (u2 W (u2 X (u2 E (u2 Y (u2 Z (u2 a9 (u2 bx dV))))))))));have cp:=t6 cM bY;have cS:(us.map (·.2)).getD (kid k L) 0=F:=by
  have:=eF (·.2) us (kid k L) ((strOfNums [],0):Pl);rw[Y]at this;exact this
 generalize kid k L=q at*;have bm:Hid _:=ck;have ea:Hid _:=ba;obtain⟨b,rfl,a2,eW,b0⟩:=ck.cells ba;have eB:w.cell? ⟨g,0,none⟩=some (.slice (some ⟨b,0,none⟩) ns.length nc):=ck.blk.cell 0;have C:Hid ((ndI id us).kids.length=us.length/\(ndI id us).signs.length=(us.tail.map (·.1)).length/\(us.tail.map (·.1)).length+1=us.length):=by
  refine⟨by simp[ndI],rfl,?_⟩;have:=List.length_pos_iff.2 dU;simp;omega
 have s:q<us.length:=t7;have gi:us.length<=100:=by
  have f4:=gQ (us.tail.map (·.1));rw[a5]at f4;rw[dm]at dV;have:=C.out.2.2;rw[a5]at this;omega
 have cj:=bAl w (.cells (ndc (nv p) (ndI id us)).toArray 176);have fl:=aq w 176 (ndc (nv p) (ndI id us)).toArray;have ek:=eW.below cj;have fB:(prog.info? 176).map (·.size)=some (ndc (nv p) (ndI id us)).length:=aD;clear dW;clear V f ap W X E Y Z cM bY e7 e8 ef dU a9 bx dV a5;go_enter func132,ntmps132;go_upto_region 2 with(first|(refine dG rfl 176 _ rfl b (p*6) rfl (ndc (nv p) (ndI id us)) _ a2 underlying176 rfl fB ?_)|(refine bt rfl 176 _ _ rfl w (ndc aF nd0).toArray (ndc (nv p) (ndI id us)).toArray 176 rfl rfl aD rfl (cy _ _) ?_))
 change Code.wp _ _ _ _ (w.alloc (.cells (ndc (nv p) (ndI id us)).toArray 176));generalize w.alloc (.cells (ndc (nv p) (ndI id us)).toArray 176)=fM at*;have a6:Blk fM 176 w.1.size (ndc (nv p) (ndI id us)):=fl;have eq:fM.cell? ⟨w.1.size,0,none⟩=some (.int .i64 id):=a6.cell 0;have eM:=a6.free 0;have a1:Hid _:=a6;clear fl a6 eB a2 eW;go_upto_region 3 with fail
 have cf:=ax fM w.1.size 0 (.int .i64 0);have aS:=Blk.set a1.out 0 (.int .i64 0);have T:=ek.keep (aw cf a1.out uv) (aw cf a1.out uv);have bn:=cj.trans (cf.below t1 cj.size);clear a1 ek cj cf eq eM ck ba fB;generalize fM.setCell ⟨w.1.size,0,none⟩ (.int .i64 0)=N at*;replace aS:Blk N 176 w.1.size (ndc (nv p) (ndI 0 us)):=aS;replace T:RNd N (nv p) (ndI 0 us):=⟨T.keys,T.vals,T.kids,T.signs⟩;have ak:N.cell? ⟨w.1.size,1,none⟩=some (.bool false):=aS.cell 1;have es:N.cell? ⟨w.1.size,4,none⟩=some (.slice (nv p).da us.length (nv p).dc):=by rw[<-C.out.1];exact aS.cell 4
 have O:N.cell? ⟨w.1.size,5,none⟩=some (.slice (nv p).sa (us.tail.map (·.1)).length (nv p).sc):=aS.cell 5;have d3:R1 3 N (nv p).da us.length (nv p).dc (on (us.map (·.2))):=by have:=T.kids;rwa [show(ndI 0 us).kids.length=us.length from C.out.1]at this
 have d4:R1 9 N (nv p).sa (us.tail.map (·.1)).length (nv p).sc (os (us.tail.map (·.1))):=T.signs;have gg:(us.tail.map (·.1)).length<=100:=by have:=C.out.2.2;omega
 have a8:=rh _ _ _ _ k N d4 rfl t7;rw[<-cW]at a8;have z:=t6 aS (u2 T (u2 bn (u2 d3 d4)));clear aS T cW d4;generalize c4:(us.tail.map (·.1)).length=sl at*;have bl:Hid _:=c4;clear c4;go_upto_region 13 with fail
 go_wp2_with fail;refine a8.mono ?_;rintro e gA ⟨rfl,ab⟩;obtain rfl:=ab.symm;clear ab a8;have ad:=bm.out.below bn;have em:=d9.out N ns nv _ nc dq F ad cp.out.1 cp.out.2 t7;obtain⟨gt,gv,eK,eC⟩:=d3.get s;rw[cF _ _ (by simpa using s),cS]at eC;rw[eK]at es;clear cS O eK d3;go_wp2_with fail;refine em.mono ?_;rintro e ae e1;obtain⟨ms,f9,cc,c5,bW,gc,cP,bF⟩:=e1;obtain⟨gm,b5,c9,dl,bv,K⟩:=cc;have fc:=z.out.1.onlyS bv (fun ac=>by
  rcases ac with ac|ac
  ·have:=ad.blk;rw[<-ac]at this;have k0:=z.out.1;unfold Blk at this k0;rw[k0]at this;cases this
  ·exact yd bm.out t1 ac)
 have dX:=ad.keepT bv (t:=9) uv uv;have kI:=ad.keepT bv (t:=3) uv uv;have fo:=z.out.2.1.keep dX kI;have dc:=z.out.2.2.2.1.keep kI;have dk:=z.out.2.2.2.2.keep dX;have bZ:b5≠some ⟨w.1.size,0,none⟩:=by
  rcases K with rfl|⟨k,rfl,hk⟩
  ·exact yd bm.out t1
  ·have:=z.out.1.lt;intro e;cases e;omega
 have cv:UFr g (some ⟨b,0,none⟩) w ae:=(OnlyS.ofBelow bn).trans bv;have bX:b5=some ⟨b,0,none⟩\/∃k,b5=some ⟨k,0,none⟩/\w.1.size<=k:=by
  rcases K with dS|⟨k,dS,hk⟩
  ·exact u5 dS
  ·exact u4 ⟨k,dS,u9 bn.size hk⟩
 have l:=t6 fc (u2 fo (u2 dc (u2 dk (u2 dl (u2 cv (u2 bX bZ))))));have bf:=t6 c5 (u2 cP bF);clear em bv K fc dX kI fo dc dk bZ cv bX ak es eC ad bn z c5 cP dl;obtain⟨y,R,sg,rfl,cR,cL,a3,S⟩:=xZ bF;have bg:=t6 cR cL;clear bF cR cL;go_upto_if 96 with fail
 go_cut [] (fun d7=> ∃v2,Blk d7 176 w.1.size (ndc v2 (ndI 0 (us.take q++((L.getD q t0).1,F)::(ouP r.2 y++us.drop (q+1)))))/\RNd d7 v2 (ndI 0 (us.take q++((L.getD q t0).1,F)::(ouP r.2 y++us.drop (q+1))))/\OnlyB w.1.size ae d7)
 case first=>
  cases M:r.2 with
  |none=>
   have f8:=a3 M;subst f8;have ds:Hid (Blk ae 176 w.1.size (ndc (nv p) (ndI 0 (us.take q++((L.getD q t0).1,F)::(ouP none (-1)++us.drop (q+1)))))/\RNd ae (nv p) (ndI 0 (us.take q++((L.getD q t0).1,F)::(ouP none (-1)++us.drop (q+1))))/\OnlyB w.1.size ae ae):=by
    have e:=xY s _ _ b7.out.2.2.2.2.2.2.2.1;show Blk _ _ _ (ndc _ (ndI 0 (us.take q++((L.getD q t0).1,F)::([]++us.drop (q+1)))))/\RNd _ _ (ndI 0 (us.take q++((L.getD q t0).1,F)::([]++us.drop (q+1))))/\_;rw[e];exact⟨l.out.1,l.out.2.1,OnlyB.refl _ _⟩
   have bk:Hid _:=M;clear a3 S M;go_wp2_with fail
   go_meet
   case rel=>rw[bk.out];exact⟨_,ds.out⟩
  |some x=>
   obtain⟨gj,rfl⟩:=S x M;have dF:=DY _ _ _ _ (q+1) y ae l.out.2.2.1 s t7;have et:ae.cell? ⟨w.1.size,4,none⟩=some (.slice (nv p).da us.length (nv p).dc):=by rw[<-C.out.1];exact l.out.1.cell 4
   have e5:Hid (((q+1:Nat):Int)=(q:Int)+1):=by show _= _;omega
   rw[e5.out]at dF;obtain⟨cX,c0⟩:=FG s _ _ b7.out.2.2.2.2.2.2.2.1 (x.1,y);have cm:=t6 cX c0;have bk:Hid _:=M;clear a3 S M cX c0;go_wp2_with fail;refine dF.mono ?_;rintro e d5 ⟨af,O,rfl,br,fm⟩;have bb:=l.out.1.below br;have fs:=l.out.2.1.below br;have ev:d5.cell? ⟨w.1.size,4,none⟩=some (.slice (nv p).da (ndI 0 us).kids.length (nv p).dc):=bb.cell 4;have eN:=bb.free 4;have cg:=ax d5 w.1.size 4 (.slice af (us.length+1) O);have fd:=bb.set 4 (.slice af (us.length+1) O);have b3:=aw (t:=9) cg bb uv;have b1:=aw (t:=3) cg bb uv;have a7:=t6 fd (u2 (fs.keep b3 b1) (u2 ((fm.r1 (fw _)).keep b1) (u2 ((l.out.2.2.2.1.below br).keep b3) ((Below.onlyB br w.1.size).trans cg))));clear dF fm br bb fs cg fd b3 b1 et;go_upto_region 17 with fail
   clear ev eN;generalize d5.setCell ⟨w.1.size,4,none⟩ (.slice af (us.length+1) O)=fD at*;have ex:fD.cell? ⟨w.1.size,5,none⟩=some (.slice (nv p).sa sl (nv p).sc):=by rw[<-bl.out];exact a7.out.1.cell 5
   have a8:=oh _ _ _ _ q x.1 fD a7.out.2.2.2.1 (by have:=C.out.2.2;omega) t7;go_wp2_with fail;refine a8.mono ?_;rintro e d6 ⟨ag,am,rfl,bs,fn⟩;have bc:=a7.out.1.below bs;have ft:=a7.out.2.1.below bs;have dd:=a7.out.2.2.1.below bs;have ga:d6.cell? ⟨w.1.size,5,none⟩=some (.slice (nv p).sa (ndI 0 us).signs.length (nv p).sc):=bc.cell 5;have gb:=bc.free 5;have ch:=ax d6 w.1.size 5 (.slice ag (sl+1) am);have ce:=bc.set 5 (.slice ag (sl+1) am);have b4:=aw (t:=9) ch bc uv;have b2:=aw (t:=3) ch bc uv;have J:∃c,c=us.take q++((L.getD q t0).1,F)::([(x.1,y)]++us.drop (q+1)):=⟨_,rfl⟩;obtain⟨c,J⟩:=J;have bC:c.map (·.2)=eE (us.map (·.2)) (q+1) y:=by rw[J];exact cm.out.1
   have bE:c.tail.map (·.1)=eE (us.tail.map (·.1)) q x.1:=by rw[J];exact cm.out.2
   have bT:(c.map (·.2)).length=us.length+1:=by rw[bC,re _ (by rw[x7];exact s),x7]
   have D:(c.tail.map (·.1)).length=sl+1:=by rw[bE,re _ (by rw[bl.out];have:=C.out.2.2;omega),bl.out]
   have eL:((ndc (nv p) (ndI 0 us)).set 4 (.slice af (us.length+1) O)).set 5 (.slice ag (sl+1) am)=ndc ⟨(nv p).ka,(nv p).kc,(nv p).va,(nv p).vc,af,O,ag,am⟩ (ndI 0 c):=by
    show [_,_,_,_,_,_]=[_,_,_,_,Value.slice af (c.map (·.2)).length O,Value.slice ag (c.tail.map (·.1)).length am];rw[bT,D]
    rfl
   rw[eL]at ce;have d2:RNd (d6.setCell ⟨w.1.size,5,none⟩ (.slice ag (sl+1) am)) ⟨(nv p).ka,(nv p).kc,(nv p).va,(nv p).vc,af,O,ag,am⟩ (ndI 0 c):=by
    have a9:=ft.keep b4 b2;have bx:=(fn.r1 (dR _)).keep b4;have eU:=dd.keep b2;rw[<-bE]at bx;rw[<-bC]at eU;refine⟨a9.keys,a9.vals,?_,?_⟩
    ·show R1 _ _ _ (c.map (·.2)).length _ (on (c.map (·.2)));rw[bT];exact eU
    ·show R1 _ _ _ (c.tail.map (·.1)).length _ (os (c.tail.map (·.1)));rw[D];exact bx
   rw[J]at ce d2;have ds:=t6 ce (u2 d2 (a7.out.2.2.2.2.trans ((Below.onlyB bs w.1.size).trans ch)));clear a8 fn bs bc ft dd ch ce b4 b2 eL d2 bT D ex bC bE J;go_wp2_with fail
   go_meet
   case rel=>rw[bk.out];exact⟨_,ds.out⟩
 case rest=>
 obtain⟨vL,c7,fz,d1⟩:=hcut;obtain⟨f0,fa⟩:=aa wc;subst fa;obtain⟨V,f,aB,ap,W,X,E,Y,Z,e9,c6,ab⟩:=b7.out;obtain⟨fV,bA,cD⟩:=xX V f aB ap W X bf.out.1 bf.out.2.1 bg.out.1 bg.out.2;obtain⟨bR,bS⟩:=FJ (t:=r.1) aB c6 ab (fun x hx=>(Z.2 x hx).2);have bz:∀j,j∈dq->j∈G:=fun j Q=>by rw[ap];simp[Q]
 have c2:=(y1.1 E).1;have cA:=(bf.out.1 p b0 (fun dS=>c2 (bz p dS))).trans ea.out;have stV:=l.out.2.2.2.2.1.only d1 l.out.1 l.out.2.2.2.2.2.2.2;have eR:UFr g (some ⟨b,0,none⟩) w f0:=l.out.2.2.2.2.2.1.transN (OnlyS.ofB d1) (fun j Q ac=>by omega);have K:=l.out.2.2.2.2.2.2.1;obtain⟨b9,rfl,_,_,c3⟩:=stV.cells cA;have bP:=bA.sgs;have bB:Hid (∀j,j<ns.length->j∉p::G->ms[j]?=ns[j]?):=fun j Q aA=>bf.out.1 j Q (fun dS=>aA (by simp[bz j dS]));have i:=t6 bA (u2 cD (u2 E (u2 eR K)));have cl:Hid (dh k v (n+1) (.node id (kds L))= _):=cn.out;generalize eV:L.take q++((L.getD q t0).1,r.1)::(r.2.toList++L.drop (q+1))=a at*;generalize us.take q++((L.getD q t0).1,F)::(ouP r.2 y++us.drop (q+1))=c at*;clear bA cD V f ap W X E Y Z e9 c6 ab b7 bf bg l cn eV cA d1 eR K bz c2 S a3;generalize cz:ndI 0 c=o at*;have A:Hid _:=cz;clear cz;have ej:Hid (∀(u:World)(k:Nat)(v:NdV)(fP:NdK),Blk u 176 k (ndc v fP)->(Instr.loadAt 176 (.pointer (some ⟨k,0,none⟩))).run prog u= .ok (.agg (ndc v fP).toArray) u):=fun u k v fP f7=>jI u k v fP f7;go_wp2_with fail;have bu:=bDr f0;have c8:=c7.below bu;have b6:=fz.below bu;have aT:=stV.below bu;have d8:Hid _:=bu;refine az (fun u=>u.cell? ⟨g,0,none⟩=some (.slice (some ⟨b9,0,none⟩) ms.length c9)/\(Instr.loadAt 176 (.pointer (some ⟨w.1.size,0,none⟩))).run prog u= .ok (.agg (ndc vL o).toArray) u) (fun k=>decide (7<=k)) uA ?_;clear bu c7 fz;generalize f0.drew=dP at*;have cs:dP.cell? ⟨g,0,none⟩=some (.slice (some ⟨b9,0,none⟩) ms.length c9)/\(Instr.loadAt 176 (.pointer (some ⟨w.1.size,0,none⟩))).run prog dP= .ok (.agg (ndc vL o).toArray) dP:=⟨aT.blk.cell 0,ej.out _ _ _ _ c8⟩;refine aj 0 cs ?_;refine aj 1 cs ?_;refine aj 2 cs ?_;refine aj 3 cs ?_;refine aj 4 cs ?_;refine aM 5 (.agg (ndc vL o).toArray) cs ?hy5 ?_
 case hy5=>exact fun u e2=>bo (p:= .pointer (some ⟨w.1.size,0,none⟩)) rfl rfl e2.2
 refine aj 6 cs ?_;refine ah 7 fun fZ ba=> ?_;refine iY aT b6 c3 rfl rfl rfl ?_;intro f2 aX db;refine aU ba ?_;clear ba fZ cs;have D:(ms.set p o).length=ms.length:=A1;have cr:UFr g (some ⟨b,0,none⟩) w f2:=(i.out.2.2.2.1.trans (OnlyS.ofBelow d8.out)).transN (OnlyS.ofB db) (fun j Q ac=>by
  rcases i.out.2.2.2.2 with e|⟨k1,e,hk1⟩
  ·cases e;exact u4 (by rw[ac])
  ·cases e;omega)
 have cV:(ms.set p o)[p]?=some o:=List.getElem?_set_self c3;have f6:(ms.set p o).length<=1048575:=by rw[D];omega
 have H:Hid _:=D;have I:Hid _:=(rfl:ms.set p o=ms.set p o);generalize cB:ms.set p o=da at*;clear I;have I:Hid _:=cB;have cq:Hid (o.signs=sgs a):=by show _= _;rw[<-A.out];exact bP
 have dI:=mD aX cV [] (by rw[<-A.out];rfl) (by rw[<-A.out];rfl) (by simp[lSz]) (by rw[cq.out];rw[dm]at bS;omega) t7;have eb:Hid (kSz [] o=nSz (sgs a)):=by
  show _= _;have e:o.leaf=false:=by rw[<-A.out];rfl
  simp only[kSz,cq.out,e,dm];simp[lSz];omega
 rw[eb.out]at dI;have h:=t6 aX (u2 cr (u2 bR bP));have c1:Hid ((some ⟨b9,0,none⟩:Option Addr)=some ⟨b,0,none⟩\/∃k,(some ⟨b9,0,none⟩:Option Addr)=some ⟨k,0,none⟩/\w.1.size<=k):=i.out.2.2.2.2;have a0:Hid (ctN a=if 240<nSz (sgs a)then(.node 0 (kds (a.take (ctS 4 (sgs a)+1))),some ((a.getD (ctS 4 (sgs a)+1) t0).1,.node 0 (kds (a.drop (ctS 4 (sgs a)+1)))))else(.node 0 (kds a),none)):=rfl;clear aX D cB aT db c8 b6 cr bP bR;go_wp2_with fail;refine dI.mono ?_;rintro e en ⟨rfl,b8⟩;clear dI;have U:=h.out.1.below b8;have bd:Hid (UFr g (some ⟨b,0,none⟩) w en):=h.out.2.1.trans (OnlyS.ofBelow b8);by_cases an:240<nSz (sgs a)
 ·have cb:¬(nSz (sgs a):Int)<=240:=t7;have a4:2<=(c.tail.map (·.1)).length:=by
   rw[h.out.2.2.2];have:=oq _ h.out.2.2.1;rw[dm]at an;omega
  have dp:=FD U (id:=0) (us:=c) (by rw[A.out];exact cV) a4 (by rw[h.out.2.2.2];rw[dm]at bS;omega) t7;rw[h.out.2.2.2]at dp;have dr:Hid _:=a0.out.trans (BC an);have dD:Hid (ctS 4 (sgs a)+1<=a.length):=by
   show _<=_;rw[h.out.2.2.2]at a4;have f5:=(oo (sgs a) 4 a4 t7).1;rw[gC]at f5;omega
  generalize nSz (sgs a)=LS at*;clear U a0 a4;go_wp2_with fail;refine dp.mono ?_;rintro e gs ⟨rfl,cc⟩;have dE:Hid _:=cc;clear dp cc b8;go_wp2_with fail
  go_ret2
  rw[cl.out,dr.out];obtain⟨gn,B,ak,ca,f3⟩:=FH (m:=ctS 4 (sgs a)+1) i.out.2.2.1 b0 bW i.out.1 i.out.2.1 dD.out;rw[A.out,I.out]at ak ca;refine⟨_,p::gn,UQ.after dE.out bd.out c1.out,fun j Q aA=> ?_,?_,?_,ak,((ms.length:Nat):Int),_,?_,t7,ca,f3⟩
  ·have cT:p≠j:=fun e=>aA (by simp[e]);rw[wB (by rw[A1,H.out];omega),A4 cT,<-I.out,A4 cT,bB.out j Q aA]
  ·rw[u7,A1,H.out];omega
  ·rw[u7,A1,H.out,x2];omega
  ·rw[<-mx,<-H.out];rfl
 ·have cb:(nSz (sgs a):Int)<=240:=t7;have dr:Hid _:=a0.out.trans (BX an);have dE:Hid (UQ B0 g rest rt (some ⟨b,0,none⟩) w en da):=U.uq bd.out c1.out;generalize nSz (sgs a)=LS at*;clear U b8 a0;go_wp2_with fail
  go_ret2
  rw[cl.out,dr.out];obtain⟨ak,ca⟩:=rM i.out.2.2.1 b0 bW i.out.1 i.out.2.1;rw[A.out,I.out]at ak;refine⟨da,p::fV,dE.out,fun j Q aA=> ?_,by rw[H.out];exact bW,by rw[H.out];omega,ak,rfl,ca⟩;rw[<-I.out,A4 (by intro e;exact aA (by simp[e])),bB.out j Q aA]
theorem FM{k v}(b:eOk (k,v)):∀(n:Nat)(t:Tr),wf n t->rT B0 g rest rt k v n t:=by
 intro n;induction n with
 |zero=>
  intro t a;rcases aO a with⟨id,es,_,rfl⟩|⟨id,L,m,e,_⟩
  ·intro w ns nv na nc P p h c i j;rw[SRep]at c;obtain⟨q,rfl,f,d⟩:=c;cases f;exact FF h k v d (dA.1 a).2.2 b t7
  ·omega
 |succ n ih=>
  intro t a;rcases aO a with⟨id,es,e,_⟩|⟨id,L,m,e,rfl⟩
  ·omega
  ·exact FK k v b n id L a (fun x hx=>ih _ ((bq.1 a).2.1 x hx))
end
section
variable {P:Program} {ops:Array Oper} {Q:Exit->Act->World->Prop} {md:Region.Mode} {S:World->Prop} {D:Nat->Bool}
theorem ay(i:Nat){d:Nat}{oi:Oper}{v:Value}{e:Nat}{b:Array Bool}{a f:Act}{w:World}(k:S w)
 (h:bh P md ops Q S D e (b.setIfInBounds i true) f w)(p:ops[i]?=some oi:=by rfl)(m:oi.dst=some d:=by rfl)(o:Region.wanted oi (yielded ops a.tmps)=true:=by rfl)
 (r:Region.noSelect ops=true:=by kernel_rfl)(n:Region.free md ops b i=true:=by kernel_rfl)(q:(Region.ready md ops b).contains i=true:=by kernel_rfl)(s:ie md ops D b i=true:=by kernel_rfl)
 (t:∀w,S w->(execOp a.eval oi).run P w= .ok (.value v) w:=by(intro w g;obtain⟨u,x,y,z⟩:=g;go_simp;try with_reducible rfl))
 (l:a.put (some d) v=f:=by(simp only[Act.put,fx,List.set];first|done|exact rfl))
 (j:∀c a w,Q (.panic c) (a.put oi.dst v) w->Q (.panic c) a w:=by exact fun _ _ _ h=>h):bh P md ops Q S D (e+1) b a w:=
 iu i d p m r n q s j (u5 ⟨o,t⟩) k (by rw[l];exact h)
end
variable {B0 g:Nat} {rest:List Value} {rt:Int} {w:World} {ns:List NdK} {nv:Nat->NdV} {na:Option Addr} {nc:Nat}
theorem USt.loadNd{b p K}(f:USt B0 g rest rt w ns nv (some ⟨b,0,none⟩) nc)(c:ns[p]?=some K):(Instr.loadAt 176 (.pointer (some ⟨b,p*6,none⟩))).run prog w= .ok (.agg (ndc (nv p) K).toArray) w:=by
 obtain⟨d,e,a,_,_⟩:=f.cells c;cases e;simp only[Instr.loadAt,Instr.sureAddr,B3,Ct,Result.andThen];exact tc w b (p*6) 176 (ndc (nv p) K) _ a underlying176 rfl aD
theorem FN{us:List Pl}{p}(a:p<us.length):(us.eraseIdx p).map (·.2)=dx (us.map (·.2)) p/\(us.eraseIdx p).tail.map (·.1)=(if 0<p then dx (us.tail.map (·.1)) (p-1)else(us.tail.map (·.1)).tail):=by
 refine⟨?_,?_⟩
 ·rw[jE,dx,List.eraseIdx_eq_take_drop_succ]
 ·cases us with
  |nil=>simp at a
  |cons x us=>
   cases p with
   |zero=>simp
   |succ p=>simp[dx,List.eraseIdx_eq_take_drop_succ,List.map_take,List.map_drop]
