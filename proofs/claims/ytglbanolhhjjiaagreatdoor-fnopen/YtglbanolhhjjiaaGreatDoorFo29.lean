import Derived.Test.YtglbanolhhjjiaaGreatDoorFo28
namespace Go.Proofs.YtglbanolhhjjiaaGreatDoor
open Go.Proofs.Tryz
open Go.RowKit
set_option linter.unusedVariables false
set_option maxRecDepth 100000
set_option maxHeartbeats 32000000
section
def fb(P P':List Nat)(m:Nat):Prop:=P'.Nodup/\∀j∈P',j∈P\/m<=j
variable {B0 g:Nat} {rest:List Value} {rt:Int} {w:World} {ns:List NdK} {nv:Nat->NdV} {na:Option Addr} {nc:Nat}
def xU(ms:List NdK)(P P':List Nat)(m:Nat)(e:Ending):Option Kd->Prop
 |none=>e= .returned (.tuple #[.int .i64 (-1),.string ⟨#[]⟩])/\fb P P' m
 |some x=> ∃(q:Int)(R:List Nat),e= .returned (.tuple #[.int .i64 q,.string x.1])/\0<=q/\SRep ms x.2 R [(strOfNums [],q)]/\fb P (P'++R) m
def xV(B0 g:Nat)(rest:List Value)(rt:Int)(na:Option Addr)(w:World)(ns:List NdK)(P:List Nat)(p:Int)(d:Nat)(r:Tr×Option Kd)(e:Ending)(w':World):Prop:=
 ∃(ms:List NdK)(P':List Nat),UQ B0 g rest rt na w w' ms/\(∀j,j<ns.length->j∉P->ms[j]?=ns[j]?)/\ns.length<=ms.length/\ms.length<=ns.length+d/\SRep ms r.1 P' [(strOfNums [],p)]/\xU ms P P' ns.length e r.2
theorem FE(k v es):(il k (es.map (·.1))=false->(fp k v es).map (·.1)=eE (es.map (·.1)) (plc k (es.map (·.1))) k/\(fp k v es).map (·.2)=eE (es.map (·.2)) (plc k (es.map (·.1))) v)/\(il k (es.map (·.1))=true->(fp k v es).map (·.1)=es.map (·.1)/\(fp k v es).map (·.2)=eE (dx (es.map (·.2)) (plc k (es.map (·.1)))) (plc k (es.map (·.1))) v):=by
 refine⟨fun h=> ?_,fun h=> ?_⟩
 ·simp[fp,h,eE,List.map_take,List.map_drop]
 ·have b:=h;unfold il at b;rw[wR,decide_eq_true_iff,beq_iff_eq]at b;obtain⟨c,d⟩:=b;have e:=pY d;have f:plc k (es.map (·.1))<=(es.map (·.2)).length:=by simpa using A0 c
  simp only[fp,h,if_true,eE,dx,z8,wg,A6,Bn];generalize plc k (es.map (·.1))=p at*;refine⟨?_,?_⟩
  ·conv=>rhs;rw[<-my (strOfNums []) c,e]
  ·have a:((es.map (·.2)).take p).length=p:=by rw[wP];omega
   rw[List.take_left' a,List.drop_left' a]
theorem FF(bx:USt B0 g rest rt w ns nv na nc){p id es}(k v)(an:ns[p]?=some (ndL id es))(dF:l es<=240)(cb:eOk (k,v))(dq:ns.length<=1048575):
 Calls prog 132 #[.pointer (some ⟨g,0,none⟩),.int .i64 (p:Nat),.string k,.string v] w fun e w'=>xV B0 g rest rt na w ns [p] p 1 (ctL (fp k v es)) e w':=by
 have N:=im es;have dr:=wj k v es;have dp:=mw cb;have bF:=FE k v es;generalize ca:fp k v es=a at*;have cj:Hid _:=bx;have db:Hid _:=an;obtain⟨b,rfl,Y,cM,ab⟩:=bx.cells an;have cv:w.cell? ⟨g,0,none⟩=some (.slice (some ⟨b,0,none⟩) ns.length nc):=bx.blk.cell 0;have I:Hid ((ndL id es).keys.length=es.length/\(ndL id es).vals.length=es.length):=by show _/\_;simp[ndL]
 have bu:=bAl w (.cells (ndc (nv p) (ndL id es)).toArray 176);have cW:=aq w 176 (ndc (nv p) (ndL id es)).toArray;have cm:=cM.below bu;have c2:(prog.info? 176).map (·.size)=some (ndc (nv p) (ndL id es)).length:=aD;have cT:=qZ k (es.map (·.1));rw[y0]at cT;have aT:Hid _:=bF;clear bF ca;go_enter func132,ntmps132;go_upto_region 2 with(first|(refine dG rfl 176 _ rfl b (p*6) rfl (ndc (nv p) (ndL id es)) _ Y underlying176 rfl c2 ?_)|(refine bt rfl 176 _ _ rfl w (ndc aF nd0).toArray (ndc (nv p) (ndL id es)).toArray 176 rfl rfl aD rfl (cy _ _) ?_))
 change Code.wp _ _ _ _ (w.alloc (.cells (ndc (nv p) (ndL id es)).toArray 176));generalize w.alloc (.cells (ndc (nv p) (ndL id es)).toArray 176)=c3 at*;have ac:Blk c3 176 w.1.size (ndc (nv p) (ndL id es)):=cW;have cq:c3.cell? ⟨w.1.size,0,none⟩=some (.int .i64 id):=ac.cell 0;have cA:=ac.free 0;have X:Hid _:=ac;clear cW ac cv Y cM;go_upto_region 3 with fail
 have br:=ax c3 w.1.size 0 (.int .i64 0);have R:=Blk.set X.out 0 (.int .i64 0);have D:=cm.keep (aw br X.out uv) (aw br X.out uv);have cp:=bu.trans (br.below t1 bu.size);clear X cm bu br cq cA bx an c2;generalize c3.setCell ⟨w.1.size,0,none⟩ (.int .i64 0)=n at*;replace R:Blk n 176 w.1.size (ndc (nv p) (ndL 0 es)):=R;replace D:RNd n (nv p) (ndL 0 es):=⟨D.keys,D.vals,D.kids,D.signs⟩;have b9:n.cell? ⟨w.1.size,1,none⟩=some (.bool true):=R.cell 1;have bk:n.cell? ⟨w.1.size,2,none⟩=some (.slice (nv p).ka es.length (nv p).kc):=by rw[<-I.out.1];exact R.cell 2
 have a4:n.cell? ⟨w.1.size,3,none⟩=some (.slice (nv p).va es.length (nv p).vc):=by rw[<-I.out.2];exact R.cell 3
 have bv:R1 9 n (nv p).ka es.length (nv p).kc (os (es.map (·.1))):=by have:=D.keys;rwa [show(ndL 0 es).keys.length=es.length from I.out.1]at this
 have cf:R1 9 n (nv p).va es.length (nv p).vc (os (es.map (·.2))):=by have:=D.vals;rwa [show(ndL 0 es).vals.length=es.length from I.out.2]at this
 have G:=rg _ _ _ _ k n bv uB t7;have d:=t6 R (vk D cp);clear R D;go_upto_region 4 with fail
 go_wp2_with fail;refine G.mono ?_;rintro e ap ⟨rfl,bP⟩;obtain rfl:=bP.symm;clear bP G;go_upto_region 5 with fail
 have aS:Hid (il k (es.map (·.1))=(decide (plc k (es.map (·.1))<es.length)&&(((es.map (·.1)).getD (plc k (es.map (·.1))) (strOfNums [])).toList==k.toList))):=by show _= _;unfold il;rw[y0]
 generalize il k (es.map (·.1))=H at*;generalize cP:plc k (es.map (·.1))=P at*;clear cP;go_cut [42] (fun s bf=>s= .bool H/\bf=n)
 case first=>
  by_cases B:P<es.length
  ·have cc:(P:Int)< (es.length:Int):=t7;obtain⟨dI,dP,cz,c7⟩:=bv.get B;rw[eh _ _ (by rw[y0];exact B)]at c7;rw[cz]at bk;have hx:Hid (H=(((es.map (·.1)).getD P (strOfNums [])).toList==k.toList)):=by show H= _;rw[aS.out,CH B,za]
   generalize (es.map (·.1)).getD P (strOfNums [])=x at*;clear cz a4;go_wp2_with fail
   go_meet
   case rel=>exact⟨by rw[hx.out],rfl⟩
  ·have cc:¬(P:Int)< (es.length:Int):=t7;have hx:Hid (H=false):=by show H= _;rw[aS.out,CC B,z1]
   clear a4;go_wp2_with fail
   go_meet
   case rel=>exact⟨by rw[hx.out],rfl⟩
 case rest=>
 obtain⟨rfl,bR⟩:=hcut;obtain rfl:=bR.symm;clear bR;go_upto_if 42 with fail
 go_cut [] (fun bf=> ∃v2,Blk bf 176 w.1.size (ndc v2 (ndL 0 a))/\RNd bf v2 (ndL 0 a)/\Below w.1.size w bf)
 case first=>
  cases H with
  |true=>
   have B:P<es.length:=by
    have:=aS.out;rw[eq_comm,wR,decide_eq_true_iff]at this;exact this.1
   have LO:=kz _ _ _ _ P n cf B t7;obtain⟨J,K⟩:=aT.out.2 rfl;have L:=t6 J K;clear J K b9 bk;go_wp2_with fail;refine LO.mono ?_;rintro e ap ⟨M,o,rfl,c,a9⟩;have G:=oh _ _ _ _ P v ap (a9.r1 (dR _)) t7 t7;have C:=d.out.1.below c;have ba:=d.out.2.1.below c;have q:=d.out.2.2.trans (c.mono d.out.2.2.size);clear LO a9 a4;go_wp2_with fail;refine G.mono ?_;rintro e aA ⟨af,ak,rfl,bg,S⟩;have y:=C.below bg;have bb:=ba.below bg;have A:=q.trans (bg.mono q.size);have bz:aA.cell? ⟨w.1.size,3,none⟩=some (.slice (nv p).va (ndL 0 es).vals.length (nv p).vc):=y.cell 3;have dk:=y.free 3;have c8:Hid (es.length-1+1=es.length):=by show _= _;omega
   have T:=ax aA w.1.size 3 (.slice af (es.length-1+1) ak);have z:=y.set 3 (.slice af (es.length-1+1) ak);have a8:=aw (t:=9) T y uv;have bX:=aw (t:=3) T y uv;have a5:(ndc (nv p) (ndL 0 es)).set 3 (.slice af (es.length-1+1) ak)=ndc ⟨(nv p).ka,(nv p).kc,af,ak,(nv p).da,(nv p).dc,(nv p).sa,(nv p).sc⟩ (ndL 0 a):=by
    have m:=CV List.length L.out.1;simp only[y0]at m;simp[ndc,ndL,m,c8.out]
   rw[a5]at z;have bc:RNd (aA.setCell ⟨w.1.size,3,none⟩ (.slice af (es.length-1+1) ak)) ⟨(nv p).ka,(nv p).kc,af,ak,(nv p).da,(nv p).dc,(nv p).sa,(nv p).sc⟩ (ndL 0 a):=by
    have m:=bb.keep a8 bX;have N:=(S.r1 (dR _)).keep a8;rw[<-L.out.2]at N;refine⟨?_,?_,m.kids,m.signs⟩
    ·have:=m.keys;show R1 _ _ _ (a.map (·.1)).length _ (os (a.map (·.1)));rw[L.out.1];exact this
    ·show R1 _ _ _ (a.map (·.2)).length _ (os (a.map (·.2)));have cD:=N.len;rw[An]at cD;rw[cD];exact N
   have b3:=t6 z (vk bc (A.trans (T.below t1 A.size)));clear G S C ba q c bg y bb A T z a8 bX a5 bc;go_wp2_with fail
   go_meet
   case rel=>exact⟨_,b3.out⟩
  |false=>
   have LO:=oh _ _ _ _ P k n bv t7 t7;obtain⟨J,K⟩:=aT.out.1 rfl;have L:=t6 J K;clear J K b9 a4;go_wp2_with fail;refine LO.mono ?_;rintro e ap ⟨M,o,rfl,c,a9⟩;have C:=d.out.1.below c;have ba:=d.out.2.1.below c;have q:=d.out.2.2.trans (c.mono d.out.2.2.size);have cr:ap.cell? ⟨w.1.size,2,none⟩=some (.slice (nv p).ka (ndL 0 es).keys.length (nv p).kc):=C.cell 2;have cB:=C.free 2;have S:=ax ap w.1.size 2 (.slice M (es.length+1) o);have y:=C.set 2 (.slice M (es.length+1) o);have ad:=aw (t:=9) S C uv;have bW:=aw (t:=3) S C uv;have bb:=ba.keep ad bW;have A:=q.trans (S.below t1 q.size);have b0:=(a9.r1 (dR _)).keep ad;have c1:=(cf.below c).keep ad;have a0:=t6 y (vk bb (vk A b0));clear LO a9 C ba c q S ad bW bb A b0 bk;go_upto_region 8 with fail
   clear cr cB;generalize ap.setCell ⟨w.1.size,2,none⟩ (.slice M (es.length+1) o)=aA at*;have bz:aA.cell? ⟨w.1.size,3,none⟩=some (.slice (nv p).va es.length (nv p).vc):=by rw[<-I.out.2];exact y.cell 3
   have G:=oh _ _ _ _ P v aA c1 t7 t7;clear y;go_wp2_with fail;refine G.mono ?_;rintro e cg ⟨ag,am,rfl,a3,T⟩;have z:=a0.out.1.below a3;have cX:=a0.out.2.1.below a3;have a6:=a0.out.2.2.1.trans (a3.mono a0.out.2.2.1.size);have b1:=a0.out.2.2.2.below a3;have dd:cg.cell? ⟨w.1.size,3,none⟩=some (.slice (nv p).va (ndL 0 es).vals.length (nv p).vc):=z.cell 3;have dl:=z.free 3;have bs:=ax cg w.1.size 3 (.slice ag (es.length+1) am);have ce:=z.set 3 (.slice ag (es.length+1) am);have ae:=aw (t:=9) bs z uv;have bY:=aw (t:=3) bs z uv;have Z:a.length=es.length+1:=by
    have m:=CV List.length L.out.1;rw[re _ (by rw[y0];omega)]at m;simpa using m
   have a5:((ndc (nv p) (ndL 0 es)).set 2 (.slice M (es.length+1) o)).set 3 (.slice ag (es.length+1) am)=ndc ⟨M,o,ag,am,(nv p).da,(nv p).dc,(nv p).sa,(nv p).sc⟩ (ndL 0 a):=by
    simp[ndc,ndL,Z]
   rw[a5]at ce;have bc:RNd (cg.setCell ⟨w.1.size,3,none⟩ (.slice ag (es.length+1) am)) ⟨M,o,ag,am,(nv p).da,(nv p).dc,(nv p).sa,(nv p).sc⟩ (ndL 0 a):=by
    have m:=cX.keep ae bY;have N:=(T.r1 (dR _)).keep ae;have cL:=b1.keep ae;rw[<-L.out.2]at N;rw[<-L.out.1]at cL;refine⟨?_,?_,m.kids,m.signs⟩
    ·show R1 _ _ _ (a.map (·.1)).length _ (os (a.map (·.1)));rw[y0,Z];exact cL
    ·show R1 _ _ _ (a.map (·.2)).length _ (os (a.map (·.2)));rw[y0,Z];exact N
   have b3:=t6 ce (vk bc (a6.trans (bs.below t1 a6.size)));clear G T a3 z cX a6 b1 bs ce ae bY a5 bc Z bz;go_wp2_with fail
   go_meet
   case rel=>exact⟨_,b3.out⟩
 case rest=>
 obtain⟨vL,bS,c0,a1⟩:=hcut;obtain⟨dc,cV⟩:=aa wc;subst cV;clear d bv cf b9 bk a4 cp aT;have i:Hid _:=(rfl:ndL 0 a=ndL 0 a);generalize bB:ndL 0 a=F at*;clear i;have i:Hid _:=bB;clear bB;have cl:Hid (∀(u:World)(k:Nat)(v:NdV)(c4:NdK),Blk u 176 k (ndc v c4)->(Instr.loadAt 176 (.pointer (some ⟨k,0,none⟩))).run prog u= .ok (.agg (ndc v c4).toArray) u):=fun u k v c4 da=>jI u k v c4 da;go_wp2_with fail;have bl:=bDr dc;have a2:=a1.trans (bl.mono a1.size);have bT:=bS.below bl;have bd:=c0.below bl;have U:=cj.out.below a2;refine az (fun u=>u.cell? ⟨g,0,none⟩=some (.slice (some ⟨b,0,none⟩) ns.length nc)/\(Instr.loadAt 176 (.pointer (some ⟨w.1.size,0,none⟩))).run prog u= .ok (.agg (ndc vL F).toArray) u) (fun k=>decide (7<=k)) uA ?_;clear bl bS c0 a1;generalize dc.drew=b8 at*;have cs:b8.cell? ⟨g,0,none⟩=some (.slice (some ⟨b,0,none⟩) ns.length nc)/\(Instr.loadAt 176 (.pointer (some ⟨w.1.size,0,none⟩))).run prog b8= .ok (.agg (ndc vL F).toArray) b8:=⟨U.blk.cell 0,cl.out _ _ _ _ bT⟩;refine aj 0 cs ?_;refine aj 1 cs ?_;refine aj 2 cs ?_;refine aj 3 cs ?_;refine aj 4 cs ?_;refine aM 5 (.agg (ndc vL F).toArray) cs ?hy5 ?_
 case hy5=>exact fun u cR=>bo (p:= .pointer (some ⟨w.1.size,0,none⟩)) rfl rfl cR.2
 refine aj 6 cs ?_;refine ah 7 fun c5 an=> ?_;refine iY U bd ab rfl rfl rfl ?_;intro c6 V bZ;refine aU an ?_;clear an c5 cs;have bA:UFr g (some ⟨b,0,none⟩) w c6:=(OnlyS.ofBelow a2).trans ((OnlyS.ofB bZ).mono (fun k _ cb=>vJ (by rw[cb])));have bE:(ns.set p F).length=ns.length:=BB;have f:Hid _:=bE;have c9:(ns.set p F).length<=1048575:=t7;have b4:Hid _:=bA;clear U bZ bT bd a2 bA bE;generalize bC:ns.set p F=r at*;generalize eA nv p vL=dD at*;have aX:Hid _:=bC;clear bC;have a7:r[p]?=some F:=by rw[<-aX.out];simp[ab]
 have ds:l a<=352:=t7;have b7:=mD V a7 a (by rw[<-i.out];rfl) (by rw[<-i.out];rfl) t7 (by rw[<-i.out];simp[ndL,aH]) t7;have ck:Hid (kSz a F=l a):=by show _= _;rw[<-i.out];simp[kSz,ndL,aH]
 rw[ck.out]at b7;have b5:Hid _:=V;have W:Hid (ctL a=if 240<l a then(.leaf 0 (a.take (ctE 0 a)),some ((a.getD (ctE 0 a) en0).1,.leaf 0 (a.drop (ctE 0 a))))else(.leaf 0 a,none)):=rfl;clear V;go_wp2_with fail;refine b7.mono ?_;rintro e cn ⟨rfl,c⟩;clear b7;have E:=b5.out.below c;have aB:Hid (UFr g (some ⟨b,0,none⟩) w cn):=b4.out.trans (OnlyS.ofBelow c);by_cases O:240<l a
 ·have bm:¬(l a:Int)<=240:=t7;have ch:=FC E (id:=0) (es:=a) (by rw[i.out];exact a7) O t7 t7;have b2:Hid _:=W.out.trans (B2 O);generalize l a=LS at*;clear E W;go_wp2_with fail;refine ch.mono ?_;rintro e dE ⟨rfl,cS⟩;have b6:Hid _:=cS;clear ch cS c;go_wp2_with fail
  go_ret2
  rw[b2.out];refine⟨r.set p (ndL 0 (a.take (ctE 0 a)))++[ndL 0 (a.drop (ctE 0 a))],[p],UQ.after b6.out aB.out (vR rfl),fun j Q bn=> ?_,by rw[v7,BB,f.out];omega,by rw[v7,BB,f.out];exact t1,?_,((r.length:Nat):Int),[r.length],rfl,t7,?_,?_⟩
  ·rw[wX (by rw[BB,f.out];exact Q),BO (by simp at bn;omega),<-aX.out,BO (by simp at bn;omega)]
  ·rw[SRep];refine⟨p,rfl,rfl,?_⟩;rw[wX (by rw[BB,f.out];exact ab),List.getElem?_set_self (by rw[f.out];exact ab)]
  ·rw[SRep];refine⟨r.length,rfl,rfl,?_⟩;simp
  ·refine⟨by simp;have:=f.out;omega,fun j Q=> ?_⟩;simp at Q;rcases Q with rfl|rfl
   ·exact vR uB
   ·exact vJ (by rw[f.out];exact t1)
 ·have bm:(l a:Int)<=240:=t7;have b2:Hid _:=W.out.trans (Ct O);have b6:Hid (UQ B0 g rest rt (some ⟨b,0,none⟩) w cn r):=E.uq aB.out (vR rfl);generalize l a=LS at*;clear E c W;go_wp2_with fail
  go_ret2
  rw[b2.out];refine⟨r,[p],b6.out,fun j Q bn=> ?_,by rw[f.out];exact t1,by rw[f.out];omega,?_,rfl,?_⟩
  ·rw[<-aX.out,BO (by simp at bn;omega)]
  ·rw[SRep];exact⟨p,rfl,rfl,by rw[i.out];exact a7⟩
  ·exact⟨uB,fun j Q=>vR Q⟩
end
theorem xW{d c k f m}(h:(d++(c++f)).Nodup)(i:∀j∈d++(c++f),j<m)(g:fb c k m):fb (d++(c++f)) (d++(k++f)) m:=by
 have n:=h;rw[z6,z6]at n;obtain⟨o,⟨r,p,q⟩,l⟩:=n;refine⟨?_,fun j a=> ?_⟩
 ·rw[z6,z6];refine⟨o,⟨g.1,p,fun x hx y b e=> ?_⟩,fun x hx y b e=> ?_⟩
  ·subst e;rcases g.2 x hx with h1|h1
   ·exact q x h1 x b rfl
   ·have:=i x (by simp[b]);omega
  ·subst e;rcases w4.1 b with b|b
   ·rcases g.2 x b with h1|h1
    ·exact l x hx x (by simp[h1]) rfl
    ·have:=i x (by simp[hx]);omega
   ·exact l x hx x (by simp[b]) rfl
 ·rcases w4.1 a with a|a
  ·exact vR (by simp[a])
  ·rcases w4.1 a with a|a
   ·rcases g.2 j a with h1|h1
    ·exact vR (by simp[h1])
    ·exact vJ h1
   ·exact vR (by simp[a])
def ouP(o:Option Kd)(q:Int):List Pl:=match o with|none=>[]|some x=>[(x.1,q)]
theorem xX{ns ms L G us}(h:SRep ns (kds L) G us)(l:G.Nodup){q}(F:q<L.length){e d c a R v y}(w:G=e++(d++c))(i:SRep ns (kds (L.take q)) e (us.take q))(k:SRep ns (kds (L.drop (q+1))) c (us.drop (q+1)))(n:∀j,j<ns.length->j∉d->ms[j]?=ns[j]?){t o}(u:SRep ms t a [(strOfNums [],v)])(z:SRep ms (kds o.toList) R (ouP o y))(x:fb d (a++R) ns.length):
 ∃g,SRep ms (kds (L.take q++((L.getD q t0).1,t)::(o.toList++L.drop (q+1)))) g (us.take q++((L.getD q t0).1,v)::(ouP o y++us.drop (q+1)))/\fb G g ns.length:=by
 have p:=h.lt;subst w;have m:=l;rw[z6,z6]at m;obtain⟨C,⟨D,E,r⟩,s⟩:=m;have A:=i.keep (fun j b=>n j (i.lt j b) (fun f=>s j b j (by simp[f]) rfl));have B:=k.keep (fun j b=>n j (k.lt j b) (fun f=>r j f j b rfl));refine⟨e++((a++R)++c),?_,xW l p x⟩;refine SRep.cat ?_ A;refine er.2 ⟨v,ouP o y++us.drop (q+1),a,R++c,uB,rfl,u,?_⟩;exact SRep.cat B z
theorem FG{us:List Pl}{q}(c:q<us.length)(s v)(d:us.getD q (strOfNums [],0)=(s,v))(x:Pl):
 (us.take q++(s,v)::([x]++us.drop (q+1))).map (·.2)=eE (us.map (·.2)) (q+1) x.2/\(us.take q++(s,v)::([x]++us.drop (q+1))).tail.map (·.1)=eE (us.tail.map (·.1)) q x.1:=by
 have e:us=us.take q++(s,v)::us.drop (q+1):=by rw[<-d,my _ c]
 have b:(us.take q).length=q:=by rw[wP];omega
 generalize us.take q=f at*;generalize us.drop (q+1)=D at*;subst e;subst b;refine⟨?_,?_⟩
 ·simp only[eE,z8,wg,List.take_append,List.drop_append,y0];rw[w3 uB,AF uB];simp
 ·cases f with
  |nil=>simp[eE]
  |cons a f=>
   simp only[eE,zP,List.tail_cons,z8,wg,List.take_append,List.drop_append,y0,w6];rw[w3 uB,AF uB];simp
theorem xY{us:List Pl}{q}(a:q<us.length)(s v)(b:us.getD q (strOfNums [],0)=(s,v)):us.take q++(s,v)::([]++us.drop (q+1))=us:=by
 rw[xb,<-b,my _ a]
theorem rM{ns ms:List NdK}{p G a L us}(f:(p::G).Nodup)(k:p<ns.length)(i:ns.length<=ms.length)(h:SRep ms (kds L) a us)(d:fb G a ns.length):
 SRep (ms.set p (ndI 0 us)) (.node 0 (kds L)) (p::a) [(strOfNums [],(p:Int))]/\fb (p::G) (p::a) ns.length:=by
 have c:p∉a:=fun g=>by
  rcases d.2 p g with h1|h1
  ·exact(zd.1 f).1 h1
  ·omega
 refine⟨?_,zd.2 ⟨c,d.1⟩,fun j b=> ?_⟩
 ·rw[SRep];exact⟨p,us,a,rfl,rfl,List.getElem?_set_self t7,h.keep (fun j b=>BO (fun e=>c (by rw[e];exact b)))⟩
 ·rcases wS.1 b with rfl|b
  ·exact vR uB
  ·rcases d.2 j b with h1|h1
   ·exact vR (by simp[h1])
   ·exact vJ h1
theorem FH{ns ms:List NdK}{p m G r L us}(C:(p::G).Nodup)(E:p<ns.length)(s:ns.length<=ms.length)(h:SRep ms (kds L) r us)(n:fb G r ns.length)(D:m<=L.length):
 ∃q B,SRep ((ms.set p (ndI 0 us)).set p (ndI 0 (us.take m))++[ndI 0 (us.drop m)]) (.node 0 (kds (L.take m))) (p::q) [(strOfNums [],(p:Int))]/\SRep ((ms.set p (ndI 0 us)).set p (ndI 0 (us.take m))++[ndI 0 (us.drop m)]) (.node 0 (kds (L.drop m))) (ms.length::B) [(strOfNums [],(ms.length:Int))]/\fb (p::G) ((p::q)++(ms.length::B)) ns.length:=by
 have i:p∉r:=fun f=>by
  rcases n.2 p f with h1|h1
  ·exact(zd.1 C).1 h1
  ·omega
 have g:=h.lt;have t:=h;rw[<-A3 m L]at t;obtain⟨q,B,d,k,rfl,rfl,w,z,A⟩:=SRep.split t;have v:d.length=m:=by rw[w,wP];omega
 rw[List.take_left' v,List.drop_left' v];have c:∀j,j∈q++B->((ms.set p (ndI 0 (d++k))).set p (ndI 0 d)++[ndI 0 k])[j]?=ms[j]?:=fun j a=>by
  have u:=g j a;have o:p≠j:=fun e=>i (by rw[e];exact a);rw[wX (by simpa using u),BO o,BO o]
 refine⟨q,B,?_,?_,?_,?_⟩
 ·rw[SRep];refine⟨p,d,q,rfl,rfl,?_,z.keep (fun j a=>c j (by simp[a]))⟩;rw[wX (by simp;omega),List.getElem?_set_self (by simp;omega)]
 ·rw[SRep];refine⟨ms.length,k,B,rfl,rfl,?_,A.keep (fun j a=>c j (by simp[a]))⟩;rw[w9 uB];simp
 ·have l:=n.1;rw[z6]at l;rw[z6];refine⟨zd.2 ⟨fun f=>i (by simp[f]),l.1⟩,zd.2 ⟨fun f=>by have:=g _ (List.mem_append_right q f);omega,l.2.1⟩,fun x hx y b e=> ?_⟩;subst e;rcases wS.1 hx with rfl|hx
  ·rcases wS.1 b with b|b
   ·omega
   ·exact i (by simp[b])
  ·rcases wS.1 b with b|b
   ·have:=g x (by simp[hx]);omega
   ·exact l.2.2 x hx x b rfl
 ·intro j a;rcases w4.1 a with a|a
  ·rcases wS.1 a with rfl|a
   ·exact vR uB
   ·rcases n.2 j (by simp[a])with h1|h1
    ·exact vR (by simp[h1])
    ·exact vJ h1
  ·rcases wS.1 a with rfl|a
   ·exact vJ s
   ·rcases n.2 j (by simp[a])with h1|h1
    ·exact vR (by simp[h1])
    ·exact vJ h1
theorem FJ{L q t}{o:Option Kd}(f:q<L.length)(b:∀s∈sgs L,eQ s)(d:nSz (sgs L)<=240)(c:∀x,o=some x->eQ x.1):(∀s∈sgs (L.take q++((L.getD q t0).1,t)::(o.toList++L.drop (q+1))),eQ s)/\nSz (sgs (L.take q++((L.getD q t0).1,t)::(o.toList++L.drop (q+1))))<=285:=by
 rw[rj f];refine⟨fun s a=> ?_,?_⟩
 ·simp only[w4,x5,Option.mem_toList]at a;rcases a with a|⟨x,hx,rfl⟩|a
  ·exact b s (List.mem_of_mem_take a)
  ·exact c x hx
  ·exact b s (List.mem_of_mem_drop a)
 ·rw[dm,iE,iE];have:aH ((sgs L).take q)+aH ((sgs L).drop q)=aH (sgs L):=by rw[<-iE,A3]
  rw[dm]at d;have:aH (o.toList.map (·.1))<=45:=by
   cases e:o with
   |none=>simp[aH]
   |some x=>
    have:=kL (c x e);simpa [aH]using this
  omega
theorem USt.only{B0 g k rest rt w w' ns nv na nc cs}(h:USt B0 g rest rt w ns nv na nc)(a:OnlyB k w w')(c:Blk w 176 k cs)(d:na≠some ⟨k,0,none⟩):USt B0 g rest rt w' ns nv na nc:=by
 have j:g≠k:=fun e=>by have:=h.blk;rw[e]at this;unfold Blk at this c;rw[c]at this;cases this
 exact⟨h.blk.only a j,h.nodes.keep (fun b e=>a.block b (cE h.nodes b (by simp[rb,e])).2 (fun f=>d (by rw[e,f]))),fun i l=>(h.each i l).keep (aw a c uv) (aw a c uv),wa h.gB a.size⟩
section
variable {B0 g:Nat} {rest:List Value} {rt:Int} {w:World} {ns:List NdK} {nv:Nat->NdV} {na:Option Addr} {nc:Nat}
def rT(B0 g:Nat)(rest:List Value)(rt:Int)(k v:ByteArray)(n:Nat)(t:Tr):Prop:= ∀(w:World)(ns:List NdK)(nv:Nat->NdV)(na:Option Addr)(nc:Nat)(P:List Nat)(p:Int),USt B0 g rest rt w ns nv na nc->SRep ns t P [(strOfNums [],p)]->P.Nodup->ns.length+(n+1)<=1048575->
 Calls prog 132 #[.pointer (some ⟨g,0,none⟩),.int .i64 p,.string k,.string v] w fun e w'=>xV B0 g rest rt na w ns P p (n+1) (dh k v n t) e w'
theorem xZ{ms P P' m e o}(h:xU ms P P' m e o):∃(y:Int)(R:List Nat)(sg:ByteArray),e= .returned (.tuple #[.int .i64 y,.string sg])/\SRep ms (kds o.toList) R (ouP o y)/\fb P (P'++R) m/\(o=none->y= -1)/\∀x,o=some x->0<=y/\sg=x.1:=by
 cases o with
 |none=>exact⟨-1,[],⟨#[]⟩,h.1,gE.2 ⟨rfl,rfl⟩,by rw[wC];exact h.2,fun _=>rfl,fun x hx=>by cases hx⟩
 |some x=>
  obtain⟨q,R,a,b,c,d⟩:=h;exact⟨q,R,x.1,a,er.2 ⟨q,[],R,[],uB,rfl,c,gE.2 ⟨rfl,rfl⟩⟩,d,(fun hx=>by cases hx),fun y f=>by cases f;exact⟨b,rfl⟩⟩
theorem yd{B0 g rest rt w ns nv na nc k}(h:USt B0 g rest rt w ns nv na nc)(a:w.1.size<=k):na≠some ⟨k,0,none⟩:=fun e=>by
 have:=(cE h.nodes k (by simp[rb,e])).2;omega
theorem FK(k v)(e3:eOk (k,v))(n id L)(e8:wf (n+1) (.node id (kds L)))(ef:∀x∈L,rT B0 g rest rt k v n x.2):rT B0 g rest rt k v (n+1) (.node id (kds L)):=by
 intro w ns nv na nc P gw cl e6 F gf;obtain⟨dU,ba,bz,dV⟩:=bq.1 e8;rw[SRep]at e6;obtain⟨p,us,G,rfl,e4,bb,W⟩:=e6;cases e4;have aS:=jD (k:=k) dU;have dW:=W.len;have a6:=W.sgs;obtain⟨gp,dr,gr,H,aA,e7,Z,X,cP,Y⟩:=W.at aS;have f:=(zd.1 F).2;have bZ:dr.Nodup:=by rw[aA]at f;rw[z6,z6]at f;exact f.2.1.1
 have cp:Hid (dh k v (n+1) (.node id (kds L))=ctN (L.take (kid k L)++((L.getD (kid k L) t0).1,(dh k v n (L.getD (kid k L) t0).2).1)::((dh k v n (L.getD (kid k L) t0).2).2.toList++L.drop (kid k L+1)))):=by show _= _;rw[dh];simp only[ct]
 have cX:kid k L=iD k (us.tail.map (·.1)):=by rw[a6];rfl
 have d9:Hid _:=ef _ (bO (d:=t0) aS);have ab:=rl e3 (ba _ (bO (d:=t0) aS));generalize dh k v n (L.getD (kid k L) t0).2=r at*;have b8:=t6 W (vk f (vk aS (vk aA (vk X (vk Y (vk F (vk Z (vk ab (vk ba (vk bz dV))))))))));have cq:=t6 cP bZ;have cT:(us.map (·.2)).getD (kid k L) 0=H:=by
  have:=eF (·.2) us (kid k L) ((strOfNums [],0):Pl);rw[Z]at this;exact this
 generalize kid k L=q at*;have bn:Hid _:=cl;have ea:Hid _:=bb;obtain⟨b,rfl,a3,eW,b1⟩:=cl.cells bb;have eB:w.cell? ⟨g,0,none⟩=some (.slice (some ⟨b,0,none⟩) ns.length nc):=cl.blk.cell 0;have D:Hid ((ndI id us).kids.length=us.length/\(ndI id us).signs.length=(us.tail.map (·.1)).length/\(us.tail.map (·.1)).length+1=us.length):=by
  refine⟨by simp[ndI],rfl,?_⟩;have:=List.length_pos_iff.2 dU;simp;omega
 have z:q<us.length:=t7;have gi:us.length<=100:=by
  have f4:=gQ (us.tail.map (·.1));rw[a6]at f4;rw[dm]at dV;have:=D.out.2.2;rw[a6]at this;omega
 have ck:=bAl w (.cells (ndc (nv p) (ndI id us)).toArray 176);have fl:=aq w 176 (ndc (nv p) (ndI id us)).toArray;have ek:=eW.below ck;have fB:(prog.info? 176).map (·.size)=some (ndc (nv p) (ndI id us)).length:=aD;clear dW;clear W f aA X Y F Z ab cP bZ e7 e8 ef dU ba bz dV a6;go_enter func132,ntmps132;go_upto_region 2 with(first|(refine dG rfl 176 _ rfl b (p*6) rfl (ndc (nv p) (ndI id us)) _ a3 underlying176 rfl fB ?_)|(refine bt rfl 176 _ _ rfl w (ndc aF nd0).toArray (ndc (nv p) (ndI id us)).toArray 176 rfl rfl aD rfl (cy _ _) ?_))
 change Code.wp _ _ _ _ (w.alloc (.cells (ndc (nv p) (ndI id us)).toArray 176));generalize w.alloc (.cells (ndc (nv p) (ndI id us)).toArray 176)=fM at*;have a7:Blk fM 176 w.1.size (ndc (nv p) (ndI id us)):=fl;have eq:fM.cell? ⟨w.1.size,0,none⟩=some (.int .i64 id):=a7.cell 0;have eM:=a7.free 0;have a2:Hid _:=a7;clear fl a7 eB a3 eW;go_upto_region 3 with fail
 have cg:=ax fM w.1.size 0 (.int .i64 0);have aT:=Blk.set a2.out 0 (.int .i64 0);have U:=ek.keep (aw cg a2.out uv) (aw cg a2.out uv);have br:=ck.trans (cg.below t1 ck.size);clear a2 ek ck cg eq eM cl bb fB;generalize fM.setCell ⟨w.1.size,0,none⟩ (.int .i64 0)=O at*;replace aT:Blk O 176 w.1.size (ndc (nv p) (ndI 0 us)):=aT;replace U:RNd O (nv p) (ndI 0 us):=⟨U.keys,U.vals,U.kids,U.signs⟩;have am:O.cell? ⟨w.1.size,1,none⟩=some (.bool false):=aT.cell 1;have es:O.cell? ⟨w.1.size,4,none⟩=some (.slice (nv p).da us.length (nv p).dc):=by rw[<-D.out.1];exact aT.cell 4
 have Q:O.cell? ⟨w.1.size,5,none⟩=some (.slice (nv p).sa (us.tail.map (·.1)).length (nv p).sc):=aT.cell 5;have d3:R1 3 O (nv p).da us.length (nv p).dc (on (us.map (·.2))):=by have:=U.kids;rwa [show(ndI 0 us).kids.length=us.length from D.out.1]at this
 have d4:R1 9 O (nv p).sa (us.tail.map (·.1)).length (nv p).sc (os (us.tail.map (·.1))):=U.signs;have gg:(us.tail.map (·.1)).length<=100:=by have:=D.out.2.2;omega
 have a9:=rh _ _ _ _ k O d4 rfl t7;rw[<-cX]at a9;have A:=t6 aT (vk U (vk br (vk d3 d4)));clear aT U cX d4;generalize c5:(us.tail.map (·.1)).length=sl at*;have bm:Hid _:=c5;clear c5;go_upto_region 13 with fail
 go_wp2_with fail;refine a9.mono ?_;rintro e gA ⟨rfl,ac⟩;obtain rfl:=ac.symm;clear ac a9;have ae:=bn.out.below br;have em:=d9.out O ns nv _ nc dr H ae cq.out.1 cq.out.2 t7;obtain⟨gt,gv,eK,eC⟩:=d3.get z;rw[cF _ _ (by simpa using z),cT]at eC;rw[eK]at es;clear cT Q eK d3;go_wp2_with fail;refine em.mono ?_;rintro e af e1;obtain⟨ms,f9,ce,c6,bX,gc,cR,bP⟩:=e1;obtain⟨gm,b6,da,dp,bx,M⟩:=ce;have fc:=A.out.1.onlyS bx (fun ad=>by
  rcases ad with ad|ad
  ·have:=ae.blk;rw[<-ad]at this;have k0:=A.out.1;unfold Blk at this k0;rw[k0]at this;cases this
  ·exact yd bn.out t1 ad)
 have dX:=ae.keepT bx (t:=9) uv uv;have kI:=ae.keepT bx (t:=3) uv uv;have fo:=A.out.2.1.keep dX kI;have dd:=A.out.2.2.2.1.keep kI;have dl:=A.out.2.2.2.2.keep dX;have b0:b6≠some ⟨w.1.size,0,none⟩:=by
  rcases M with rfl|⟨k,rfl,hk⟩
  ·exact yd bn.out t1
  ·have:=A.out.1.lt;intro e;cases e;omega
 have cz:UFr g (some ⟨b,0,none⟩) w af:=(OnlyS.ofBelow br).trans bx;have bY:b6=some ⟨b,0,none⟩\/∃k,b6=some ⟨k,0,none⟩/\w.1.size<=k:=by
  rcases M with h|⟨k,h,hk⟩
  ·exact vR h
  ·exact vJ ⟨k,h,wa br.size hk⟩
 have o:=t6 fc (vk fo (vk dd (vk dl (vk dp (vk cz (vk bY b0))))));have bg:=t6 c6 (vk cR bP);clear em bx M fc dX kI fo dd dl b0 cz bY am es eC ae br A c6 cR dp;obtain⟨y,R,sg,rfl,cS,cM,a4,T⟩:=xZ bP;have bk:=t6 cS cM;clear bP cS cM;go_upto_if 96 with fail
 go_cut [] (fun d7=> ∃v2,Blk d7 176 w.1.size (ndc v2 (ndI 0 (us.take q++((L.getD q t0).1,H)::(ouP r.2 y++us.drop (q+1)))))/\RNd d7 v2 (ndI 0 (us.take q++((L.getD q t0).1,H)::(ouP r.2 y++us.drop (q+1))))/\OnlyB w.1.size af d7)
 case first=>
  cases N:r.2 with
  |none=>
   have f8:=a4 N;subst f8;have dD:Hid (Blk af 176 w.1.size (ndc (nv p) (ndI 0 (us.take q++((L.getD q t0).1,H)::(ouP none (-1)++us.drop (q+1)))))/\RNd af (nv p) (ndI 0 (us.take q++((L.getD q t0).1,H)::(ouP none (-1)++us.drop (q+1))))/\OnlyB w.1.size af af):=by
    have e:=xY z _ _ b8.out.2.2.2.2.2.2.2.1;show Blk _ _ _ (ndc _ (ndI 0 (us.take q++((L.getD q t0).1,H)::([]++us.drop (q+1)))))/\RNd _ _ (ndI 0 (us.take q++((L.getD q t0).1,H)::([]++us.drop (q+1))))/\_;rw[e];exact⟨o.out.1,o.out.2.1,OnlyB.refl _ _⟩
   have bl:Hid _:=N;clear a4 T N;go_wp2_with fail
   go_meet
   case rel=>rw[bl.out];exact⟨_,dD.out⟩
  |some x=>
   obtain⟨gj,rfl⟩:=T x N;have dI:=DY _ _ _ _ (q+1) y af o.out.2.2.1 z t7;have et:af.cell? ⟨w.1.size,4,none⟩=some (.slice (nv p).da us.length (nv p).dc):=by rw[<-D.out.1];exact o.out.1.cell 4
   have e5:Hid (((q+1:Nat):Int)=(q:Int)+1):=by show _= _;omega
   rw[e5.out]at dI;obtain⟨c0,c1⟩:=FG z _ _ b8.out.2.2.2.2.2.2.2.1 (x.1,y);have cn:=t6 c0 c1;have bl:Hid _:=N;clear a4 T N c0 c1;go_wp2_with fail;refine dI.mono ?_;rintro e d5 ⟨ag,Q,rfl,bs,fm⟩;have bc:=o.out.1.below bs;have fs:=o.out.2.1.below bs;have ev:d5.cell? ⟨w.1.size,4,none⟩=some (.slice (nv p).da (ndI 0 us).kids.length (nv p).dc):=bc.cell 4;have eN:=bc.free 4;have ch:=ax d5 w.1.size 4 (.slice ag (us.length+1) Q);have fd:=bc.set 4 (.slice ag (us.length+1) Q);have b4:=aw (t:=9) ch bc uv;have b2:=aw (t:=3) ch bc uv;have a8:=t6 fd (vk (fs.keep b4 b2) (vk ((fm.r1 (fw _)).keep b2) (vk ((o.out.2.2.2.1.below bs).keep b4) ((Below.onlyB bs w.1.size).trans ch))));clear dI fm bs bc fs ch fd b4 b2 et;go_upto_region 17 with fail
   clear ev eN;generalize d5.setCell ⟨w.1.size,4,none⟩ (.slice ag (us.length+1) Q)=fD at*;have ex:fD.cell? ⟨w.1.size,5,none⟩=some (.slice (nv p).sa sl (nv p).sc):=by rw[<-bm.out];exact a8.out.1.cell 5
   have a9:=oh _ _ _ _ q x.1 fD a8.out.2.2.2.1 (by have:=D.out.2.2;omega) t7;go_wp2_with fail;refine a9.mono ?_;rintro e d6 ⟨ak,an,rfl,bu,fn⟩;have bd:=a8.out.1.below bu;have ft:=a8.out.2.1.below bu;have dk:=a8.out.2.2.1.below bu;have ga:d6.cell? ⟨w.1.size,5,none⟩=some (.slice (nv p).sa (ndI 0 us).signs.length (nv p).sc):=bd.cell 5;have gb:=bd.free 5;have cj:=ax d6 w.1.size 5 (.slice ak (sl+1) an);have cf:=bd.set 5 (.slice ak (sl+1) an);have b5:=aw (t:=9) cj bd uv;have b3:=aw (t:=3) cj bd uv;have K:∃c,c=us.take q++((L.getD q t0).1,H)::([(x.1,y)]++us.drop (q+1)):=⟨_,rfl⟩;obtain⟨c,K⟩:=K;have bE:c.map (·.2)=eE (us.map (·.2)) (q+1) y:=by rw[K];exact cn.out.1
   have bF:c.tail.map (·.1)=eE (us.tail.map (·.1)) q x.1:=by rw[K];exact cn.out.2
   have bW:(c.map (·.2)).length=us.length+1:=by rw[bE,re _ (by rw[y0];exact z),y0]
   have E:(c.tail.map (·.1)).length=sl+1:=by rw[bF,re _ (by rw[bm.out];have:=D.out.2.2;omega),bm.out]
   have eL:((ndc (nv p) (ndI 0 us)).set 4 (.slice ag (us.length+1) Q)).set 5 (.slice ak (sl+1) an)=ndc ⟨(nv p).ka,(nv p).kc,(nv p).va,(nv p).vc,ag,Q,ak,an⟩ (ndI 0 c):=by
    show [_,_,_,_,_,_]=[_,_,_,_,Value.slice ag (c.map (·.2)).length Q,Value.slice ak (c.tail.map (·.1)).length an];rw[bW,E]
    rfl
   rw[eL]at cf;have d2:RNd (d6.setCell ⟨w.1.size,5,none⟩ (.slice ak (sl+1) an)) ⟨(nv p).ka,(nv p).kc,(nv p).va,(nv p).vc,ag,Q,ak,an⟩ (ndI 0 c):=by
    have ba:=ft.keep b5 b3;have bz:=(fn.r1 (dR _)).keep b5;have eU:=dk.keep b3;rw[<-bF]at bz;rw[<-bE]at eU;refine⟨ba.keys,ba.vals,?_,?_⟩
    ·show R1 _ _ _ (c.map (·.2)).length _ (on (c.map (·.2)));rw[bW];exact eU
    ·show R1 _ _ _ (c.tail.map (·.1)).length _ (os (c.tail.map (·.1)));rw[E];exact bz
   rw[K]at cf d2;have dD:=t6 cf (vk d2 (a8.out.2.2.2.2.trans ((Below.onlyB bu w.1.size).trans cj)));clear a9 fn bu bd ft dk cj cf b5 b3 eL d2 bW E ex bE bF K;go_wp2_with fail
   go_meet
   case rel=>rw[bl.out];exact⟨_,dD.out⟩
 case rest=>
 obtain⟨vL,c8,fz,d1⟩:=hcut;obtain⟨f0,fa⟩:=aa wc;subst fa;obtain⟨W,f,aS,aA,X,Y,F,Z,ab,e9,c7,ac⟩:=b8.out;obtain⟨fV,bB,cL⟩:=xX W f aS aA X Y bg.out.1 bg.out.2.1 bk.out.1 bk.out.2;obtain⟨bS,bT⟩:=FJ (t:=r.1) aS c7 ac (fun x hx=>(ab.2 x hx).2);have bA:∀j,j∈dr->j∈G:=fun j S=>by rw[aA];simp[S]
 have c3:=(zd.1 F).1;have cB:=(bg.out.1 p b1 (fun h=>c3 (bA p h))).trans ea.out;have stV:=o.out.2.2.2.2.1.only d1 o.out.1 o.out.2.2.2.2.2.2.2;have eR:UFr g (some ⟨b,0,none⟩) w f0:=o.out.2.2.2.2.2.1.transN (OnlyS.ofB d1) (fun j S ad=>by omega);have M:=o.out.2.2.2.2.2.2.1;obtain⟨ca,rfl,_,_,c4⟩:=stV.cells cB;have bR:=bB.sgs;have bC:Hid (∀j,j<ns.length->j∉p::G->ms[j]?=ns[j]?):=fun j S aB=>bg.out.1 j S (fun h=>aB (by simp[bA j h]));have l:=t6 bB (vk cL (vk F (vk eR M)));have cm:Hid (dh k v (n+1) (.node id (kds L))= _):=cp.out;generalize eV:L.take q++((L.getD q t0).1,r.1)::(r.2.toList++L.drop (q+1))=a at*;generalize us.take q++((L.getD q t0).1,H)::(ouP r.2 y++us.drop (q+1))=c at*;clear bB cL W f aA X Y F Z ab e9 c7 ac b8 bg bk o cp eV cB d1 eR M bA c3 T a4;generalize cA:ndI 0 c=s at*;have C:Hid _:=cA;clear cA;have ej:Hid (∀(u:World)(k:Nat)(v:NdV)(fP:NdK),Blk u 176 k (ndc v fP)->(Instr.loadAt 176 (.pointer (some ⟨k,0,none⟩))).run prog u= .ok (.agg (ndc v fP).toArray) u):=fun u k v fP f7=>jI u k v fP f7;go_wp2_with fail;have bv:=bDr f0;have c9:=c8.below bv;have b7:=fz.below bv;have aX:=stV.below bv;have d8:Hid _:=bv;refine az (fun u=>u.cell? ⟨g,0,none⟩=some (.slice (some ⟨ca,0,none⟩) ms.length da)/\(Instr.loadAt 176 (.pointer (some ⟨w.1.size,0,none⟩))).run prog u= .ok (.agg (ndc vL s).toArray) u) (fun k=>decide (7<=k)) uA ?_;clear bv c8 fz;generalize f0.drew=dS at*;have cs:dS.cell? ⟨g,0,none⟩=some (.slice (some ⟨ca,0,none⟩) ms.length da)/\(Instr.loadAt 176 (.pointer (some ⟨w.1.size,0,none⟩))).run prog dS= .ok (.agg (ndc vL s).toArray) dS:=⟨aX.blk.cell 0,ej.out _ _ _ _ c9⟩;refine aj 0 cs ?_;refine aj 1 cs ?_;refine aj 2 cs ?_;refine aj 3 cs ?_;refine aj 4 cs ?_;refine aM 5 (.agg (ndc vL s).toArray) cs ?hy5 ?_
 case hy5=>exact fun u e2=>bo (p:= .pointer (some ⟨w.1.size,0,none⟩)) rfl rfl e2.2
 refine aj 6 cs ?_;refine ah 7 fun fZ bb=> ?_;refine iY aX b7 c4 rfl rfl rfl ?_;intro f2 a0 dc;refine aU bb ?_;clear bb fZ cs;have E:(ms.set p s).length=ms.length:=BB;have cv:UFr g (some ⟨b,0,none⟩) w f2:=(l.out.2.2.2.1.trans (OnlyS.ofBelow d8.out)).transN (OnlyS.ofB dc) (fun j S ad=>by
  rcases l.out.2.2.2.2 with e|⟨k1,e,hk1⟩
  ·cases e;exact vJ (by rw[ad])
  ·cases e;omega)
 have cW:(ms.set p s)[p]?=some s:=List.getElem?_set_self c4;have f6:(ms.set p s).length<=1048575:=by rw[E];omega
 have I:Hid _:=E;have J:Hid _:=(rfl:ms.set p s=ms.set p s);generalize cD:ms.set p s=db at*;clear J;have J:Hid _:=cD;have cr:Hid (s.signs=sgs a):=by show _= _;rw[<-C.out];exact bR
 have dP:=mD a0 cW [] (by rw[<-C.out];rfl) (by rw[<-C.out];rfl) (by simp[lSz]) (by rw[cr.out];rw[dm]at bT;omega) t7;have eb:Hid (kSz [] s=nSz (sgs a)):=by
  show _= _;have e:s.leaf=false:=by rw[<-C.out];rfl
  simp only[kSz,cr.out,e,dm];simp[lSz];omega
 rw[eb.out]at dP;have i:=t6 a0 (vk cv (vk bS bR));have c2:Hid ((some ⟨ca,0,none⟩:Option Addr)=some ⟨b,0,none⟩\/∃k,(some ⟨ca,0,none⟩:Option Addr)=some ⟨k,0,none⟩/\w.1.size<=k):=l.out.2.2.2.2;have a1:Hid (ctN a=if 240<nSz (sgs a)then(.node 0 (kds (a.take (ctS 4 (sgs a)+1))),some ((a.getD (ctS 4 (sgs a)+1) t0).1,.node 0 (kds (a.drop (ctS 4 (sgs a)+1)))))else(.node 0 (kds a),none)):=rfl;clear a0 E cD aX dc c9 b7 cv bR bS;go_wp2_with fail;refine dP.mono ?_;rintro e en ⟨rfl,b9⟩;clear dP;have V:=i.out.1.below b9;have bf:Hid (UFr g (some ⟨b,0,none⟩) w en):=i.out.2.1.trans (OnlyS.ofBelow b9);by_cases ap:240<nSz (sgs a)
 ·have cc:¬(nSz (sgs a):Int)<=240:=t7;have a5:2<=(c.tail.map (·.1)).length:=by
   rw[i.out.2.2.2];have:=oq _ i.out.2.2.1;rw[dm]at ap;omega
  have dq:=FD V (id:=0) (us:=c) (by rw[C.out];exact cW) a5 (by rw[i.out.2.2.2];rw[dm]at bT;omega) t7;rw[i.out.2.2.2]at dq;have ds:Hid _:=a1.out.trans (B2 ap);have dE:Hid (ctS 4 (sgs a)+1<=a.length):=by
   show _<=_;rw[i.out.2.2.2]at a5;have f5:=(oo (sgs a) 4 a5 t7).1;rw[gC]at f5;omega
  generalize nSz (sgs a)=LS at*;clear V a1 a5;go_wp2_with fail;refine dq.mono ?_;rintro e gs ⟨rfl,ce⟩;have dF:Hid _:=ce;clear dq ce b9;go_wp2_with fail
  go_ret2
  rw[cm.out,ds.out];obtain⟨gn,B,am,cb,f3⟩:=FH (m:=ctS 4 (sgs a)+1) l.out.2.2.1 b1 bX l.out.1 l.out.2.1 dE.out;rw[C.out,J.out]at am cb;refine⟨_,p::gn,UQ.after dF.out bf.out c2.out,fun j S aB=> ?_,?_,?_,am,((ms.length:Nat):Int),_,?_,t7,cb,f3⟩
  ·have cV:p≠j:=fun e=>aB (by simp[e]);rw[wX (by rw[BB,I.out];omega),BO cV,<-J.out,BO cV,bC.out j S aB]
  ·rw[v7,BB,I.out];omega
  ·rw[v7,BB,I.out,x9];omega
  ·rw[<-mx,<-I.out];rfl
 ·have cc:(nSz (sgs a):Int)<=240:=t7;have ds:Hid _:=a1.out.trans (Ct ap);have dF:Hid (UQ B0 g rest rt (some ⟨b,0,none⟩) w en db):=V.uq bf.out c2.out;generalize nSz (sgs a)=LS at*;clear V b9 a1;go_wp2_with fail
  go_ret2
  rw[cm.out,ds.out];obtain⟨am,cb⟩:=rM l.out.2.2.1 b1 bX l.out.1 l.out.2.1;rw[C.out,J.out]at am;refine⟨db,p::fV,dF.out,fun j S aB=> ?_,by rw[I.out];exact bX,by rw[I.out];omega,am,rfl,cb⟩;rw[<-J.out,BO (by intro e;exact aB (by simp[e])),bC.out j S aB]
theorem FM{k v}(b:eOk (k,v)):∀(n:Nat)(t:Tr),wf n t->rT B0 g rest rt k v n t:=by
 intro n;induction n with
 |zero=>
  intro t a;rcases aO a with⟨id,es,_,rfl⟩|⟨id,L,m,e,_⟩
  ·intro w ns nv na nc P p i c j l;rw[SRep]at c;obtain⟨q,rfl,f,d⟩:=c;cases f;exact FF i k v d (dA.1 a).2.2 b t7
  ·omega
 |succ n ih=>
  intro t a;rcases aO a with⟨id,es,e,_⟩|⟨id,L,m,e,rfl⟩
  ·omega
  ·exact FK k v b n id L a (fun x hx=>ih _ ((bq.1 a).2.1 x hx))
end
section
variable {P:Program} {ops:Array Oper} {Q:Exit->Act->World->Prop} {md:Region.Mode} {S:World->Prop} {D:Nat->Bool}
theorem ay(i:Nat){d:Nat}{oi:Oper}{v:Value}{e:Nat}{b:Array Bool}{a f:Act}{w:World}(k:S w)
 (h:bh P md ops Q S D e (b.setIfInBounds i true) f w)(p:ops[i]?=some oi:=by rfl)(m:oi.dst=some d:=by rfl)(o:Region.wanted oi (yielded ops a.tmps)=true:=by rfl)
 (r:Region.noSelect ops=true:=by kernel_rfl)(n:Region.free md ops b i=true:=by kernel_rfl)(q:(Region.ready md ops b).contains i=true:=by kernel_rfl)(s:ie md ops D b i=true:=by kernel_rfl)
 (t:∀w,S w->(execOp a.eval oi).run P w= .ok (.value v) w:=by(intro w g;obtain⟨u,x,y,z⟩:=g;go_simp;try with_reducible rfl))
 (l:a.put (some d) v=f:=by(simp only[Act.put,fx,List.set];first|done|exact rfl))
 (j:∀c a w,Q (.panic c) (a.put oi.dst v) w->Q (.panic c) a w:=by exact fun _ _ _ h=>h):bh P md ops Q S D (e+1) b a w:=
 iu i d p m r n q s j (vR ⟨o,t⟩) k (by rw[l];exact h)
end
variable {B0 g:Nat} {rest:List Value} {rt:Int} {w:World} {ns:List NdK} {nv:Nat->NdV} {na:Option Addr} {nc:Nat}
theorem USt.loadNd{b p K}(h:USt B0 g rest rt w ns nv (some ⟨b,0,none⟩) nc)(c:ns[p]?=some K):(Instr.loadAt 176 (.pointer (some ⟨b,p*6,none⟩))).run prog w= .ok (.agg (ndc (nv p) K).toArray) w:=by
 obtain⟨d,e,a,_,_⟩:=h.cells c;cases e;simp only[Instr.loadAt,Instr.sureAddr,CP,C0,Result.andThen];exact tc w b (p*6) 176 (ndc (nv p) K) _ a underlying176 rfl aD
theorem FN{us:List Pl}{p}(a:p<us.length):(us.eraseIdx p).map (·.2)=dx (us.map (·.2)) p/\(us.eraseIdx p).tail.map (·.1)=(if 0<p then dx (us.tail.map (·.1)) (p-1)else(us.tail.map (·.1)).tail):=by
 refine⟨?_,?_⟩
 ·rw[jE,dx,List.eraseIdx_eq_take_drop_succ]
 ·cases us with
  |nil=>simp at a
  |cons x us=>
   cases p with
   |zero=>simp
   |succ p=>simp[dx,List.eraseIdx_eq_take_drop_succ,List.map_take,List.map_drop]
