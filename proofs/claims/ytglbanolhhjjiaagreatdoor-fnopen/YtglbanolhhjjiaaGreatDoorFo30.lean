import Derived.Test.YtglbanolhhjjiaaGreatDoorFo29
namespace Go.Proofs.YtglbanolhhjjiaaGreatDoor
open Go.Proofs.Tryz
open Go.RowKit
set_option linter.unusedVariables false
set_option maxRecDepth 100000
set_option maxHeartbeats 32000000
section
variable {B0 g:Nat} {rest:List Value} {rt:Int} {w:World} {ns:List NdK} {nv:Nat->NdV} {na:Option Addr} {nc:Nat}
theorem FP(S:USt B0 g rest rt w ns nv na nc){i p pc:Nat}{us a6}(o:ns[i]?=some (ndI 0 us))(ap:p<us.length)(c3:(us.map (·.2)).getD p 0=(pc:Int))(bR:ns[pc]?=some a6)(c9:us.length<=1000)(c7:ns.length<=1048575)(cj:a6.keys=[]/\a6.kids=[]):
 Calls prog 160 #[.pointer (some ⟨g,0,none⟩),.int .i64 (i:Nat),.int .i64 (p:Nat)] w fun e w'=>e= .returned (.tuple #[])/\UQ B0 g rest rt na w w' (ns.set i (ndI 0 (us.eraseIdx p))):=by
 have b4:Hid _:=S;have bc:=t6 o bR;obtain⟨b,rfl,L,ck,cm⟩:=S.cells o;obtain⟨_,cW,_,bn,c8⟩:=S.cells bR;clear cW;have cc:w.cell? ⟨g,0,none⟩=some (.slice (some ⟨b,0,none⟩) ns.length nc):=S.blk.cell 0;have M:Hid ((ndI 0 us).kids.length=us.length/\(us.tail.map (·.1)).length+1=us.length):=by
  refine⟨by simp[ndI],?_⟩;simp;omega
 have a1:=bAl w (.cells (ndc (nv i) (ndI 0 us)).toArray 176);have cr:=aq w 176 (ndc (nv i) (ndI 0 us)).toArray;have b7:=ck.below a1;have bd:=bn.below a1;have cL:(prog.info? 176).map (·.size)=some (ndc (nv i) (ndI 0 us)).length:=aD;go_enter func160,ntmps160;go_upto_region 1 with(first|(refine dG rfl 176 _ rfl b (i*6) rfl (ndc (nv i) (ndI 0 us)) _ L underlying176 rfl cL ?_)|(refine bt rfl 176 _ _ rfl w (ndc aF nd0).toArray (ndc (nv i) (ndI 0 us)).toArray 176 rfl rfl aD rfl (cy _ _) ?_))
 change Code.wp _ _ _ _ (w.alloc (.cells (ndc (nv i) (ndI 0 us)).toArray 176));generalize w.alloc (.cells (ndc (nv i) (ndI 0 us)).toArray 176)=cP at*;have bB:Blk cP 176 w.1.size (ndc (nv i) (ndI 0 us)):=cr;clear cr cc L ck bn;have ad:=bDr cP;have a8:=a1.trans (ad.mono a1.size);have aB:=bB.below ad;have bW:=b7.below ad;have cB:=bd.below ad;have G:=S.below a8;have E:=aB.cell 4;have N:R1 3 cP.drew (nv i).da us.length (nv i).dc (on (us.map (·.2))):=by have:=bW.kids;rwa [show(ndI 0 us).kids.length=us.length from M.out.1]at this
 obtain⟨aS,ba,Q,a9⟩:=N.get ap;rw[cF _ _ (by simpa using ap),c3]at a9;refine az (fun u=>u.cell? ⟨g,0,none⟩=some (.slice (some ⟨b,0,none⟩) ns.length nc)/\u.cell? ⟨w.1.size,4,none⟩=some (.slice (some ⟨aS,ba,none⟩) us.length (nv i).dc)/\u.cell? ⟨aS,ba+p,none⟩=some (.int .i64 (pc:Nat))/\(Instr.loadAt 176 (.pointer (some ⟨b,pc*6,none⟩))).run prog u= .ok (.agg (ndc (nv pc) a6).toArray) u) (fun k=>decide (12<=k)) uA ?_;clear ad bB b7 bd a1 cL S o bR E;generalize cP.drew=W at*;have E:W.cell? ⟨w.1.size,4,none⟩=some (.slice (some ⟨aS,ba,none⟩) us.length (nv i).dc):=by rw[<-Q,<-M.out.1];exact aB.cell 4
 have cs:=u2 (G.blk.cell 0) (u2 E (u2 a9 (G.loadNd bc.out.2)));have an:aS<W.1.size:=by
  obtain⟨da,db,cf,⟨c5,c6,c0⟩,_⟩:=N.at_ t7;rw[Q]at cf;cases cf;exact(vR.1 c0).1
 refine ay 0 cs ?_;refine ay 1 cs ?_;refine ay 2 cs ?_;refine ay 3 cs ?_;refine ay 4 cs ?_;refine ay 5 cs ?_;refine ay 6 cs ?_;refine ay 7 cs ?_;refine ay 8 cs ?_;refine ay 9 cs ?_;refine aM 10 (.agg (ndc (nv pc) a6).toArray) cs ?hy10 ?_
 case hy10=>exact fun u ak=>bo (p:= .pointer (some ⟨b,pc*6,none⟩)) rfl rfl ak.2.2.2
 refine ah 11 fun V o=> ?_;go_wp2_with fail;have I:=bAl W (.cells (ndc aF nd0).toArray 176);have cM:=aq W 176 (ndc aF nd0).toArray;have bg:=u2 ((G.below I).blk.cell 0) (u2 (I.cell (p:=⟨w.1.size,4,none⟩) aB.lt▸E) (u2 (I.cell (p:=⟨aS,ba+p,none⟩) an▸a9) ((G.below I).loadNd bc.out.2)));refine ao o ?_ (fun _=>bg);clear o V bg;refine ah 12 fun V o=> ?_;refine bK (cs:=ndc (nv pc) a6) cM rfl (eo _ _) aD rfl rfl rfl ?_;intro X bT cz;refine aU o ?_;clear o V cM cs;have Y:=I.trans (cz.below t1 I.size);have bS:=aB.below Y;have bX:=bW.below Y;have bE:=N.below Y;have br:=a8.trans (Y.mono a8.size);clear cz I Y aB bW cB N a8 G E a9 Q an;generalize W.1.size=ce at*;have bF:R1 9 X (nv i).sa (us.tail.map (·.1)).length (nv i).sc (os (us.tail.map (·.1))):=bX.signs;have b8:X.cell? ⟨ce,2,none⟩=some (.slice (nv pc).ka 0 (nv pc).kc):=by have:=bT.cell 2;rw[show(ndc (nv pc) a6)[2]?=some (.slice (nv pc).ka a6.keys.length (nv pc).kc)from rfl,cj.1]at this;exact this
 have b9:X.cell? ⟨ce,4,none⟩=some (.slice (nv pc).da 0 (nv pc).dc):=by have:=bT.cell 4;rw[show(ndc (nv pc) a6)[4]?=some (.slice (nv pc).da a6.kids.length (nv pc).dc)from rfl,cj.2]at this;exact this
 have cV:X.cell? ⟨w.1.size,4,none⟩=some (.slice (nv i).da us.length (nv i).dc):=by rw[<-M.out.1];exact bS.cell 4
 have b6:=wh _ _ _ _ p 0 X bE ap t7;have O:=t6 bS (u2 bX (u2 br bF));clear bS bX bF br bT;go_wp2_with fail;refine b6.mono ?_;rintro e bY ⟨f,h,rfl,Z,cv⟩;have R:=O.out.1.below Z;have cA:=O.out.2.1.below Z;have am:=O.out.2.2.1.trans (Z.mono O.out.2.2.1.size);have ca:bY.cell? ⟨w.1.size,4,none⟩=some (.slice (nv i).da (ndI 0 us).kids.length (nv i).dc):=R.cell 4;have cg:=R.free 4;have bb:=ax bY w.1.size 4 (.slice f (us.length-1) h);have cq:=R.set 4 (.slice f (us.length-1) h);have aX:=aw (t:=9) bb R uv;have aT:=aw (t:=3) bb R uv;have c:=t6 cq (u2 (cA.keep aX aT) (u2 ((cv.r1 (fw _)).keep aT) (u2 ((O.out.2.2.2.below Z).keep aX) (am.trans (bb.below t1 am.size)))));clear b6 cv Z R cA bb cq aX aT cV b8 b9 bE am;obtain⟨ag,d⟩:=FN ap;generalize bk:us.eraseIdx p=a at*;have b1:Hid _:=bk;have m:Hid (a.map (·.2)=dx (us.map (·.2)) p/\(a.map (·.2)).length=us.length-1):=⟨ag,by rw[ag,ky (by rw[x7];exact ap),x7]⟩;clear ag bk;go_upto_region 4 with fail
 clear ca cg;generalize bY.setCell ⟨w.1.size,4,none⟩ (.slice f (us.length-1) h)=T at*;generalize bx:(us.tail.map (·.1)).length=sl at*;have B:Hid _:=bx;have aA:=M.out.2;have ab:T.cell? ⟨w.1.size,5,none⟩=some (.slice (nv i).sa sl (nv i).sc):=by rw[<-B.out];exact c.out.1.cell 5
 clear bx;have D:Hid _:=aA;clear aA;go_upto_if 44 with fail
 go_cut [] (fun bZ=> ∃v2,Blk bZ 176 w.1.size (ndc v2 (ndI 0 a))/\RNd bZ v2 (ndI 0 a)/\Below w.1.size w bZ)
 case first=>
  by_cases bu:0<p
  ·rw[BC bu]at d;have b3:Hid (((p-1:Nat):Int)=(p:Int)-1):=by show _= _;omega
   have bs:(0:Int)< (p:Int):=t7;have P:=kz _ _ _ _ (p-1) T c.out.2.2.2.1 (by have:=D.out;omega) (by have:=D.out;omega);rw[b3.out]at P;go_wp2_with fail;refine P.mono ?_;rintro e K ⟨j,l,rfl,q,a0⟩;have n:=c.out.1.below q;have a2:=c.out.2.1.below q;have F:=c.out.2.2.1.below q;have s:=c.out.2.2.2.2.trans (q.mono c.out.2.2.2.2.size);have cb:K.cell? ⟨w.1.size,5,none⟩=some (.slice (nv i).sa (ndI 0 us).signs.length (nv i).sc):=n.cell 5;have ch:=n.free 5;have C:=ax K w.1.size 5 (.slice j (sl-1) l);have A:=n.set 5 (.slice j (sl-1) l);have z:=aw (t:=9) C n uv;have y:=aw (t:=3) C n uv;have x:(a.tail.map (·.1)).length=sl-1:=by rw[d,ky (by rw[B.out];have:=D.out;omega),B.out]
   have H:((ndc (nv i) (ndI 0 us)).set 4 (.slice f (us.length-1) h)).set 5 (.slice j (sl-1) l)=ndc ⟨(nv i).ka,(nv i).kc,(nv i).va,(nv i).vc,f,h,j,l⟩ (ndI 0 a):=by
    show [_,_,_,_,_,_]=[_,_,_,_,Value.slice f (a.map (·.2)).length h,Value.slice j (a.tail.map (·.1)).length l];rw[m.out.2,x]
    rfl
   rw[H]at A;have a3:RNd (K.setCell ⟨w.1.size,5,none⟩ (.slice j (sl-1) l)) ⟨(nv i).ka,(nv i).kc,(nv i).va,(nv i).vc,f,h,j,l⟩ (ndI 0 a):=by
    have ae:=a2.keep z y;have af:=(a0.r1 (dR _)).keep z;have r:=F.keep y;rw[<-d]at af;rw[<-m.out.1]at r;refine⟨ae.keys,ae.vals,?_,?_⟩
    ·show R1 _ _ _ (a.map (·.2)).length _ (on (a.map (·.2)));rw[m.out.2];exact r
    ·show R1 _ _ _ (a.tail.map (·.1)).length _ (os (a.tail.map (·.1)));rw[x];exact af
   have U:=t6 A (u2 a3 (s.trans (C.below t1 s.size)));clear P a0 q n a2 F C A z y H a3 x ab d s;go_wp2_with fail
   go_meet
   case rel=>exact⟨_,U.out⟩
  ·rw[BX bu]at d;have cl:p=0:=t7;subst cl;by_cases cn:0<sl
   ·have bs:(0:Int)< (sl:Int):=t7;have P:=kz _ _ _ _ 0 T c.out.2.2.2.1 cn (by have:=D.out;omega);have bm:a.tail.map (·.1)=dx (us.tail.map (·.1)) 0:=by rw[d,dx,List.take_zero,w4,List.drop_one]
    replace d:=bm;clear bm;go_wp2_with fail;refine P.mono ?_;rintro e K ⟨j,l,rfl,q,a0⟩;have n:=c.out.1.below q;have a2:=c.out.2.1.below q;have F:=c.out.2.2.1.below q;have s:=c.out.2.2.2.2.trans (q.mono c.out.2.2.2.2.size);have cb:K.cell? ⟨w.1.size,5,none⟩=some (.slice (nv i).sa (ndI 0 us).signs.length (nv i).sc):=n.cell 5;have ch:=n.free 5;have C:=ax K w.1.size 5 (.slice j (sl-1) l);have A:=n.set 5 (.slice j (sl-1) l);have z:=aw (t:=9) C n uv;have y:=aw (t:=3) C n uv;have x:(a.tail.map (·.1)).length=sl-1:=by rw[d,ky (by rw[B.out];have:=D.out;omega),B.out]
    have H:((ndc (nv i) (ndI 0 us)).set 4 (.slice f (us.length-1) h)).set 5 (.slice j (sl-1) l)=ndc ⟨(nv i).ka,(nv i).kc,(nv i).va,(nv i).vc,f,h,j,l⟩ (ndI 0 a):=by
     show [_,_,_,_,_,_]=[_,_,_,_,Value.slice f (a.map (·.2)).length h,Value.slice j (a.tail.map (·.1)).length l];rw[m.out.2,x]
     rfl
    rw[H]at A;have a3:RNd (K.setCell ⟨w.1.size,5,none⟩ (.slice j (sl-1) l)) ⟨(nv i).ka,(nv i).kc,(nv i).va,(nv i).vc,f,h,j,l⟩ (ndI 0 a):=by
     have ae:=a2.keep z y;have af:=(a0.r1 (dR _)).keep z;have r:=F.keep y;rw[<-d]at af;rw[<-m.out.1]at r;refine⟨ae.keys,ae.vals,?_,?_⟩
     ·show R1 _ _ _ (a.map (·.2)).length _ (on (a.map (·.2)));rw[m.out.2];exact r
     ·show R1 _ _ _ (a.tail.map (·.1)).length _ (os (a.tail.map (·.1)));rw[x];exact af
    have U:=t6 A (u2 a3 (s.trans (C.below t1 s.size)));clear P a0 q n a2 F C A z y H a3 x ab d s;go_wp2_with fail
    go_meet
    case rel=>exact⟨_,U.out⟩
   ·have bs:¬(0:Int)< (sl:Int):=t7;have bv:sl=0:=t7;have U:Hid (Blk T 176 w.1.size (ndc ⟨(nv i).ka,(nv i).kc,(nv i).va,(nv i).vc,f,h,(nv i).sa,(nv i).sc⟩ (ndI 0 a))/\RNd T ⟨(nv i).ka,(nv i).kc,(nv i).va,(nv i).vc,f,h,(nv i).sa,(nv i).sc⟩ (ndI 0 a)/\Below w.1.size w T):=by
     have e0:=x8 (by rw[B.out];exact bv);rw[e0]at d;have Q:a.tail.map (·.1)=[]:=d;have A:=c.out.1;have H:(ndc (nv i) (ndI 0 us)).set 4 (.slice f (us.length-1) h)=ndc ⟨(nv i).ka,(nv i).kc,(nv i).va,(nv i).vc,f,h,(nv i).sa,(nv i).sc⟩ (ndI 0 a):=by
      show [_,_,_,_,_,Value.slice _ (us.tail.map (·.1)).length _]=[_,_,_,_,Value.slice f (a.map (·.2)).length h,Value.slice _ (a.tail.map (·.1)).length _];rw[m.out.2,Q,e0]
      rfl
     rw[H]at A;refine⟨A,⟨c.out.2.1.keys,c.out.2.1.vals,?_,?_⟩,c.out.2.2.2.2⟩
     ·show R1 _ _ _ (a.map (·.2)).length _ (on (a.map (·.2)));have r:=c.out.2.2.1;rw[<-m.out.1]at r;rw[m.out.2];exact r
     ·show R1 _ _ _ (a.tail.map (·.1)).length _ (os (a.tail.map (·.1)));have r:=c.out.2.1.signs;have cX:(ndI 0 us).signs=[]:=e0;rw[cX]at r;rw[Q];exact r
    clear d bv;go_wp2_with fail
    go_meet
    case rel=>exact⟨_,U.out⟩
 case rest=>
 obtain⟨vL,bz,cD,bf⟩:=hcut;obtain⟨c4,cp⟩:=aa wc;subst cp;generalize bl:ndI 0 a=a7 at*;have stV:=b4.out.below bf;have b2:Hid _:=bl;clear c O ab bl;have b5:Hid (∀(u:World)(k:Nat)(v:NdV)(cR:NdK),Blk u 176 k (ndc v cR)->(Instr.loadAt 176 (.pointer (some ⟨k,0,none⟩))).run prog u= .ok (.agg (ndc v cR).toArray) u):=fun u k v cR c2=>jI u k v cR c2;go_wp2_with fail;have ac:=bDr c4;have bA:=bz.below ac;have a4:=cD.below ac;have J:=stV.below ac;have b0:Hid _:=ac;refine az (fun u=>u.cell? ⟨g,0,none⟩=some (.slice (some ⟨b,0,none⟩) ns.length nc)/\(Instr.loadAt 176 (.pointer (some ⟨w.1.size,0,none⟩))).run prog u= .ok (.agg (ndc vL a7).toArray) u) (fun k=>decide (7<=k)) uA ?_;clear ac bz cD;generalize c4.drew=bP at*;have cs:bP.cell? ⟨g,0,none⟩=some (.slice (some ⟨b,0,none⟩) ns.length nc)/\(Instr.loadAt 176 (.pointer (some ⟨w.1.size,0,none⟩))).run prog bP= .ok (.agg (ndc vL a7).toArray) bP:=⟨J.blk.cell 0,b5.out _ _ _ _ bA⟩;refine aj 0 cs ?_;refine aj 1 cs ?_;refine aj 2 cs ?_;refine aj 3 cs ?_;refine aj 4 cs ?_;refine aM 5 (.agg (ndc vL a7).toArray) cs ?hy5 ?_
 case hy5=>exact fun u ak=>bo (p:= .pointer (some ⟨w.1.size,0,none⟩)) rfl rfl ak.2
 refine aj 6 cs ?_;refine ah 7 fun V o=> ?_;refine iY J a4 cm rfl rfl rfl ?_;intro cT a5 bC;refine aU o ?_;clear o V cs;have cS:Hid (UQ B0 g rest rt (some ⟨b,0,none⟩) w cT (ns.set i a7)):=a5.uq (((OnlyS.ofBelow bf).trans (OnlyS.ofBelow b0.out)).trans ((OnlyS.ofB bC).mono (fun k _ c1=>u4 (by rw[c1])))) (u5 rfl);clear a5 J bC bA a4 stV;go_wp2_with fail;refine BB (results_none rfl _ _ _) rfl ?_;rw[b1.out,b2.out];exact⟨rfl,cS.out⟩
end
section
variable {B0 g:Nat} {rest:List Value} {rt:Int} {w:World} {ns:List NdK} {nv:Nat->NdV} {na:Option Addr} {nc:Nat}
theorem FQ(o:USt B0 g rest rt w ns nv na nc){i p pc:Nat}{us c}(a:ns[i]?=some (ndI 0 us))(E:p<us.length)(aX:(us.map (·.2)).getD p 0=(pc:Int))(V:ns[pc]?=some c)(bv:us.length<=1000)(br:ns.length<=1048575)(es)(W:c.keys=es.map (·.1))(L:c.vals=es.map (·.2))(bb:lSz es<=1000000)(a7:aH c.signs<=1000000)(bm:c.kids.length<=1000000)(aT:c.keys.length+c.kids.length≠0)(l:60<=kSz es c\/us.length<2):
 Calls prog 160 #[.pointer (some ⟨g,0,none⟩),.int .i64 (i:Nat),.int .i64 (p:Nat)] w fun e w'=>e= .returned (.tuple #[])/\UQ B0 g rest rt na w w' ns:=by
 have bk:=im es;have a9:c.keys.length<=1000000:=by rw[W,x7];omega
 have G:Hid _:=o;have q:=t6 a V;obtain⟨b,rfl,j,aA,bu⟩:=o.cells a;obtain⟨_,a6,_,K,bs⟩:=o.cells V;clear a6;have am:w.cell? ⟨g,0,none⟩=some (.slice (some ⟨b,0,none⟩) ns.length nc):=o.blk.cell 0;have m:Hid ((ndI 0 us).kids.length=us.length/\(us.tail.map (·.1)).length+1=us.length):=by
  refine⟨by simp[ndI],?_⟩;simp;omega
 have A:=bAl w (.cells (ndc (nv i) (ndI 0 us)).toArray 176);have a0:=aq w 176 (ndc (nv i) (ndI 0 us)).toArray;have ac:=aA.below A;have H:=K.below A;have a3:(prog.info? 176).map (·.size)=some (ndc (nv i) (ndI 0 us)).length:=aD;go_enter func160,ntmps160;go_upto_region 1 with(first|(refine dG rfl 176 _ rfl b (i*6) rfl (ndc (nv i) (ndI 0 us)) _ j underlying176 rfl a3 ?_)|(refine bt rfl 176 _ _ rfl w (ndc aF nd0).toArray (ndc (nv i) (ndI 0 us)).toArray 176 rfl rfl aD rfl (cy _ _) ?_))
 change Code.wp _ _ _ _ (w.alloc (.cells (ndc (nv i) (ndI 0 us)).toArray 176));generalize w.alloc (.cells (ndc (nv i) (ndI 0 us)).toArray 176)=a5 at*;have M:Blk a5 176 w.1.size (ndc (nv i) (ndI 0 us)):=a0;clear a0 am j aA K;have t:=bDr a5;have C:=A.trans (t.mono A.size);have y:=M.below t;have Z:=ac.below t;have a2:=H.below t;have f:=o.below C;have d:=y.cell 4;have n:R1 3 a5.drew (nv i).da us.length (nv i).dc (on (us.map (·.2))):=by have:=Z.kids;rwa [show(ndI 0 us).kids.length=us.length from m.out.1]at this
 obtain⟨z,F,S,D⟩:=n.get E;rw[cF _ _ (by simpa using E),aX]at D;refine az (fun u=>u.cell? ⟨g,0,none⟩=some (.slice (some ⟨b,0,none⟩) ns.length nc)/\u.cell? ⟨w.1.size,4,none⟩=some (.slice (some ⟨z,F,none⟩) us.length (nv i).dc)/\u.cell? ⟨z,F+p,none⟩=some (.int .i64 (pc:Nat))/\(Instr.loadAt 176 (.pointer (some ⟨b,pc*6,none⟩))).run prog u= .ok (.agg (ndc (nv pc) c).toArray) u) (fun k=>decide (12<=k)) uA ?_;clear t M ac H A a3 o a V d;generalize a5.drew=r at*;have d:r.cell? ⟨w.1.size,4,none⟩=some (.slice (some ⟨z,F,none⟩) us.length (nv i).dc):=by rw[<-S,<-m.out.1];exact y.cell 4
 have cs:=u2 (f.blk.cell 0) (u2 d (u2 D (f.loadNd q.out.2)));have x:z<r.1.size:=by
  obtain⟨bA,bB,ap,⟨bf,bg,a8⟩,_⟩:=n.at_ t7;rw[S]at ap;cases ap;exact(vR.1 a8).1
 refine ay 0 cs ?_;refine ay 1 cs ?_;refine ay 2 cs ?_;refine ay 3 cs ?_;refine ay 4 cs ?_;refine ay 5 cs ?_;refine ay 6 cs ?_;refine ay 7 cs ?_;refine ay 8 cs ?_;refine ay 9 cs ?_;refine aM 10 (.agg (ndc (nv pc) c).toArray) cs ?hy10 ?_
 case hy10=>exact fun u aB=>bo (p:= .pointer (some ⟨b,pc*6,none⟩)) rfl rfl aB.2.2.2
 refine ah 11 fun P a=> ?_;go_wp2_with fail;have h:=bAl r (.cells (ndc aF nd0).toArray 176);have a4:=aq r 176 (ndc aF nd0).toArray;have J:=u2 ((f.below h).blk.cell 0) (u2 (h.cell (p:=⟨w.1.size,4,none⟩) y.lt▸d) (u2 (h.cell (p:=⟨z,F+p,none⟩) x▸D) ((f.below h).loadNd q.out.2)));refine ao a ?_ (fun _=>J);clear a P J;refine ah 12 fun P a=> ?_;refine bK (cs:=ndc (nv pc) c) a4 rfl (eo _ _) aD rfl rfl rfl ?_;intro R Y a1;refine aU a ?_;clear a P a4 cs;have s:=h.trans (a1.below t1 h.size);have X:=y.below s;have bc:=Z.below s;have N:=n.below s;have v:=C.trans (s.mono C.size);clear a1 h s y Z a2 n C f d D S x;generalize r.1.size=an at*;have af:R.cell? ⟨an,2,none⟩=some (.slice (nv pc).ka c.keys.length (nv pc).kc):=Y.cell 2;have ag:R.cell? ⟨an,4,none⟩=some (.slice (nv pc).da c.kids.length (nv pc).dc):=Y.cell 4;have ak:R.cell? ⟨w.1.size,4,none⟩=some (.slice (nv i).da us.length (nv i).dc):=by rw[<-m.out.1];exact X.cell 4
 have ad:=mD (G.out.below v) q.out.2 es W L bb a7 t7;obtain⟨bx,bz,T,I⟩:=N.get E;rw[cF _ _ (by simpa using E),aX]at I;rw[T]at ak;have ba:((c.keys.length:Int)+(c.kids.length:Int)==0)=false:=by rw[C8];omega
 have O:=t6 X (u2 v T);have ab:Hid _:=l;generalize kSz es c=Q at*;clear X bc v Y N T W L l aT;go_wp2_with fail;refine ad.mono ?_;rintro e ae ⟨rfl,B⟩;have aS:Hid (UQ B0 g rest rt (some ⟨b,0,none⟩) w ae ns):=((G.out.below O.out.2.1).below B).uq ((OnlyS.ofBelow O.out.2.1).trans (OnlyS.ofBelow B)) (u5 rfl);have bd:ae.cell? ⟨w.1.size,4,none⟩=some (.slice (nv i).da us.length (nv i).dc):=by rw[<-m.out.1];exact(O.out.1.below B).cell 4
 clear ad ak af ag I B;by_cases bl:60<=Q
 ·have U:(60:Int)<=(Q:Int):=t7;go_wp2_with fail;refine BB (results_none rfl _ _ _) rfl ?_;exact⟨rfl,aS.out⟩
 ·have U:¬(60:Int)<=(Q:Int):=t7;have bn:(us.length:Int)<2:=by have:=ab.out;omega
  go_wp2_with fail;refine BB (results_none rfl _ _ _) rfl ?_;exact⟨rfl,aS.out⟩
end
section
structure JSt(w V:World)(nb ga gb gj:Nat)(vN vA vB:NdV)(KN A B:NdK)(cj:List Value):Prop where
 hb:Below w.1.size w V
 kn:Blk V 176 nb (ndc vN KN)
 ka:Blk V 176 ga (ndc vA A)
 kb:Blk V 176 gb (ndc vB B)
 kj:Blk V 176 gj cj
 rN:RNd V vN KN
 rA:RNd V vA A
 rB:RNd V vB B
 le:w.1.size<=gj
 n1:gj≠nb/\gj≠ga/\gj≠gb
variable {w V v2:World} {nb ga gb gj:Nat} {vN vA vB:NdV} {KN A B:NdK} {cj:List Value}
theorem JSt.below(a:JSt w V nb ga gb gj vN vA vB KN A B cj)(b:Below V.1.size V v2):JSt w v2 nb ga gb gj vN vA vB KN A B cj:=
 ⟨a.hb.trans (b.mono a.hb.size),a.kn.below b,a.ka.below b,a.kb.below b,a.kj.below b,a.rN.below b,a.rA.below b,a.rB.below b,a.le,a.n1⟩
theorem JSt.set(a:JSt w V nb ga gb gj vN vA vB KN A B cj)(f x):JSt w (V.setCell ⟨gj,f,none⟩ x) nb ga gb gj vN vA vB KN A B (cj.set f x)/\∀t,t≠176->KeepT t V (V.setCell ⟨gj,f,none⟩ x):=by
 have o:=ax V gj f x;have k:∀t,t≠176->KeepT t V (V.setCell ⟨gj,f,none⟩ x):=fun t b=>aw o a.kj (DX b);refine⟨⟨a.hb.trans (o.below a.le a.hb.size),a.kn.only o (DX a.n1.1),a.ka.only o (DX a.n1.2.1),a.kb.only o (DX a.n1.2.2),a.kj.set f x,a.rN.keep (k _ uv) (k _ uv),a.rA.keep (k _ uv) (k _ uv),a.rB.keep (k _ uv) (k _ uv),a.le,a.n1⟩,k⟩
theorem R1.keepB{e w0 w1 j a n c xs}(d:R1 e w0 a n c xs)(p:R1 e w1 a n c xs)(q:Below w0.1.size w1 j):R1 e j a n c xs:=
 ⟨d.len,d.le,d.le',d.nil,d.one,fun m=>by
  obtain⟨b,o,k,⟨cs,fr,s⟩,_⟩:=d.at_ m;obtain⟨w,v,l,⟨f,g,h⟩,r⟩:=p.at_ m;rw[k]at l;cases l;have u:=(vR.1 s).1;have hx:=(q.block b u).trans h;refine⟨b,o,k,⟨f,g,hx⟩,fun i t=> ?_⟩;rw[<-r i t,CV j b _ f e g hx,CV w1 b _ f e g h]⟩
theorem RNd.keepB{w0 w1 d v K}(a:RNd w0 v K)(b:RNd w1 v K)(c:Below w0.1.size w1 d):RNd d v K:=⟨a.keys.keepB b.keys c,a.vals.keepB b.vals c,a.kids.keepB b.kids c,a.signs.keepB b.signs c⟩
theorem JSt.keepB{w0 d}(a:JSt w w0 nb ga gb gj vN vA vB KN A B d)(b:JSt w V nb ga gb gj vN vA vB KN A B cj)(c:Below w0.1.size V v2):JSt w v2 nb ga gb gj vN vA vB KN A B cj:=
 ⟨b.hb.trans (c.mono a.hb.size),(c.block _ a.kn.lt).trans b.kn,(c.block _ a.ka.lt).trans b.ka,(c.block _ a.kb.lt).trans b.kb,(c.block _ a.kj.lt).trans b.kj,a.rN.keepB b.rN c,a.rA.keepB b.rA c,a.rB.keepB b.rB c,a.le,a.n1⟩
def jnK(A B:NdK)(sg:ByteArray):NdK:=⟨0,A.leaf,A.keys++B.keys,A.vals++B.vals,A.kids++B.kids,if A.leaf then A.signs else A.signs++sg::B.signs⟩
theorem FT{us:List Pl}{q}(d:q+1<us.length)(s x):((us.set q (s,x)).eraseIdx (q+1)).map (·.2)=(dx (us.map (·.2)) (q+1)).set q x/\((us.set q ((us.getD q (strOfNums [],0)).1,x)).eraseIdx (q+1)).tail.map (·.1)=dx (us.tail.map (·.1)) q:=by
 refine⟨?_,?_⟩
 ·rw[jE,List.map_set,dx,<-List.eraseIdx_eq_take_drop_succ];show((us.map (·.2)).set q x).eraseIdx (q+1)=((us.map (·.2)).eraseIdx (q+1)).set q x;apply yc;intro j;rw[List.getElem?_eraseIdx,A2,A2,A2,List.getElem?_eraseIdx];have c:((us.map (·.2)).eraseIdx (q+1)).length=us.length-1:=by rw[List.length_eraseIdx];simp;omega
  rw[c,x7];by_cases a:j<q+1
  ·rw[BC a,BC a];by_cases b:q=j
   ·rw[BC b,BC b,BC t7,BC t7]
   ·rw[BX b,BX b]
  ·rw[BX a,BX a,BX t7,BX t7]
 ·have f:∀l:List Pl,l.tail.map (·.1)=(l.map (·.1)).tail:=fun l=>by rw[List.map_tail]
  rw[f,f,jE,List.map_set];show(((us.map (·.1)).set q (us.getD q (strOfNums [],0)).1).eraseIdx (q+1)).tail= _;have e:(us.getD q (strOfNums [],0)).1=(us.map (·.1)).getD q (strOfNums []):=(eF (·.1) us q ((strOfNums [],0):Pl)).symm;rw[e,rm];cases us with
  |nil=>simp at d
  |cons y us=>simp[dx,List.eraseIdx_eq_take_drop_succ]
def mjL(ns:List NdK)(i q:Nat)(us:List Pl)(J:NdK)(z:Nat):List NdK:=if 240<z then ns++[J]else(ns++[J]).set i (ndI 0 ((us.set q ((us.getD q (strOfNums [],0)).1,(ns.length:Int))).eraseIdx (q+1)))
theorem FU(x):prog.built 176 [(1,.bool x)]=some #[.int .i64 0,.bool x,.slice none 0 0,.slice none 0 0,.slice none 0 0,.slice none 0 0]:=uA
end
