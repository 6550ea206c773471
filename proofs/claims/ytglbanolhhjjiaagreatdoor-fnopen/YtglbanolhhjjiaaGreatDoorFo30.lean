import Derived.Test.YtglbanolhhjjiaaGreatDoorFo29
namespace Go.Proofs.YtglbanolhhjjiaaGreatDoor
open Go.Proofs.Tryz
open Go.RowKit
set_option linter.unusedVariables false
set_option maxRecDepth 100000
set_option maxHeartbeats 32000000
section
variable {B0 g:Nat} {rest:List Value} {rt:Int} {w:World} {ns:List NdK} {nv:Nat->NdV} {na:Option Addr} {nc:Nat}
theorem FP(T:USt B0 g rest rt w ns nv na nc){i p pc:Nat}{us a7}(q:ns[i]?=some (ndI 0 us))(aA:p<us.length)(c4:(us.map (·.2)).getD p 0=(pc:Int))(bS:ns[pc]?=some a7)(da:us.length<=1000)(c8:ns.length<=1048575)(ck:a7.keys=[]/\a7.kids=[]):
 Calls prog 160 #[.pointer (some ⟨g,0,none⟩),.int .i64 (i:Nat),.int .i64 (p:Nat)] w fun e w'=>e= .returned (.tuple #[])/\UQ B0 g rest rt na w w' (ns.set i (ndI 0 (us.eraseIdx p))):=by
 have b5:Hid _:=T;have bd:=uv q bS;obtain⟨b,rfl,M,cl,cn⟩:=T.cells q;obtain⟨_,cX,_,br,c9⟩:=T.cells bS;clear cX;have ce:w.cell? ⟨g,0,none⟩=some (.slice (some ⟨b,0,none⟩) ns.length nc):=T.blk.cell 0;have N:Hid ((ndI 0 us).kids.length=us.length/\(us.tail.map (·.1)).length+1=us.length):=by
  refine⟨by simp[ndI],?_⟩;simp;omega
 have a2:=bAl w (.cells (ndc (nv i) (ndI 0 us)).toArray 176);have cv:=aq w 176 (ndc (nv i) (ndI 0 us)).toArray;have b8:=cl.below a2;have bf:=br.below a2;have cM:(prog.info? 176).map (·.size)=some (ndc (nv i) (ndI 0 us)).length:=aD;go_enter func160,ntmps160;go_upto_region 1 with(first|(refine dG rfl 176 _ rfl b (i*6) rfl (ndc (nv i) (ndI 0 us)) _ M underlying176 rfl cM ?_)|(refine bt rfl 176 _ _ rfl w (ndc aF nd0).toArray (ndc (nv i) (ndI 0 us)).toArray 176 rfl rfl aD rfl (cy _ _) ?_))
 change Code.wp _ _ _ _ (w.alloc (.cells (ndc (nv i) (ndI 0 us)).toArray 176));generalize w.alloc (.cells (ndc (nv i) (ndI 0 us)).toArray 176)=cR at*;have bC:Blk cR 176 w.1.size (ndc (nv i) (ndI 0 us)):=cv;clear cv ce M cl br;have ae:=bDr cR;have a9:=a2.trans (ae.mono a2.size);have aS:=bC.below ae;have bX:=b8.below ae;have cD:=bf.below ae;have H:=T.below a9;have F:=aS.cell 4;have O:R1 3 cR.drew (nv i).da us.length (nv i).dc (on (us.map (·.2))):=by have:=bX.kids;rwa [show(ndI 0 us).kids.length=us.length from N.out.1]at this
 obtain⟨aT,bb,R,ba⟩:=O.get aA;rw[cF _ _ (by simpa using aA),c4]at ba;refine az (fun u=>u.cell? ⟨g,0,none⟩=some (.slice (some ⟨b,0,none⟩) ns.length nc)/\u.cell? ⟨w.1.size,4,none⟩=some (.slice (some ⟨aT,bb,none⟩) us.length (nv i).dc)/\u.cell? ⟨aT,bb+p,none⟩=some (.int .i64 (pc:Nat))/\(Instr.loadAt 176 (.pointer (some ⟨b,pc*6,none⟩))).run prog u= .ok (.agg (ndc (nv pc) a7).toArray) u) (fun k=>decide (12<=k)) vk ?_;clear ae bC b8 bf a2 cM T q bS F;generalize cR.drew=X at*;have F:X.cell? ⟨w.1.size,4,none⟩=some (.slice (some ⟨aT,bb,none⟩) us.length (nv i).dc):=by rw[<-R,<-N.out.1];exact aS.cell 4
 have cs:=vJ (H.blk.cell 0) (vJ F (vJ ba (H.loadNd bd.out.2)));have ap:aT<X.1.size:=by
  obtain⟨db,dc,cg,⟨c6,c7,c1⟩,_⟩:=O.at_ uA;rw[R]at cg;cases cg;exact(wy.1 c1).1
 refine ay 0 cs ?_;refine ay 1 cs ?_;refine ay 2 cs ?_;refine ay 3 cs ?_;refine ay 4 cs ?_;refine ay 5 cs ?_;refine ay 6 cs ?_;refine ay 7 cs ?_;refine ay 8 cs ?_;refine ay 9 cs ?_;refine aM 10 (.agg (ndc (nv pc) a7).toArray) cs ?hy10 ?_
 case hy10=>exact fun u am=>bo (p:= .pointer (some ⟨b,pc*6,none⟩)) rfl rfl am.2.2.2
 refine ah 11 fun W q=> ?_;go_wp2_with fail;have J:=bAl X (.cells (ndc aF nd0).toArray 176);have cP:=aq X 176 (ndc aF nd0).toArray;have bk:=vJ ((H.below J).blk.cell 0) (vJ (J.cell (p:=⟨w.1.size,4,none⟩) aS.lt▸F) (vJ (J.cell (p:=⟨aT,bb+p,none⟩) ap▸ba) ((H.below J).loadNd bd.out.2)));refine ao q ?_ (fun _=>bk);clear q W bk;refine ah 12 fun W q=> ?_;refine bK (cs:=ndc (nv pc) a7) cP rfl (eo _ _) aD rfl rfl rfl ?_;intro Y bW cA;refine aU q ?_;clear q W cP cs;have Z:=J.trans (cA.below t6 J.size);have bT:=aS.below Z;have bY:=bX.below Z;have bF:=O.below Z;have bs:=a9.trans (Z.mono a9.size);clear cA J Z aS bX cD O a9 H F ba R ap;generalize X.1.size=cf at*;have bP:R1 9 Y (nv i).sa (us.tail.map (·.1)).length (nv i).sc (os (us.tail.map (·.1))):=bY.signs;have b9:Y.cell? ⟨cf,2,none⟩=some (.slice (nv pc).ka 0 (nv pc).kc):=by have:=bW.cell 2;rw[show(ndc (nv pc) a7)[2]?=some (.slice (nv pc).ka a7.keys.length (nv pc).kc)from rfl,ck.1]at this;exact this
 have ca:Y.cell? ⟨cf,4,none⟩=some (.slice (nv pc).da 0 (nv pc).dc):=by have:=bW.cell 4;rw[show(ndc (nv pc) a7)[4]?=some (.slice (nv pc).da a7.kids.length (nv pc).dc)from rfl,ck.2]at this;exact this
 have cW:Y.cell? ⟨w.1.size,4,none⟩=some (.slice (nv i).da us.length (nv i).dc):=by rw[<-N.out.1];exact bT.cell 4
 have b7:=wh _ _ _ _ p 0 Y bF aA uA;have P:=uv bT (vJ bY (vJ bs bP));clear bT bY bP bs bW;go_wp2_with fail;refine b7.mono ?_;rintro e bZ ⟨f,j,rfl,ab,cz⟩;have S:=P.out.1.below ab;have cB:=P.out.2.1.below ab;have an:=P.out.2.2.1.trans (ab.mono P.out.2.2.1.size);have cb:bZ.cell? ⟨w.1.size,4,none⟩=some (.slice (nv i).da (ndI 0 us).kids.length (nv i).dc):=S.cell 4;have ch:=S.free 4;have bc:=ax bZ w.1.size 4 (.slice f (us.length-1) j);have cr:=S.set 4 (.slice f (us.length-1) j);have a0:=aw (t:=9) bc S uB;have aX:=aw (t:=3) bc S uB;have c:=uv cr (vJ (cB.keep a0 aX) (vJ ((cz.r1 (fw _)).keep aX) (vJ ((P.out.2.2.2.below ab).keep a0) (an.trans (bc.below t6 an.size)))));clear b7 cz ab S cB bc cr a0 aX cW b9 ca bF an;obtain⟨ak,d⟩:=FN aA;generalize bl:us.eraseIdx p=a at*;have b2:Hid _:=bl;have n:Hid (a.map (·.2)=dx (us.map (·.2)) p/\(a.map (·.2)).length=us.length-1):=⟨ak,by rw[ak,ky (by rw[y2];exact aA),y2]⟩;clear ak bl;go_upto_region 4 with fail
 clear cb ch;generalize bZ.setCell ⟨w.1.size,4,none⟩ (.slice f (us.length-1) j)=U at*;generalize bz:(us.tail.map (·.1)).length=sl at*;have C:Hid _:=bz;have aB:=N.out.2;have ac:U.cell? ⟨w.1.size,5,none⟩=some (.slice (nv i).sa sl (nv i).sc):=by rw[<-C.out];exact c.out.1.cell 5
 clear bz;have E:Hid _:=aB;clear aB;go_upto_if 44 with fail
 go_cut [] (fun b0=> ∃v2,Blk b0 176 w.1.size (ndc v2 (ndI 0 a))/\RNd b0 v2 (ndI 0 a)/\Below w.1.size w b0)
 case first=>
  by_cases bv:0<p
  ·rw[B4 bv]at d;have b4:Hid (((p-1:Nat):Int)=(p:Int)-1):=by show _= _;omega
   have bu:(0:Int)< (p:Int):=uA;have Q:=kz _ _ _ _ (p-1) U c.out.2.2.2.1 (by have:=E.out;omega) (by have:=E.out;omega);rw[b4.out]at Q;go_wp2_with fail;refine Q.mono ?_;rintro e L ⟨l,m,rfl,r,a1⟩;have o:=c.out.1.below r;have a3:=c.out.2.1.below r;have G:=c.out.2.2.1.below r;have x:=c.out.2.2.2.2.trans (r.mono c.out.2.2.2.2.size);have cc:L.cell? ⟨w.1.size,5,none⟩=some (.slice (nv i).sa (ndI 0 us).signs.length (nv i).sc):=o.cell 5;have cj:=o.free 5;have D:=ax L w.1.size 5 (.slice l (sl-1) m);have B:=o.set 5 (.slice l (sl-1) m);have A:=aw (t:=9) D o uB;have z:=aw (t:=3) D o uB;have y:(a.tail.map (·.1)).length=sl-1:=by rw[d,ky (by rw[C.out];have:=E.out;omega),C.out]
   have I:((ndc (nv i) (ndI 0 us)).set 4 (.slice f (us.length-1) j)).set 5 (.slice l (sl-1) m)=ndc ⟨(nv i).ka,(nv i).kc,(nv i).va,(nv i).vc,f,j,l,m⟩ (ndI 0 a):=by
    show [_,_,_,_,_,_]=[_,_,_,_,Value.slice f (a.map (·.2)).length j,Value.slice l (a.tail.map (·.1)).length m];rw[n.out.2,y]
    rfl
   rw[I]at B;have a4:RNd (L.setCell ⟨w.1.size,5,none⟩ (.slice l (sl-1) m)) ⟨(nv i).ka,(nv i).kc,(nv i).va,(nv i).vc,f,j,l,m⟩ (ndI 0 a):=by
    have af:=a3.keep A z;have ag:=(a1.r1 (dR _)).keep A;have s:=G.keep z;rw[<-d]at ag;rw[<-n.out.1]at s;refine⟨af.keys,af.vals,?_,?_⟩
    ·show R1 _ _ _ (a.map (·.2)).length _ (on (a.map (·.2)));rw[n.out.2];exact s
    ·show R1 _ _ _ (a.tail.map (·.1)).length _ (os (a.tail.map (·.1)));rw[y];exact ag
   have V:=uv B (vJ a4 (x.trans (D.below t6 x.size)));clear Q a1 r o a3 G D B A z I a4 y ac d x;go_wp2_with fail
   go_meet
   case rel=>exact⟨_,V.out⟩
  ·rw[CH bv]at d;have cm:p=0:=uA;subst cm;by_cases cp:0<sl
   ·have bu:(0:Int)< (sl:Int):=uA;have Q:=kz _ _ _ _ 0 U c.out.2.2.2.1 cp (by have:=E.out;omega);have bn:a.tail.map (·.1)=dx (us.tail.map (·.1)) 0:=by rw[d,dx,List.take_zero,xd,List.drop_one]
    replace d:=bn;clear bn;go_wp2_with fail;refine Q.mono ?_;rintro e L ⟨l,m,rfl,r,a1⟩;have o:=c.out.1.below r;have a3:=c.out.2.1.below r;have G:=c.out.2.2.1.below r;have x:=c.out.2.2.2.2.trans (r.mono c.out.2.2.2.2.size);have cc:L.cell? ⟨w.1.size,5,none⟩=some (.slice (nv i).sa (ndI 0 us).signs.length (nv i).sc):=o.cell 5;have cj:=o.free 5;have D:=ax L w.1.size 5 (.slice l (sl-1) m);have B:=o.set 5 (.slice l (sl-1) m);have A:=aw (t:=9) D o uB;have z:=aw (t:=3) D o uB;have y:(a.tail.map (·.1)).length=sl-1:=by rw[d,ky (by rw[C.out];have:=E.out;omega),C.out]
    have I:((ndc (nv i) (ndI 0 us)).set 4 (.slice f (us.length-1) j)).set 5 (.slice l (sl-1) m)=ndc ⟨(nv i).ka,(nv i).kc,(nv i).va,(nv i).vc,f,j,l,m⟩ (ndI 0 a):=by
     show [_,_,_,_,_,_]=[_,_,_,_,Value.slice f (a.map (·.2)).length j,Value.slice l (a.tail.map (·.1)).length m];rw[n.out.2,y]
     rfl
    rw[I]at B;have a4:RNd (L.setCell ⟨w.1.size,5,none⟩ (.slice l (sl-1) m)) ⟨(nv i).ka,(nv i).kc,(nv i).va,(nv i).vc,f,j,l,m⟩ (ndI 0 a):=by
     have af:=a3.keep A z;have ag:=(a1.r1 (dR _)).keep A;have s:=G.keep z;rw[<-d]at ag;rw[<-n.out.1]at s;refine⟨af.keys,af.vals,?_,?_⟩
     ·show R1 _ _ _ (a.map (·.2)).length _ (on (a.map (·.2)));rw[n.out.2];exact s
     ·show R1 _ _ _ (a.tail.map (·.1)).length _ (os (a.tail.map (·.1)));rw[y];exact ag
    have V:=uv B (vJ a4 (x.trans (D.below t6 x.size)));clear Q a1 r o a3 G D B A z I a4 y ac d x;go_wp2_with fail
    go_meet
    case rel=>exact⟨_,V.out⟩
   ·have bu:¬(0:Int)< (sl:Int):=uA;have bx:sl=0:=uA;have V:Hid (Blk U 176 w.1.size (ndc ⟨(nv i).ka,(nv i).kc,(nv i).va,(nv i).vc,f,j,(nv i).sa,(nv i).sc⟩ (ndI 0 a))/\RNd U ⟨(nv i).ka,(nv i).kc,(nv i).va,(nv i).vc,f,j,(nv i).sa,(nv i).sc⟩ (ndI 0 a)/\Below w.1.size w U):=by
     have e0:=y3 (by rw[C.out];exact bx);rw[e0]at d;have R:a.tail.map (·.1)=[]:=d;have B:=c.out.1;have I:(ndc (nv i) (ndI 0 us)).set 4 (.slice f (us.length-1) j)=ndc ⟨(nv i).ka,(nv i).kc,(nv i).va,(nv i).vc,f,j,(nv i).sa,(nv i).sc⟩ (ndI 0 a):=by
      show [_,_,_,_,_,Value.slice _ (us.tail.map (·.1)).length _]=[_,_,_,_,Value.slice f (a.map (·.2)).length j,Value.slice _ (a.tail.map (·.1)).length _];rw[n.out.2,R,e0]
      rfl
     rw[I]at B;refine⟨B,⟨c.out.2.1.keys,c.out.2.1.vals,?_,?_⟩,c.out.2.2.2.2⟩
     ·show R1 _ _ _ (a.map (·.2)).length _ (on (a.map (·.2)));have s:=c.out.2.2.1;rw[<-n.out.1]at s;rw[n.out.2];exact s
     ·show R1 _ _ _ (a.tail.map (·.1)).length _ (os (a.tail.map (·.1)));have s:=c.out.2.1.signs;have c0:(ndI 0 us).signs=[]:=e0;rw[c0]at s;rw[R];exact s
    clear d bx;go_wp2_with fail
    go_meet
    case rel=>exact⟨_,V.out⟩
 case rest=>
 obtain⟨vL,bA,cL,bg⟩:=hcut;obtain⟨c5,cq⟩:=aa wc;subst cq;generalize bm:ndI 0 a=a8 at*;have stV:=b5.out.below bg;have b3:Hid _:=bm;clear c P ac bm;have b6:Hid (∀(u:World)(k:Nat)(v:NdV)(cS:NdK),Blk u 176 k (ndc v cS)->(Instr.loadAt 176 (.pointer (some ⟨k,0,none⟩))).run prog u= .ok (.agg (ndc v cS).toArray) u):=fun u k v cS c3=>jI u k v cS c3;go_wp2_with fail;have ad:=bDr c5;have bB:=bA.below ad;have a5:=cL.below ad;have K:=stV.below ad;have b1:Hid _:=ad;refine az (fun u=>u.cell? ⟨g,0,none⟩=some (.slice (some ⟨b,0,none⟩) ns.length nc)/\(Instr.loadAt 176 (.pointer (some ⟨w.1.size,0,none⟩))).run prog u= .ok (.agg (ndc vL a8).toArray) u) (fun k=>decide (7<=k)) vk ?_;clear ad bA cL;generalize c5.drew=bR at*;have cs:bR.cell? ⟨g,0,none⟩=some (.slice (some ⟨b,0,none⟩) ns.length nc)/\(Instr.loadAt 176 (.pointer (some ⟨w.1.size,0,none⟩))).run prog bR= .ok (.agg (ndc vL a8).toArray) bR:=⟨K.blk.cell 0,b6.out _ _ _ _ bB⟩;refine aj 0 cs ?_;refine aj 1 cs ?_;refine aj 2 cs ?_;refine aj 3 cs ?_;refine aj 4 cs ?_;refine aM 5 (.agg (ndc vL a8).toArray) cs ?hy5 ?_
 case hy5=>exact fun u am=>bo (p:= .pointer (some ⟨w.1.size,0,none⟩)) rfl rfl am.2
 refine aj 6 cs ?_;refine ah 7 fun W q=> ?_;refine iY K a5 cn rfl rfl rfl ?_;intro cV a6 bE;refine aU q ?_;clear q W cs;have cT:Hid (UQ B0 g rest rt (some ⟨b,0,none⟩) w cV (ns.set i a8)):=a6.uq (((OnlyS.ofBelow bg).trans (OnlyS.ofBelow b1.out)).trans ((OnlyS.ofB bE).mono (fun k _ c2=>v6 (by rw[c2])))) (v7 rfl);clear a6 K bE bB a5 stV;go_wp2_with fail;refine B3 (results_none rfl _ _ _) rfl ?_;rw[b2.out,b3.out];exact⟨rfl,cT.out⟩
end
section
variable {B0 g:Nat} {rest:List Value} {rt:Int} {w:World} {ns:List NdK} {nv:Nat->NdV} {na:Option Addr} {nc:Nat}
theorem FQ(q:USt B0 g rest rt w ns nv na nc){i p pc:Nat}{us c}(a:ns[i]?=some (ndI 0 us))(F:p<us.length)(a0:(us.map (·.2)).getD p 0=(pc:Int))(W:ns[pc]?=some c)(bx:us.length<=1000)(bs:ns.length<=1048575)(es)(X:c.keys=es.map (·.1))(M:c.vals=es.map (·.2))(bc:lSz es<=1000000)(a8:aH c.signs<=1000000)(bn:c.kids.length<=1000000)(aX:c.keys.length+c.kids.length≠0)(m:60<=kSz es c\/us.length<2):
 Calls prog 160 #[.pointer (some ⟨g,0,none⟩),.int .i64 (i:Nat),.int .i64 (p:Nat)] w fun e w'=>e= .returned (.tuple #[])/\UQ B0 g rest rt na w w' ns:=by
 have bl:=im es;have ba:c.keys.length<=1000000:=by rw[X,y2];omega
 have H:Hid _:=q;have r:=uv a W;obtain⟨b,rfl,l,aB,bv⟩:=q.cells a;obtain⟨_,a7,_,L,bu⟩:=q.cells W;clear a7;have an:w.cell? ⟨g,0,none⟩=some (.slice (some ⟨b,0,none⟩) ns.length nc):=q.blk.cell 0;have n:Hid ((ndI 0 us).kids.length=us.length/\(us.tail.map (·.1)).length+1=us.length):=by
  refine⟨by simp[ndI],?_⟩;simp;omega
 have B:=bAl w (.cells (ndc (nv i) (ndI 0 us)).toArray 176);have a1:=aq w 176 (ndc (nv i) (ndI 0 us)).toArray;have ad:=aB.below B;have I:=L.below B;have a4:(prog.info? 176).map (·.size)=some (ndc (nv i) (ndI 0 us)).length:=aD;go_enter func160,ntmps160;go_upto_region 1 with(first|(refine dG rfl 176 _ rfl b (i*6) rfl (ndc (nv i) (ndI 0 us)) _ l underlying176 rfl a4 ?_)|(refine bt rfl 176 _ _ rfl w (ndc aF nd0).toArray (ndc (nv i) (ndI 0 us)).toArray 176 rfl rfl aD rfl (cy _ _) ?_))
 change Code.wp _ _ _ _ (w.alloc (.cells (ndc (nv i) (ndI 0 us)).toArray 176));generalize w.alloc (.cells (ndc (nv i) (ndI 0 us)).toArray 176)=a6 at*;have N:Blk a6 176 w.1.size (ndc (nv i) (ndI 0 us)):=a1;clear a1 an l aB L;have v:=bDr a6;have D:=B.trans (v.mono B.size);have z:=N.below v;have ab:=ad.below v;have a3:=I.below v;have f:=q.below D;have d:=z.cell 4;have o:R1 3 a6.drew (nv i).da us.length (nv i).dc (on (us.map (·.2))):=by have:=ab.kids;rwa [show(ndI 0 us).kids.length=us.length from n.out.1]at this
 obtain⟨A,G,T,E⟩:=o.get F;rw[cF _ _ (by simpa using F),a0]at E;refine az (fun u=>u.cell? ⟨g,0,none⟩=some (.slice (some ⟨b,0,none⟩) ns.length nc)/\u.cell? ⟨w.1.size,4,none⟩=some (.slice (some ⟨A,G,none⟩) us.length (nv i).dc)/\u.cell? ⟨A,G+p,none⟩=some (.int .i64 (pc:Nat))/\(Instr.loadAt 176 (.pointer (some ⟨b,pc*6,none⟩))).run prog u= .ok (.agg (ndc (nv pc) c).toArray) u) (fun k=>decide (12<=k)) vk ?_;clear v N ad I B a4 q a W d;generalize a6.drew=s at*;have d:s.cell? ⟨w.1.size,4,none⟩=some (.slice (some ⟨A,G,none⟩) us.length (nv i).dc):=by rw[<-T,<-n.out.1];exact z.cell 4
 have cs:=vJ (f.blk.cell 0) (vJ d (vJ E (f.loadNd r.out.2)));have y:A<s.1.size:=by
  obtain⟨bB,bC,aA,⟨bg,bk,a9⟩,_⟩:=o.at_ uA;rw[T]at aA;cases aA;exact(wy.1 a9).1
 refine ay 0 cs ?_;refine ay 1 cs ?_;refine ay 2 cs ?_;refine ay 3 cs ?_;refine ay 4 cs ?_;refine ay 5 cs ?_;refine ay 6 cs ?_;refine ay 7 cs ?_;refine ay 8 cs ?_;refine ay 9 cs ?_;refine aM 10 (.agg (ndc (nv pc) c).toArray) cs ?hy10 ?_
 case hy10=>exact fun u aS=>bo (p:= .pointer (some ⟨b,pc*6,none⟩)) rfl rfl aS.2.2.2
 refine ah 11 fun Q a=> ?_;go_wp2_with fail;have j:=bAl s (.cells (ndc aF nd0).toArray 176);have a5:=aq s 176 (ndc aF nd0).toArray;have K:=vJ ((f.below j).blk.cell 0) (vJ (j.cell (p:=⟨w.1.size,4,none⟩) z.lt▸d) (vJ (j.cell (p:=⟨A,G+p,none⟩) y▸E) ((f.below j).loadNd r.out.2)));refine ao a ?_ (fun _=>K);clear a Q K;refine ah 12 fun Q a=> ?_;refine bK (cs:=ndc (nv pc) c) a5 rfl (eo _ _) aD rfl rfl rfl ?_;intro S Z a2;refine aU a ?_;clear a Q a5 cs;have t:=j.trans (a2.below t6 j.size);have Y:=z.below t;have bd:=ab.below t;have O:=o.below t;have x:=D.trans (t.mono D.size);clear a2 j t z ab a3 o D f d E T y;generalize s.1.size=ap at*;have ag:S.cell? ⟨ap,2,none⟩=some (.slice (nv pc).ka c.keys.length (nv pc).kc):=Z.cell 2;have ak:S.cell? ⟨ap,4,none⟩=some (.slice (nv pc).da c.kids.length (nv pc).dc):=Z.cell 4;have am:S.cell? ⟨w.1.size,4,none⟩=some (.slice (nv i).da us.length (nv i).dc):=by rw[<-n.out.1];exact Y.cell 4
 have ae:=mD (H.out.below x) r.out.2 es X M bc a8 uA;obtain⟨bz,bA,U,J⟩:=O.get F;rw[cF _ _ (by simpa using F),a0]at J;rw[U]at am;have bb:((c.keys.length:Int)+(c.kids.length:Int)==0)=false:=by rw[D2];omega
 have P:=uv Y (vJ x U);have ac:Hid _:=m;generalize kSz es c=R at*;clear Y bd x Z O U X M m aX;go_wp2_with fail;refine ae.mono ?_;rintro e af ⟨rfl,C⟩;have aT:Hid (UQ B0 g rest rt (some ⟨b,0,none⟩) w af ns):=((H.out.below P.out.2.1).below C).uq ((OnlyS.ofBelow P.out.2.1).trans (OnlyS.ofBelow C)) (v7 rfl);have bf:af.cell? ⟨w.1.size,4,none⟩=some (.slice (nv i).da us.length (nv i).dc):=by rw[<-n.out.1];exact(P.out.1.below C).cell 4
 clear ae am ag ak J C;by_cases bm:60<=R
 ·have V:(60:Int)<=(R:Int):=uA;go_wp2_with fail;refine B3 (results_none rfl _ _ _) rfl ?_;exact⟨rfl,aT.out⟩
 ·have V:¬(60:Int)<=(R:Int):=uA;have br:(us.length:Int)<2:=by have:=ac.out;omega
  go_wp2_with fail;refine B3 (results_none rfl _ _ _) rfl ?_;exact⟨rfl,aT.out⟩
end
section
structure JSt(w V:World)(nb ga gb gj:Nat)(vN vA vB:NdV)(KN A B:NdK)(cj:List Value):Prop where
 hb:Below w.1.size w V
 kn:Blk V 176 nb (ndc vN KN)
 ka:Blk V 176 ga (ndc vA A)
 kb:Blk V 176 gb (ndc vB B)
 kj:Blk V 176 gj cj
 rN:RNd V vN KN
 rA:RNd V vA A
 rB:RNd V vB B
 le:w.1.size<=gj
 n1:gj≠nb/\gj≠ga/\gj≠gb
variable {w V v2:World} {nb ga gb gj:Nat} {vN vA vB:NdV} {KN A B:NdK} {cj:List Value}
theorem JSt.below(h:JSt w V nb ga gb gj vN vA vB KN A B cj)(b:Below V.1.size V v2):JSt w v2 nb ga gb gj vN vA vB KN A B cj:=
 ⟨h.hb.trans (b.mono h.hb.size),h.kn.below b,h.ka.below b,h.kb.below b,h.kj.below b,h.rN.below b,h.rA.below b,h.rB.below b,h.le,h.n1⟩
theorem JSt.set(h:JSt w V nb ga gb gj vN vA vB KN A B cj)(f x):JSt w (V.setCell ⟨gj,f,none⟩ x) nb ga gb gj vN vA vB KN A B (cj.set f x)/\∀t,t≠176->KeepT t V (V.setCell ⟨gj,f,none⟩ x):=by
 have o:=ax V gj f x;have k:∀t,t≠176->KeepT t V (V.setCell ⟨gj,f,none⟩ x):=fun t a=>aw o h.kj (ED a);refine⟨⟨h.hb.trans (o.below h.le h.hb.size),h.kn.only o (ED h.n1.1),h.ka.only o (ED h.n1.2.1),h.kb.only o (ED h.n1.2.2),h.kj.set f x,h.rN.keep (k _ uB) (k _ uB),h.rA.keep (k _ uB) (k _ uB),h.rB.keep (k _ uB) (k _ uB),h.le,h.n1⟩,k⟩
theorem R1.keepB{e w0 w1 k a n c xs}(d:R1 e w0 a n c xs)(q:R1 e w1 a n c xs)(r:Below w0.1.size w1 k):R1 e k a n c xs:=
 ⟨d.len,d.le,d.le',d.nil,d.one,fun o=>by
  obtain⟨b,p,l,⟨cs,fr,t⟩,_⟩:=d.at_ o;obtain⟨x,w,m,⟨f,g,j⟩,s⟩:=q.at_ o;rw[l]at m;cases m;have v:=(wy.1 t).1;have hx:=(r.block b v).trans j;refine⟨b,p,l,⟨f,g,hx⟩,fun i u=> ?_⟩;rw[<-s i u,DC k b _ f e g hx,DC w1 b _ f e g j]⟩
theorem RNd.keepB{w0 w1 d v K}(a:RNd w0 v K)(b:RNd w1 v K)(c:Below w0.1.size w1 d):RNd d v K:=⟨a.keys.keepB b.keys c,a.vals.keepB b.vals c,a.kids.keepB b.kids c,a.signs.keepB b.signs c⟩
theorem JSt.keepB{w0 d}(a:JSt w w0 nb ga gb gj vN vA vB KN A B d)(b:JSt w V nb ga gb gj vN vA vB KN A B cj)(c:Below w0.1.size V v2):JSt w v2 nb ga gb gj vN vA vB KN A B cj:=
 ⟨b.hb.trans (c.mono a.hb.size),(c.block _ a.kn.lt).trans b.kn,(c.block _ a.ka.lt).trans b.ka,(c.block _ a.kb.lt).trans b.kb,(c.block _ a.kj.lt).trans b.kj,a.rN.keepB b.rN c,a.rA.keepB b.rA c,a.rB.keepB b.rB c,a.le,a.n1⟩
def jnK(A B:NdK)(sg:ByteArray):NdK:=⟨0,A.leaf,A.keys++B.keys,A.vals++B.vals,A.kids++B.kids,if A.leaf then A.signs else A.signs++sg::B.signs⟩
theorem FT{us:List Pl}{q}(d:q+1<us.length)(s x):((us.set q (s,x)).eraseIdx (q+1)).map (·.2)=(dx (us.map (·.2)) (q+1)).set q x/\((us.set q ((us.getD q (strOfNums [],0)).1,x)).eraseIdx (q+1)).tail.map (·.1)=dx (us.tail.map (·.1)) q:=by
 refine⟨?_,?_⟩
 ·rw[jE,List.map_set,dx,<-List.eraseIdx_eq_take_drop_succ];show((us.map (·.2)).set q x).eraseIdx (q+1)=((us.map (·.2)).eraseIdx (q+1)).set q x;apply zb;intro j;rw[List.getElem?_eraseIdx,BO,BO,BO,List.getElem?_eraseIdx];have c:((us.map (·.2)).eraseIdx (q+1)).length=us.length-1:=by rw[List.length_eraseIdx];simp;omega
  rw[c,y2];by_cases a:j<q+1
  ·rw[B4 a,B4 a];by_cases b:q=j
   ·rw[B4 b,B4 b,B4 uA,B4 uA]
   ·rw[CH b,CH b]
  ·rw[CH a,CH a,CH uA,CH uA]
 ·have h:∀l:List Pl,l.tail.map (·.1)=(l.map (·.1)).tail:=fun l=>by rw[List.map_tail]
  rw[h,h,jE,List.map_set];show(((us.map (·.1)).set q (us.getD q (strOfNums [],0)).1).eraseIdx (q+1)).tail= _;have e:(us.getD q (strOfNums [],0)).1=(us.map (·.1)).getD q (strOfNums []):=(eF (·.1) us q ((strOfNums [],0):Pl)).symm;rw[e,rm];cases us with
  |nil=>simp at d
  |cons y us=>simp[dx,List.eraseIdx_eq_take_drop_succ]
def mjL(ns:List NdK)(i q:Nat)(us:List Pl)(J:NdK)(z:Nat):List NdK:=if 240<z then ns++[J]else(ns++[J]).set i (ndI 0 ((us.set q ((us.getD q (strOfNums [],0)).1,(ns.length:Int))).eraseIdx (q+1)))
theorem FU(x):prog.built 176 [(1,.bool x)]=some #[.int .i64 0,.bool x,.slice none 0 0,.slice none 0 0,.slice none 0 0,.slice none 0 0]:=vk
end
