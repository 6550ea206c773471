import Derived.Test.YtnohmedccbogkaaGreatDoorCo47
import Derived.Test.YtnohmedccbogkaaGreatDoorCo48
import Derived.Test.YtnohmedccbogkaaGreatDoorCo17
namespace Go.Proofs.YtnohmedccbogkaaGreatDoor
open Go.Proofs.Tryz
open Go.RowKit
set_option linter.unusedVariables false
set_option maxRecDepth 100000
set_option maxHeartbeats 32000000
structure XsS(w u:World)(a:Option Addr)(c:Nat)(xs:List Ch)(ae:Option Addr)(ce:Nat)(es:List (ByteArray×ByteArray))(bb:Nat)(v:BlV)(K:BlK)(ai:Option Addr)(ci:Nat):Prop where
 och:OCh w.1.size u a c xs
 ent:ORow 93 2 0 u ae es.length ce (enF es)
 blk:Blk u 113 bb (blc v K)
 bl:OBl w.1.size u v K
 ids:OHs w.1.size u ai K.nt ci (av K.tx)
 bel:Below w.1.size w u
section
variable {w u u':World} {a:Option Addr} {c:Nat} {xs:List Ch} {ae:Option Addr} {ce:Nat} {es:List (ByteArray×ByteArray)} {bb:Nat} {v:BlV} {K:BlK} {ai:Option Addr} {ci:Nat}
theorem XsS.below(h:XsS w u a c xs ae ce es bb v K ai ci)(b:Below u.1.size u u'):XsS w u' a c xs ae ce es bb v K ai ci:=⟨h.och.below b,h.ent.below b,h.blk.below b,h.bl.below b,h.ids.below b,h.bel.trans (b.mono h.bel.size)⟩
theorem XsS.app(h:XsS w u a c xs ae ce es bb v K ai ci){d e b}(g:OCh w.1.size u' d e b)(f:u.grownBy u' (Value.slice a xs.length c).ownBlock):XsS w u' d e b ae ce es bb v K ai ci:=
 have k:∀j,105≠j->KeepT j u u':=fun j i=>bJ h.och f i
 ⟨g,dL h.ent (k _ kN),h.blk.keepT (k _ kN),h.bl.keep (k _ kN) (k _ kN) (k _ kN),dL h.ids (k _ kN),h.bel.trans (h.och.grown f h.bel.size)⟩
theorem XsS.keepU(h:XsS w u a c xs ae ce es bb v K ai ci)(b:Below w.1.size u u')(k:∀d,5≠d->KeepT d u u'):XsS w u' a c xs ae ce es bb v K ai ci:=
 ⟨h.och.keep (k _ kN),dL h.ent (k _ kN),h.blk.keepT (k _ kN),h.bl.keep (k _ kN) (k _ kN) (k _ kN),dL h.ids (k _ kN),h.bel.trans b⟩
theorem XsS.c64(h:XsS w u a c xs ae ce es bb v K ai ci):u.cell? ⟨bb,64,none⟩=some (.int .i64 K.h):=(h.blk.cell 64).trans (iX v h.bl.ok)
theorem XsS.c65(h:XsS w u a c xs ae ce es bb v K ai ci):u.cell? ⟨bb,65,none⟩=some (.slice v.ta K.nt v.tc):=(h.blk.cell 65).trans (jm v h.bl.ok)
theorem XsS.id(h:XsS w u a c xs ae ce es bb v K ai ci){i}(d:i<K.nt):∃b off,ai=some ⟨b,off,none⟩/\(Instr.loadAt 32 (.pointer (some ⟨b,off+i*32,none⟩))).run prog u= .ok (.agg (ob (av K.tx i)).toArray) u:=by
 have H:=h.ids.reads (ll K.tx K.nt);obtain⟨b,off,e,_⟩:=H.at_ kH;subst e;exact⟨b,off,rfl,H.load i d⟩
end
theorem MM(k):prog.built 105 [(0,.string k),(2,.bool true)]=some #[.string k,.string (strOfNums []),.bool true]:=kO
theorem qx(k v):prog.built 105 [(0,.string k),(1,.string v)]=some #[.string k,.string v,.bool false]:=kO
theorem MN(n)(a:0<=n)(b:n<256)(w):(convert 3 5 (.int .i64 n)).run prog w= .ok (.int .u8 n) w:=by
 have e:IntKind.u8.wrap n=n:=by simp[IntKind.wrap,IntKind.bits,IntKind.signed];omega
 go_simp
theorem MP{P w}{e:Operand->Value}{o f d x y p q b}(a:o.op= .binOp .eql f x y d)(hx:e x= .int .i64 p)(c:e y= .int .i64 q)(g:P.underlying f=some (.int .i64))(h:(p==q)=b):(execOp e o).run P w= .ok (.value (.bool b)) w:=by
 subst h;unfold execOp;simp only[a,hx,c];go_simp
theorem MQ{a c}(b:a.length=32):(kyC (a,c)).size=34:=by
 unfold kyC;rw[rg];simp[b]
theorem MR{d c}(k:IsB d)(g:0<=c)(h:c<256):(kyC (d,c)).extract 1 (kyC (d,c)).size=strOfNums (d++[c]):=by
 have e:kyC (d,c)=strOfNums [99]++strOfNums (d++[c]):=by rw[jf];rfl
 have f:(strOfNums [99]).size=1:=by rw[rg];rfl
 rw[e,ByteArray.size_append,f];have:=ByteArray.extract_append_eq_right (a:=strOfNums [99]) (b:=strOfNums (d++[c])) (i:=1) (j:=1+(strOfNums (d++[c])).size) (by rw[f]) (by rw[f]);exact this
theorem MT{es p}(h:cnB es p=true):(vOf (gtE es (kyC p))).size=13:=(qn h).2.1
theorem MU(d K C root u t gg gs gp l w)(h:RDisk w d K)(fd:Bs w gg gs gp l)(hC:l.length<=1048576):
 Calls prog 32 #[.agg (stV d K C root u t).toArray,.slice gg gs gp] w (DcP (kxX K C root u t l) (kxC K C root u t l) w):=by
 obtain⟨cD,cd⟩:∃h4,h4=w.alloc (.cells (stV d K C root u t).toArray 40):=⟨_,rfl⟩;obtain⟨gb,cx⟩:∃h4,h4=cD.alloc (.cells #[] 105):=⟨_,rfl⟩;have gy:Below w.1.size w cD:=by rw[cd];exact bAl _ _
 have d9:Below cD.1.size cD gb:=by rw[cx];exact bAl _ _
 have h1:cD.1.size=w.1.size+1:=by rw[cd];simp
 have gz:=gy.trans (d9.mono gy.size);have hM:=(by rw[cd];exact ao w _ _:Blk cD 40 w.1.size (stV d K C root u t)).below d9;have hS:OCh w.1.size gb (some ⟨w.1.size+1,0,none⟩) 0 []:=by rw[cx,<-h1];exact mo _ _ _ _ kH _
 have j2:(prog.info? 40).map (·.size)=some (stV d K C root u t).toArray.size:=mP;have g3:=LE d K C root u t gb (h.below gz);have c7:Hid _:=Ly h C root u t;have f5:Hid (whB K C root u t=false->kxC K C root u t l=11/\kxX K C root u t l=[]):=BD;have c0:Hid (whB K C root u t=true->bI l=false->kxC K C root u t l=1/\kxX K C root u t l=[]):=BE;have f2:Hid (whB K C root u t=true->alL K C root u t=enL K root):=fun bH=>by unfold alL;rw[qb bH]
 have c1:Hid (whB K C root u t=true->bI l=true->ruC (alL K C root u t) (aG l)≠0->kxC K C root u t l=ruC (alL K C root u t) (aG l)/\kxX K C root u t l=[]):=fun bH gq hr=>by rw[f2.out bH]at hr ⊢;exact BF bH gq hr
 have cV:Hid (whB K C root u t=true->bI l=true->ruC (alL K C root u t) (aG l)=0->kxC K C root u t l=0/\kxX K C root u t l=cxL (alL K C root u t) (aG l).h.toNat (aG l).tx (aG l).nt++cxE (aG l) (aG l).h.toNat):=fun bH gq hr=>by rw[f2.out bH]at hr ⊢;exact BG bH gq hr
 have cb:=kG hS (kR gz fd);clear gy d9 gz hS h fd f2;generalize kxX K C root u t l=kB at*;generalize kxC K C root u t l=kA at*;generalize whB K C root u t=ke at*;generalize alL K C root u t=es at*;go_enter func32,ntmps32;go_upto_region 2 with fail
 change Code.wp _ _ _ _ ((w.alloc (.cells (stV d K C root u t).toArray 40)).alloc (.cells #[] 105));rw[<-cd,<-cx];clear cd cx h1;go_wp2_with (refine qi rfl 40 _ rfl w.1.size rfl 40 (stV d K C root u t).toArray (0,0) _ hM underlying40 rfl j2 ?_);refine g3.mono ?_;rintro e kc ⟨a2,a3,rfl,gh,hR,ki⟩;have ap:=kG (cb.out.1.below gh) (kR (ORow.mono hR (kX _)) (cb.out.2.1.trans (gh.mono cb.out.2.1.size)));clear g3 gh hR hM;generalize hs:(some ⟨w.1.size+1,0,none⟩:Option Addr)=cn at*;clear hs;cases ke with
 |false=>
  have bn:Hid _:=f5.out rfl;clear f5 c0 c1 cV;go_wp2_with fail
  go_ret2
  rw[bn.out.1,bn.out.2];exact⟨_,_,rfl,ap.out.1,ap.out.2.2⟩
 |true=>
  have g5:=JB gg gs gp l kc (cb.out.2.2.below ap.out.2.2) hC;have e1:Hid _:=c0.out rfl;have e2:Hid _:=c1.out rfl;have eY:Hid _:=cV.out rfl;clear f5 c0 c1 cV;go_wp2_with fail;refine g5.mono ?_;rintro e bF ⟨gi,r,rfl,f7⟩;unfold cK;have bE:=f7.ok;have gB:=bAl bF (.cells (blc r (aG l)).toArray 113);have bs:Blk (bF.alloc (.cells (blc r (aG l)).toArray 113)) 113 bF.1.size (blc r (aG l)):=ao bF _ _;have eb:(prog.info? 113).map (·.size)=some (blc r (aG l)).toArray.size:=by rw[k8,eO r bE];exact fG
  have hX:(blc iy jK).toArray.size=(blc r (aG l)).toArray.size:=by rw[k8,k8,eO r bE];rfl
  have dn:=gi.trans (gB.mono gi.size);have a7:Hid (∀x,Below (bF.alloc (.cells (blc r (aG l)).toArray 113)).1.size (bF.alloc (.cells (blc r (aG l)).toArray 113)) x->OCh w.1.size x cn 0 []/\ORow 93 2 0 x a2 es.length a3 (enF es)/\Blk x 113 bF.1.size (blc r (aG l))/\OBl w.1.size x r (aG l)/\Below w.1.size w x):=fun x hx=>
   ⟨(ap.out.1.below dn).below hx,(ap.out.2.1.below dn).below hx,bs.below hx,((f7.mono ap.out.2.2.size).below gB).below hx,(ap.out.2.2.trans (dn.mono ap.out.2.2.size)).trans (hx.mono (ap.out.2.2.trans (dn.mono ap.out.2.2.size)).size)⟩
  clear g5 gi f7 gB bs dn;go_upto_region 6 with(refine aL rfl 113 _ _ rfl bF (blc iy jK).toArray (blc r (aG l)).toArray 113 rfl rfl eb hX (lS _ _) ?_)
  change Code.wp _ _ _ _ (bF.alloc (.cells (blc r (aG l)).toArray 113));generalize bF.alloc (.cells (blc r (aG l)).toArray 113)=hj at*;generalize bF.1.size=M at*;have bS:=a7.out hj kF;have c9:Hid _:=bS;cases bY:bI l with
  |false=>
   have bn:Hid _:=e1.out bY;clear bY bS;go_wp2_with fail
   go_ret2
   rw[bn.out.1,bn.out.2];exact⟨_,_,rfl,c9.out.1,c9.out.2.2.2.2⟩
  |true=>
   have bl:Hid _:=uj bY;have f8:=MI es c7.out kH a2 a3 r (aG l) hj bS.2.2.2.1.reads bl.out bS.2.1;unfold cK at f8;have cm:Hid _:=e2.out bY;have cl:Hid _:=eY.out bY;have c5:Hid _:=fun hr=>BH (es:=es) (K:=aG l) hr;have bs:=bS.2.2.1;have g9:Hid _:=fun i6 kw(i2:ORow 93 2 0 kw a2 es.length a3 (enF es))=>tS es c7.out kH a2 a3 0 i6 kw i2;clear bY bS e1 e2 eY ap cb c7;generalize aG l=g at*;generalize ruC es g=gH at*;go_wp2_with (refine qi rfl 113 _ rfl M rfl 113 (blc r g).toArray (0,0) _ bs q7 rfl eb ?_);refine f8.mono ?_;rintro e hZ ⟨rfl,gk⟩;have bR:Hid _:=a7.out hZ gk;have cM:Hid _:=gk;clear f8 gk bs;by_cases bz:gH=0
   ·have hp:(gH !=0)=false:=by simp[bz]
    have bn:Hid _:=cl.out bz;have eN:Hid _:=c5.out bz;have cw:=(bR.out.2.2.1.cell 65).trans (jm r bE);have LI:=A7 r.ta g.nt r.tc r.tv g.tx hZ bR.out.2.2.2.1.reads.txs (fun i ey=>⟨by have:=(bl.out.tx i ey).ni;omega,by have:=(bl.out.tx i ey).no;omega⟩) (by have:=bl.out.nt;omega);clear bz cl cm c5;go_wp2_with fail;refine LI.mono ?_;rintro e h0 ⟨er,bq,rfl,hO,dr⟩;have e7:Hid (XsS w h0 cn 0 [] a2 a3 es M r g er bq):=by
     obtain⟨gO,g0,j3,ka,kb⟩:=a7.out h0 (cM.out.trans (dr.mono cM.out.size));exact⟨gO,g0,j3,ka,hO.mono bR.out.2.2.2.2.size,kb⟩
    clear LI hO dr cw bR cM c9 a7;obtain⟨p,dv⟩:∃p:Nat,g.h=(p:Int):=⟨g.h.toNat,by have:=bl.out.h.1;omega⟩;have fo:g.h.toNat=p:=by rw[dv];simp
    rw[fo]at bn;have cS:Hid _:=dv;have kk:p<=1000000:=by have:=bl.out.h.2;omega
    clear fo dv;have kt:=bl.out.nt;have cT:Hid _:=fun j(dy:j<=g.nt)=>qt (es:=es) (h:=p) (K:=g.tx) j (fun i ey=>⟨(bl.out.tx i kH).ni,(bl.out.tx i kH).no⟩);have e5:Hid _:=fun j(dy:j<=g.nt)=>ml (K:=g.tx) j (fun i ey=>⟨(bl.out.tx i kH).ni,(bl.out.tx i kH).no⟩);go_wp2_with fail;go_loopw [6,13,14] (fun b9 ea hT wr=> ∃(j:Nat)(a:Option Addr)(c:Nat),b9= .slice a (cxL es p g.tx j).length c/\ea= .int .i64 (spN g.tx j:Nat)/\hT= .int .i64 (j:Nat)/\j<=g.nt/\XsS w wr a c (cxL es p g.tx j) a2 a3 es M r g er bq) (fun _ _ s _=>g.nt-(intOf s).toNat)
    case atStart=>exact⟨0,cn,0,rfl,rfl,rfl,kX _,e7.out⟩
    case round=>
     obtain⟨j,a,c,rfl,rfl,rfl,dy,T⟩:=hrel;obtain⟨bt,rfl⟩:∃x,x=wr:=⟨_,rfl⟩;clear e7;have cw:=T.c65;by_cases ae:j<g.nt
     ·have ij:(j:Int)< (g.nt:Int):=kH;obtain⟨bp,oi,rfl,_⟩:=T.id ae;obtain⟨gm,gt,d4,_,b6⟩:=T.bl.reads.txs.row.at_ kH;have t0:bt.cell? ⟨gm,gt+j*3,none⟩=some (.slice (r.tv j).ia (g.tx j).ni (r.tv j).ic):=by have:=b6 j 0 ae kH;simpa [bU,txc]using this
      have gO:bt.cell? ⟨gm,gt+j*3+1,none⟩=some (.slice (r.tv j).oa (g.tx j).no (r.tv j).oc):=by have:=b6 j 1 ae kH;simpa [bU,txc]using this
      have g0:bt.cell? ⟨gm,gt+j*3+2,none⟩=some (.int .i64 (g.tx j).h):=by have:=b6 j 2 ae kH;simpa [bU,txc]using this
      have cq:=bAl bt (.cells (txc (r.tv j) (g.tx j)).toArray 121);have hK:Blk (bt.alloc (.cells (txc (r.tv j) (g.tx j)).toArray 121)) 121 bt.1.size (txc (r.tv j) (g.tx j)):=ao bt _ _;have c6:=kG (T.below cq) hK;have ba:=kG (bl.out.tx j ae) (T.bl.reads.txs.each j ae).pts;have eL:Hid _:=eN.out j ae;rw[d4]at cw;clear b6 T cq hK;rw[d4];clear d4;go_upto_region 17 with(refine aL rfl 121 _ _ rfl bt txz.toArray (txc (r.tv j) (g.tx j)).toArray 121 rfl rfl lR rfl (by simp[txc,Value.oneCell']) ?_)
      change Code.wp _ _ _ _ (bt.alloc (.cells (txc (r.tv j) (g.tx j)).toArray 121));generalize bt.alloc (.cells (txc (r.tv j) (g.tx j)).toArray 121)=kx at*;generalize bt.1.size=bf at*;clear t0 gO g0 cw;have hD:=cT.out j dy;have ko:=e5.out j dy;have kp:=ba.out.1.ni;have ks:=ba.out.1.no;have dd:Hid (cxL es p g.tx (j+1)=cxL es p g.tx j++cxT es p g.tx j/\spN g.tx (j+1)=spN g.tx j+(g.tx j).ni):=⟨rfl,rfl⟩;have ck:Hid (cxT es p g.tx j=cxI es p (g.tx j).P (spN g.tx j) (g.tx j).ni++(ptC (kyM 110 p j) (strOfNums (aZ (g.tx j)++[((g.tx j).no:Int)]))::cxO p (aZ (g.tx j)) (g.tx j).V (j==0) (g.tx j).no)):=rfl;generalize cxL es p g.tx j=xs at*;generalize spN g.tx j=ca at*;go_wp2_with fail;go_loopw [6,13,16] (fun b9 ea hV ej=> ∃(k:Nat)(ak:Option Addr)(am:Nat),b9= .slice ak (xs++cxI es p (g.tx j).P ca k).length am/\ea= .int .i64 (ca+k:Nat)/\hV= .int .i64 (k:Nat)/\k<=(g.tx j).ni/\XsS w ej ak am (xs++cxI es p (g.tx j).P ca k) a2 a3 es M r g (some ⟨bp,oi,none⟩) bq/\Blk ej 121 bf (txc (r.tv j) (g.tx j))) (fun _ _ s _=>(g.tx j).ni-(intOf s).toNat)
      case atStart=>exact⟨0,a,c,by rw[cxI,lj],rfl,rfl,kX _,by rw[cxI,lj];exact c6.out.1,c6.out.2⟩
      case round=>
       obtain⟨k,ak,am,rfl,rfl,rfl,ia,T,b5⟩:=hrel;obtain⟨cL,rfl⟩:∃x,x=wr:=⟨_,rfl⟩;clear c6;obtain⟨a5,be⟩:∃a5,a5=xs++cxI es p (g.tx j).P ca k:=⟨_,rfl⟩;have b3:Hid (a5.length<=19*j+2*k):=by show a5.length<=_;rw[be,kY,qq];omega
       have cv:Hid (xs++cxI es p (g.tx j).P ca k=a5):=be.symm;rw[<-be]at T ⊢;clear be;have a8:=kG T b5;obtain⟨cG,d1⟩:∃q,q=ca+k:=⟨_,rfl⟩;have cr:Hid (ca+k=cG):=d1.symm;have h2:cG<=100:=kH;rw[<-d1];clear d1;have d0:cL.cell? ⟨bf,0,none⟩=some (.slice (r.tv j).ia (g.tx j).ni (r.tv j).ic):=b5.cell 0;by_cases b0:k< (g.tx j).ni
       ·have ib:(k:Int)< ((g.tx j).ni:Int):=kH;have b1:=ba.out.2.len k b0;have dG:=ba.out.2.byte k b0;have dW:=ba.out.1.pt k b0;obtain⟨b,off,fs,cy,b6⟩:=(T.bl.reads.txs.each j ae).ins.at_ kH;have ce:∀q x,(pc ((g.tx j).P k))[q]?=some x->cL.cell? ⟨b,off+k*33+q,none⟩=some x:=fun q x hx=>by
         have it:q<33:=by have:=(lb.1 hx).1;rw[dS _ b1]at this;exact this
         rw[b6 k q b0 it];exact hx
        have hY:(prog.info? 52).map (·.size)=some (pc ((g.tx j).P k)).length:=by rw[dS _ b1];exact gl
        have bN:Hid (cxI es p (g.tx j).P ca (k+1)=cxI es p (g.tx j).P ca k++[dlC (kyC ((g.tx j).P k)),ptC (kyM 117 p (cG:Nat)) (strOfNums (((g.tx j).P k).1++[((g.tx j).P k).2])++vOf (gtE es (kyC ((g.tx j).P k))))]):=by show _= _;rw[cxI,cr.out]
        rw[fs]at d0 ⊢;have ch:=rq ((g.tx j).P k) b1 dG dW.1 kH cL;have c8:Hid _:=MT (eL.out k b0);clear b6 fs;generalize (g.tx j).P k=j0 at*;obtain⟨gv,gw⟩:=j0;dsimp only at b1 dG dW bN;obtain⟨Y,bj⟩:∃s,s=kyC (gv,gw):=⟨_,rfl⟩;have hy:Y.size=34:=by rw[bj];exact MQ b1
        have cO:Hid (Y.extract 1 Y.size=strOfNums (gv++[gw])):=by show _= _;rw[bj];exact MR dG dW.1 kH
        rw[<-bj]at ch bN c8;clear bj T b5;go_wp2_with (refine dm rfl 52 _ rfl b (off+k*33) rfl (pc (gv,gw)) _ ce r9 rfl hY ?_);refine ch.mono ?_;rintro e bg ⟨rfl,bw⟩;have ah:=kG (a8.out.1.below bw) (Blk.below a8.out.2 bw);have f6:=g9.out Y bg ah.out.1.ent;rw[tT]at f6;clear ch bw a8 ce hY d0;generalize gtE es Y=h9 at*;go_wp2_with fail;refine f6.mono ?_;rintro e w' ⟨rfl,bH⟩;obtain rfl:=bH.symm;clear bH f6;generalize hF:vOf h9=eC at*;clear hF;go_upto_region 22 with fail
        obtain⟨L,Q⟩:∃eq,eq=bg.drew:=⟨_,rfl⟩;have ac:Below bg.1.size bg L:=by rw[Q];exact⟨rfl,rfl,rfl,kE,fun _ _=>rfl⟩
        have a9:=kG (ah.out.1.below ac) (Blk.below ah.out.2 ac);have o:Hid (∀x,XsS w x ak am a5 a2 a3 es M r g (some ⟨bp,oi,none⟩) bq->x.cell? ⟨M,64,none⟩=some (.int .i64 p)):=fun x hx=>by rw[<-cS.out];exact hx.c64
        have cs:=o.out L a9.out.1;obtain⟨cF,dC⟩:∃s,s=kyM 117 p (cG:Nat):=⟨_,rfl⟩;have b4:=AM 117 p (cG:Nat) kH kH kH L;rw[<-dC]at b4;rw[<-dC]at bN;have kl:(1:Int)<=(Y.size:Int):=kH;have hq:Hid _:=MM Y;obtain⟨cg,cB⟩:∃s,s=Y.extract 1 Y.size:=⟨_,rfl⟩;have hG:cg.size=33:=by rw[cB,cO.out,rg,kY,b1];rfl
        have fn:¬9223372036854775807<cg.size+eC.size:=by have:=c8.out;omega
        have hu:¬(9223372036854775807:Int)< (cg.size:Int)+(eC.size:Int):=by have:=c8.out;omega
        have bc:Hid _:=qx cF (cg++eC);rw[<-cO.out,<-cB]at bN;clear dC ac ah cO hy;refine ay (fun x=>x.cell? ⟨M,64,none⟩=some (.int .i64 p)) (fun k=>decide (13<=k)) kO ?_;rw[<-Q];clear Q;refine aa 0 cs ?_;refine aa 1 cs ?_;refine aC 2 (.agg #[.string Y,.string (strOfNums []),.bool true]) cs ?hb2 ?_
        case hb2=>exact fun x _=>iq rfl (by simp only[k9,k4,k7];exact hq.out)
        refine aa 3 cs ?_;refine aa 4 cs ?_;refine aa 5 cs ?_;refine aa 7 cs ?_;refine aa 8 cs ?_;rw[<-cB];clear cB hG;refine aa 9 cs ?_;refine aa 10 cs ?_;refine aj 6 fun m f=> ?_;go_wp2_with fail;refine b4.mono ?_;rintro e eH ⟨rfl,ab⟩;have ar:=kG (a9.out.1.below ab) (Blk.below a9.out.2 ab);have e9:=o.out eH ar.out.1;clear b4 ab a9 cs fn hu;go_wp2_with fail;refine al f ?_;clear f m;generalize cg++eC=eh at*;refine aC 11 (.agg #[.string cF,.string eh,.bool false]) e9 ?hb11 ?_
        case hb11=>exact fun x _=>iq rfl (by simp only[k9,k4,k7];exact bc.out)
        refine aj 12 fun m f=> ?_;have q3:=bAl eH (.cells #[.string Y,.string (strOfNums []),.bool true,.string cF,.string eh,.bool false] 105);have E:=ar.out.1.below q3;have R:=Blk.below ar.out.2 q3;have Z:=(AI eH (dlC Y) (ptC cF eh)).reads;have ad:=o.out _ E;have v:=kG E R;have hz:a5.length+[dlC Y,ptC cF eh].length<=1048576:=by have:=b3.out;simp;omega
        clear q3 R ar e9;go_wp2_with fail;refine al f ?_;clear f m;refine aj 13 fun m f=> ?_;refine iC _ _ rfl w.1.size ak am a5 rfl E.och (some ⟨eH.1.size,0,none⟩) 2 [dlC Y,ptC cF eh] rfl Z hz E.bel.size ?_;intro aw aO kD O H;have J:=kG (v.out.1.app O H) (Blk.chApp v.out.2 v.out.1.och H kN);refine al f ?_;clear f m E O H ad Z v;refine aj 14 fun m f=> ?_;go_wp2_with fail;refine cU f ?_;clear f m o;go_wp2_with fail;go_roundw
        case rel=>exact⟨k+1,aw,aO,by rw[bN.out,<-k5,cv.out,kY];rfl,by rw[<-cr.out];go_num,by go_num,kH,by rw[bN.out,<-k5,cv.out];exact J.out.1,J.out.2⟩
        case measure=>simp[intOf];omega
       ·have fz:k=(g.tx j).ni:=kH;have hE:¬(k:Int)< ((g.tx j).ni:Int):=kH;have dx:=fW (g.tx j);have cf:=kQ (g.tx j);have eW:Hid (av g.tx j=aZ (g.tx j)):=rfl;rw[fz]at cv cr b3;have h3:Hid _:=ba.out.1.out;clear T b5 b0 ia fz ba eL;go_upto_region 24 with fail
        generalize aZ (g.tx j)=D at*;have hb:Hid (txc (r.tv j) (g.tx j)=[.slice (r.tv j).ia (g.tx j).ni (r.tv j).ic,.slice (r.tv j).oa (g.tx j).no (r.tv j).oc,.int .i64 (g.tx j).h]):=rfl;obtain⟨a4,dB⟩:∃s,s=kyM 110 p j:=⟨_,rfl⟩;obtain⟨a0,d7⟩:∃s,s=strOfNums (D++[((g.tx j).no:Int)]):=⟨_,rfl⟩;have dc:Hid (strOfNums (D++[((g.tx j).no:Int)])=a0):=d7.symm;have da:Hid _:=fun x=>AM 110 p (j:Nat) kH kH kH x;have bP:Hid _:=fun x=>gj D x dx cf;have bc:Hid _:=qx a4 a0;rw[<-dB]at da;rw[<-dB,<-d7]at ck;clear dB d7 d0;obtain⟨S,bk⟩:∃S,S=a5++[ptC a4 a0]:=⟨_,rfl⟩;have bd:Hid (S.length=a5.length+1):=by show _= _;rw[bk,kY];rfl
        have bi:Hid (a5++[ptC a4 a0]=S):=bk.symm;have bb:a5.length+[ptC a4 a0].length<=1048576:=by have:=b3.out;simp;omega
        clear bk;go_cut [6] (fun b9 ek=> ∃a c,b9= .slice a S.length c/\XsS w ek a c S a2 a3 es M r g (some ⟨bp,oi,none⟩) bq/\Blk ek 121 bf (txc (r.tv j) (g.tx j)))
        case first=>
         generalize gr:(g.tx j).no=ai at*;have o:Hid (∀x,XsS w x ak am a5 a2 a3 es M r g (some ⟨bp,oi,none⟩) bq->Blk x 121 bf (txc (r.tv j) (g.tx j))->x.cell? ⟨M,64,none⟩=some (.int .i64 p)/\(Instr.loadAt 32 (.pointer (some ⟨bp,oi+j*32,none⟩))).run prog x= .ok (.agg (ob D).toArray) x/\x.cell? ⟨bf,1,none⟩=some (.slice (r.tv j).oa ai (r.tv j).oc)):=fun x hx co=>by
          obtain⟨ab,hN,e,dD⟩:=hx.id ae;cases e;rw[eW.out]at dD;exact⟨by rw[<-cS.out];exact hx.c64,dD,by rw[co.cell 1,hb.out];rfl⟩
         obtain⟨L,Q⟩:∃eq,eq=cL.drew:=⟨_,rfl⟩;have ac:Below cL.1.size cL L:=by rw[Q];exact⟨rfl,rfl,rfl,kE,fun _ _=>rfl⟩
         have a6:=kG (a8.out.1.below ac) (Blk.below a8.out.2 ac);have cs:=o.out L a6.out.1 a6.out.2;clear ac gr;refine ay (fun x=>x.cell? ⟨M,64,none⟩=some (.int .i64 p)/\(Instr.loadAt 32 (.pointer (some ⟨bp,oi+j*32,none⟩))).run prog x= .ok (.agg (ob D).toArray) x/\x.cell? ⟨bf,1,none⟩=some (.slice (r.tv j).oa ai (r.tv j).oc)) (fun k=>decide (19<=k)) kO ?_;rw[<-Q];clear Q;refine aa 0 cs ?_;refine aa 1 cs ?_;refine aa 2 cs ?_;refine aa 3 cs ?_;refine aa 5 cs ?_;refine aa 6 cs ?_;refine aa 7 cs ?_;refine aC 8 (.agg (ob D).toArray) cs ?hl8 ?_
         case hl8=>exact fun x hx=>bO rfl rfl hx.2.1
         refine aa 10 cs ?_;refine aa 11 cs ?_;refine aa 12 cs ?_;refine aC 13 (.int .u8 (ai:Nat)) cs ?hl13 ?_
         case hl13=>exact fun x _=>BC rfl rfl (MN _ kH kH x)
         clear cs;refine cI 4 14 kO rfl rfl (fun m f=> ?bx1a) (fun m f=> ?bx1b)
         case bx1a=>
          rw[qb (show Region.wanted _ _=true from rfl)];have b4:=da.out L;go_wp2_with fail;refine b4.mono ?_;rintro e P ⟨rfl,A⟩;clear b4;have I:=kG (a6.out.1.below A) (Blk.below a6.out.2 A);clear A;go_wp2_with fail;refine f.out _ _ (fun _=>o.out P I.out.1 I.out.2) ?_;clear f m;refine cI 9 14 kO rfl rfl (fun m f=> ?bx2a) (fun m f=> ?bx2b)
          case bx2a=>
           rw[qb (show Region.wanted _ _=true from rfl)];have LO:=bP.out P;go_wp2_with fail;refine LO.mono ?_;rintro e B ⟨bv,bx,rfl,A,W⟩;have G:Hid (Own P.1.size B bv 32 bx D/\P.1.size<=B.1.size/\w.1.size<=P.1.size):=⟨W,A.size,I.out.1.bel.size⟩;clear LO W;have z:=kG (I.out.1.below A) (Blk.below I.out.2 A);clear A;go_wp2_with fail;refine f.out _ _ (fun _=>o.out B z.out.1 z.out.2) ?_;clear f m;refine aj 14 fun m f=> ?_;obtain⟨bu,ag⟩:∃cE,cE=B.alloc (.cells #[.int .u8 (ai:Nat)] 5):=⟨_,rfl⟩;have A:Below B.1.size B bu:=by rw[ag];exact bAl _ _
           have U:Hid (Bs bu (some ⟨B.1.size,0,none⟩) 1 1 [(ai:Int)]):=by rw[ag];exact cZ B _ kH kH
           go_wp2_with fail;rw[<-ag];clear ag;have V:=kG (z.out.1.below A) (Blk.below z.out.2 A);have G:Hid (Own _ bu bv 32 bx D/\_/\_):=⟨Own.below G.out.1 A,k2 G.out.2.1 A.size,G.out.2.2⟩;clear A;refine f.out _ _ (fun _=>o.out bu V.out.1 V.out.2) ?_;clear f m;refine aT 15 kO rfl (fun m f=> ?_);refine fO rfl _ _ rfl _ bv 32 bx D rfl G.out.1 B.1.size 1 1 [(ai:Int)] rfl U.out kH G.out.2.1 ?_;intro hk hl af cc ab g2;have F:=kG (V.out.1.keepU (ab.mono G.out.2.2) (fun kv d3=>bJ G.out.1 g2 d3)) (Blk.keepT V.out.2 (bJ G.out.1 g2 kN));have N:=aP (Own.bs cc (cY cf (fw kH kH)));rw[dc.out]at N;refine f.out _ _ (fun _=>o.out af F.out.1 F.out.2) ?_;clear f m cc ab g2 U G;refine aj 16 fun m f=> ?_;go_wp2_with fail;refine f.out _ _ (fun _=>o.out af F.out.1 F.out.2) ?_;clear f m N;refine aC 17 (.agg #[.string a4,.string a0,.bool false]) (o.out af F.out.1 F.out.2) ?hb17 ?_
           case hb17=>exact fun x _=>iq rfl (by simp only[k9,k4,k7];exact bc.out)
           refine aj 18 fun m f=> ?_;have q3:=bAl af (.cells #[.string a4,.string a0,.bool false] 105);have E:=F.out.1.below q3;have R:=Blk.below F.out.2 q3;have Z:=(iD af (ptC a4 a0)).reads;have ad:=o.out _ E R;have v:=kG E R;clear q3 R;go_wp2_with fail;refine al f ?_;clear f m;refine aj 19 fun m f=> ?_;refine iC _ _ rfl w.1.size ak am a5 rfl E.och (some ⟨af.1.size,0,none⟩) 1 [ptC a4 a0] rfl Z bb E.bel.size ?_;intro aw aO em O H;have J:=kG (v.out.1.app O H) (Blk.chApp v.out.2 v.out.1.och H kN);refine al f ?_;clear f m E O H ad Z v;refine aj 20 fun m f=> ?_;go_wp2_with fail;refine cU f ?_;clear f m;go_wp2
           go_meet
           exact⟨aw,aO,by rw[bd.out],by rw[<-bi.out];exact J.out.1,J.out.2⟩
          case bx2b=>
           rw[qb (show Region.wanted _ _=true from rfl)];obtain⟨B,ag⟩:∃cE,cE=P.alloc (.cells #[.int .u8 (ai:Nat)] 5):=⟨_,rfl⟩;have A:Below P.1.size P B:=by rw[ag];exact bAl _ _
           have U:Hid (Bs B (some ⟨P.1.size,0,none⟩) 1 1 [(ai:Int)]):=by rw[ag];exact cZ P _ kH kH
           go_wp2_with fail;rw[<-ag];clear ag;have z:=kG (I.out.1.below A) (Blk.below I.out.2 A);clear A;refine f.out _ _ (fun _=>o.out B z.out.1 z.out.2) ?_;clear f m;refine aj 9 fun m f=> ?_;have LO:=bP.out B;go_wp2_with fail;refine LO.mono ?_;rintro e bu ⟨bv,bx,rfl,A,W⟩;have G:Hid (Own B.1.size bu bv 32 bx D/\B.1.size<=bu.1.size/\w.1.size<=B.1.size):=⟨W,A.size,z.out.1.bel.size⟩;clear LO W;have V:=kG (z.out.1.below A) (Blk.below z.out.2 A);have U:Hid _:=Bs.below U.out A;clear A;go_wp2_with fail;refine f.out _ _ (fun _=>o.out bu V.out.1 V.out.2) ?_;clear f m;refine aT 15 kO rfl (fun m f=> ?_);refine fO rfl _ _ rfl _ bv 32 bx D rfl G.out.1 P.1.size 1 1 [(ai:Int)] rfl U.out kH G.out.2.1 ?_;intro hk hl af cc ab g2;have F:=kG (V.out.1.keepU (ab.mono G.out.2.2) (fun kv d3=>bJ G.out.1 g2 d3)) (Blk.keepT V.out.2 (bJ G.out.1 g2 kN));have N:=aP (Own.bs cc (cY cf (fw kH kH)));rw[dc.out]at N;refine f.out _ _ (fun _=>o.out af F.out.1 F.out.2) ?_;clear f m cc ab g2 U G;refine aj 16 fun m f=> ?_;go_wp2_with fail;refine f.out _ _ (fun _=>o.out af F.out.1 F.out.2) ?_;clear f m N;refine aC 17 (.agg #[.string a4,.string a0,.bool false]) (o.out af F.out.1 F.out.2) ?hb17 ?_
           case hb17=>exact fun x _=>iq rfl (by simp only[k9,k4,k7];exact bc.out)
           refine aj 18 fun m f=> ?_;have q3:=bAl af (.cells #[.string a4,.string a0,.bool false] 105);have E:=F.out.1.below q3;have R:=Blk.below F.out.2 q3;have Z:=(iD af (ptC a4 a0)).reads;have ad:=o.out _ E R;have v:=kG E R;clear q3 R;go_wp2_with fail;refine al f ?_;clear f m;refine aj 19 fun m f=> ?_;refine iC _ _ rfl w.1.size ak am a5 rfl E.och (some ⟨af.1.size,0,none⟩) 1 [ptC a4 a0] rfl Z bb E.bel.size ?_;intro aw aO em O H;have J:=kG (v.out.1.app O H) (Blk.chApp v.out.2 v.out.1.och H kN);refine al f ?_;clear f m E O H ad Z v;refine aj 20 fun m f=> ?_;go_wp2_with fail;refine cU f ?_;clear f m;go_wp2
           go_meet
           exact⟨aw,aO,by rw[bd.out],by rw[<-bi.out];exact J.out.1,J.out.2⟩
         case bx1b=>
          rw[qb (show Region.wanted _ _=true from rfl)];obtain⟨P,ag⟩:∃cE,cE=L.alloc (.cells #[.int .u8 (ai:Nat)] 5):=⟨_,rfl⟩;have A:Below L.1.size L P:=by rw[ag];exact bAl _ _
          have U:Hid (Bs P (some ⟨L.1.size,0,none⟩) 1 1 [(ai:Int)]):=by rw[ag];exact cZ L _ kH kH
          go_wp2_with fail;rw[<-ag];clear ag;have I:=kG (a6.out.1.below A) (Blk.below a6.out.2 A);clear A;refine f.out _ _ (fun _=>o.out P I.out.1 I.out.2) ?_;clear f m;refine aj 4 fun m f=> ?_;have b4:=da.out P;go_wp2_with fail;refine b4.mono ?_;rintro e B ⟨rfl,A⟩;clear b4;have z:=kG (I.out.1.below A) (Blk.below I.out.2 A);have U:Hid _:=Bs.below U.out A;clear A;go_wp2_with fail;refine f.out _ _ (fun _=>o.out B z.out.1 z.out.2) ?_;clear f m;refine aj 9 fun m f=> ?_;have LO:=bP.out B;go_wp2_with fail;refine LO.mono ?_;rintro e bu ⟨bv,bx,rfl,A,W⟩;have G:Hid (Own B.1.size bu bv 32 bx D/\B.1.size<=bu.1.size/\w.1.size<=B.1.size):=⟨W,A.size,z.out.1.bel.size⟩;clear LO W;have V:=kG (z.out.1.below A) (Blk.below z.out.2 A);have U:Hid _:=Bs.below U.out A;clear A;go_wp2_with fail;refine f.out _ _ (fun _=>o.out bu V.out.1 V.out.2) ?_;clear f m;refine aT 15 kO rfl (fun m f=> ?_);refine fO rfl _ _ rfl _ bv 32 bx D rfl G.out.1 L.1.size 1 1 [(ai:Int)] rfl U.out kH G.out.2.1 ?_;intro hk hl af cc ab g2;have F:=kG (V.out.1.keepU (ab.mono G.out.2.2) (fun kv d3=>bJ G.out.1 g2 d3)) (Blk.keepT V.out.2 (bJ G.out.1 g2 kN));have N:=aP (Own.bs cc (cY cf (fw kH kH)));rw[dc.out]at N;refine f.out _ _ (fun _=>o.out af F.out.1 F.out.2) ?_;clear f m cc ab g2 U G;refine aj 16 fun m f=> ?_;go_wp2_with fail;refine f.out _ _ (fun _=>o.out af F.out.1 F.out.2) ?_;clear f m N;refine aC 17 (.agg #[.string a4,.string a0,.bool false]) (o.out af F.out.1 F.out.2) ?hb17 ?_
          case hb17=>exact fun x _=>iq rfl (by simp only[k9,k4,k7];exact bc.out)
          refine aj 18 fun m f=> ?_;have q3:=bAl af (.cells #[.string a4,.string a0,.bool false] 105);have E:=F.out.1.below q3;have R:=Blk.below F.out.2 q3;have Z:=(iD af (ptC a4 a0)).reads;have ad:=o.out _ E R;have v:=kG E R;clear q3 R;go_wp2_with fail;refine al f ?_;clear f m;refine aj 19 fun m f=> ?_;refine iC _ _ rfl w.1.size ak am a5 rfl E.och (some ⟨af.1.size,0,none⟩) 1 [ptC a4 a0] rfl Z bb E.bel.size ?_;intro aw aO em O H;have J:=kG (v.out.1.app O H) (Blk.chApp v.out.2 v.out.1.och H kN);refine al f ?_;clear f m E O H ad Z v;refine aj 20 fun m f=> ?_;go_wp2_with fail;refine cU f ?_;clear f m;go_wp2
          go_meet
          exact⟨aw,aO,by rw[bd.out],by rw[<-bi.out];exact J.out.1,J.out.2⟩
        case rest=>
         obtain⟨cn,gn,rfl,cC,bs⟩:=hcut;have a7:=kG cC bs;have df:Hid (S.length<=19*j+13):=by show S.length<=_;have:=b3.out;have:=bd.out;omega
         have eP:Hid (∀n,cxO p D (g.tx j).V (j==0) (n+1)=cxO p D (g.tx j).V (j==0) n++[ptC (kyC (D,(n:Int))) (coT ((g.tx j).V n) p (j==0))]):=fun n=>rfl;have eK:Hid (cxO p D (g.tx j).V (j==0) 0=[]):=rfl;have hc:Hid _:=fun n=>qr p D (g.tx j).V (j==0) n;have hv:((j:Int)==0)=(j==0):=by cases j<;>simp<;>omega
         generalize (j==0)=aH at*;clear cC bs a8 bb;go_wp2_with fail;go_loopw [6,20] (fun b9 hW ej=> ∃(n:Nat)(ak:Option Addr)(am:Nat),b9= .slice ak (S++cxO p D (g.tx j).V aH n).length am/\hW= .int .i64 (n:Nat)/\n<=(g.tx j).no/\XsS w ej ak am (S++cxO p D (g.tx j).V aH n) a2 a3 es M r g (some ⟨bp,oi,none⟩) bq/\Blk ej 121 bf (txc (r.tv j) (g.tx j))) (fun _ s _=>(g.tx j).no-(intOf s).toNat)
         case atStart=>exact⟨0,cn,gn,by rw[eK.out,lj],rfl,kX _,by rw[eK.out,lj];exact a7.out.1,a7.out.2⟩
         case round=>
          obtain⟨n,ak,am,rfl,rfl,ik,T,b5⟩:=hrel;obtain⟨eA,rfl⟩:∃x,x=wr:=⟨_,rfl⟩;clear a7;obtain⟨a1,be⟩:∃a1,a1=S++cxO p D (g.tx j).V aH n:=⟨_,rfl⟩;have f4:Hid (a1.length<=19*j+13+n):=by show a1.length<=_;have:=df.out;rw[be,kY,hc.out];omega
          have cu:Hid (S++cxO p D (g.tx j).V aH n=a1):=be.symm;rw[<-be]at T ⊢;clear be;have a8:=kG T b5;have ho:eA.cell? ⟨bf,1,none⟩=some (.slice (r.tv j).oa (g.tx j).no (r.tv j).oc):=b5.cell 1;by_cases dF:n< (g.tx j).no
          ·have ic:(n:Int)< ((g.tx j).no:Int):=kH;obtain⟨b,off,cA,_,_⟩:=(T.bl.reads.txs.each j ae).outs.at_ kH;have i3:=h3.out n dF;have c2:Hid _:=eP.out n;have g8:Hid (∀x,XsS w x ak am a1 a2 a3 es M r g (some ⟨bp,oi,none⟩) bq->x.cell? ⟨b,off+n,none⟩=some (.int .i64 ((g.tx j).V n))):=fun x hx=>by
            obtain⟨ab,hN,e,_,b6⟩:=(hx.bl.reads.txs.each j ae).outs.at_ kH;rw[cA]at e;cases e;have:=b6 n 0 dF kH;simpa [eg]using this
           have hf:Hid (∀x,Blk x 121 bf (txc (r.tv j) (g.tx j))->x.cell? ⟨bf,1,none⟩=some (.slice (some ⟨b,off,none⟩) (g.tx j).no (r.tv j).oc)):=fun x hx=>by rw[<-cA];exact hx.cell 1
           rw[cA]at ho;clear cA T b5 eP;generalize (g.tx j).V n=X at*;go_upto_region 28 with fail
           obtain⟨L,Q⟩:∃eq,eq=eA.drew:=⟨_,rfl⟩;have ac:Below eA.1.size eA L:=by rw[Q];exact⟨rfl,rfl,rfl,kE,fun _ _=>rfl⟩
           have ah:=kG (a8.out.1.below ac) (Blk.below a8.out.2 ac);have o:Hid (∀x,XsS w x ak am a1 a2 a3 es M r g (some ⟨bp,oi,none⟩) bq->Blk x 121 bf (txc (r.tv j) (g.tx j))->x.cell? ⟨bf,1,none⟩=some (.slice (some ⟨b,off,none⟩) (g.tx j).no (r.tv j).oc)/\x.cell? ⟨M,64,none⟩=some (.int .i64 p)/\x.cell? ⟨b,off+n,none⟩=some (.int .i64 X)):=fun x hx co=>⟨hf.out x co,by rw[<-cS.out];exact hx.c64,g8.out x hx⟩;have cs:=o.out L ah.out.1 ah.out.2;have g6:Hid _:=tP X p aH;clear ac ho;refine ay (fun x=>x.cell? ⟨bf,1,none⟩=some (.slice (some ⟨b,off,none⟩) (g.tx j).no (r.tv j).oc)/\x.cell? ⟨M,64,none⟩=some (.int .i64 p)/\x.cell? ⟨b,off+n,none⟩=some (.int .i64 X)) (fun k=>decide (11<=k)) kO ?_;rw[<-Q];clear Q;refine aa 0 cs ?_;refine aa 1 cs ?_;refine aa 2 cs ?_;refine aa 3 cs ?_;refine aa 4 cs ?_;refine aa 5 cs ?_;refine aa 6 cs ?_;refine aa 7 cs ?_;refine aC 8 (.bool aH) cs ?he8 ?_
           case he8=>exact fun x _=>MP rfl rfl rfl r7 hv
           refine aC 9 (.agg #[.int .i64 X,.int .i64 p,.bool aH]) cs ?hb9 ?_
           case hb9=>exact fun x _=>iq rfl (by simp only[k9,k4,k7];exact g6.out)
           obtain⟨cE,ag⟩:∃cE,cE=L.alloc (.cells #[.int .i64 0,.int .i64 0,.bool false] 48):=⟨_,rfl⟩;have cp:Below L.1.size L cE:=by rw[ag];exact bAl _ _
           have d8:Blk cE 48 L.1.size co0:=by rw[ag];exact ao L _ _
           obtain⟨e0,h5,h6,h7,f1,h8,b7⟩:=ma d8 cp kE kF;have hn:=o.out cE (ah.out.1.below cp) (Blk.below ah.out.2 cp);have a9:=kG (ah.out.1.below (b7 (.int .i64 X) (.int .i64 p) (.bool aH)).1) (b7 (.int .i64 X) (.int .i64 p) (.bool aH)).2;have e6:Hid _:=Blk.below ah.out.2 (b7 (.int .i64 X) (.int .i64 p) (.bool aH)).1;clear b7 cp d8;refine aj 10 fun m f=> ?_;go_wp2_with fail;rw[<-ag];clear ag;refine al f ?_;clear f m cs ah;generalize L.1.size=b8 at*;refine aj 11 fun m f=> ?_;go_wp2_with fail;refine cU f ?_;clear f m hn o e0 h5 h6 h7 f1 h8;change Exit.then _ _ _ _ (coS cE b8 (.int .i64 X) (.int .i64 p) (.bool aH));generalize coS cE b8 (.int .i64 X) (.int .i64 p) (.bool aH)=gf at*;go_upto_region 29 with fail
           obtain⟨gc,ds⟩:∃eq,eq=gf.drew:=⟨_,rfl⟩;have ac:Below gf.1.size gf gc:=by rw[ds];exact⟨rfl,rfl,rfl,kE,fun _ _=>rfl⟩
           have ar:=kG (a9.out.1.below ac) (kR (Blk.below a9.out.2 ac) (Blk.below e6.out ac));have o:Hid (∀x,XsS w x ak am a1 a2 a3 es M r g (some ⟨bp,oi,none⟩) bq->Blk x 48 b8 [.int .i64 X,.int .i64 p,.bool aH]->(Instr.loadAt 32 (.pointer (some ⟨bp,oi+j*32,none⟩))).run prog x= .ok (.agg (ob D).toArray) x/\x.cell? ⟨b8,0,none⟩=some (.int .i64 X)/\x.cell? ⟨b8,1,none⟩=some (.int .i64 p)/\x.cell? ⟨b8,2,none⟩=some (.bool aH)):=fun x hx co=>by
            obtain⟨ab,hN,e,dD⟩:=hx.id ae;cases e;rw[eW.out]at dD;exact⟨dD,co.cell 0,co.cell 1,co.cell 2⟩
           have cs:=o.out gc ar.out.1 ar.out.2.1;obtain⟨Y,bj⟩:∃s,s=kyC (D,(n:Int)):=⟨_,rfl⟩;obtain⟨cH,d5⟩:∃s,s=coT X p aH:=⟨_,rfl⟩;have ch:=rq (D,(n:Int)) dx cf (show(0:Int)<=n by omega) (show(n:Int)<256 by omega) gc;have ci:Hid _:=fun x=>L9 X p aH kH i3.2 kH kH x;have g7:Hid _:=lH D (n:Int) dx;have f3:Hid _:=qx Y cH;rw[<-bj]at ch;rw[<-d5]at ci;rw[<-bj,<-d5]at c2;clear bj d5 ac a9 e6;refine ay (fun x=>(Instr.loadAt 32 (.pointer (some ⟨bp,oi+j*32,none⟩))).run prog x= .ok (.agg (ob D).toArray) x/\x.cell? ⟨b8,0,none⟩=some (.int .i64 X)/\x.cell? ⟨b8,1,none⟩=some (.int .i64 p)/\x.cell? ⟨b8,2,none⟩=some (.bool aH)) (fun k=>decide (12<=k)) kO ?_;rw[<-ds];clear ds;refine aa 0 cs ?_;refine aa 1 cs ?_;refine aa 2 cs ?_;refine aa 3 cs ?_;refine aC 4 (.agg (ob D).toArray) cs ?hl4 ?_
           case hl4=>exact fun x hx=>bO rfl rfl hx.1
           refine aa 5 cs ?_;refine aC 6 (.agg (pc (D,(n:Int))).toArray) cs ?hl6 ?_
           case hl6=>exact fun x _=>iq rfl (by simp only[k9,k4,k7];exact g7.out)
           refine aa 8 cs ?_;refine aj 7 fun m f=> ?_;go_wp2_with fail;refine ch.mono ?_;rintro e P ⟨rfl,bw⟩;have v:=kG (ar.out.1.below bw) (kR (Blk.below ar.out.2.1 bw) (Blk.below ar.out.2.2 bw));have g4:=ci.out P;clear ch bw ar cs ci;go_wp2_with fail;refine f.out _ _ (fun _=>o.out P v.out.1 v.out.2.1) ?_;clear f m;refine aj 9 fun m f=> ?_;go_wp2_with fail;refine g4.mono ?_;rintro e B ⟨rfl,ab⟩;have bh:=kG (v.out.1.below ab) (kR (Blk.below v.out.2.1 ab) (Blk.below v.out.2.2 ab));clear g4 ab v;go_wp2_with fail;refine f.out _ _ (fun _=>o.out B bh.out.1 bh.out.2.1) ?_;clear f m;refine aC 10 (.agg #[.string Y,.string cH,.bool false]) (o.out B bh.out.1 bh.out.2.1) ?hb10 ?_
           case hb10=>exact fun x _=>iq rfl (by simp only[k9,k4,k7];exact f3.out)
           refine aj 11 fun m f=> ?_;have cq:=bAl B (.cells #[.string Y,.string cH,.bool false] 105);have dl:=bh.out.1.below cq;have hm:=o.out _ dl (Blk.below bh.out.2.1 cq);have ct:=kG dl (Blk.below bh.out.2.2 cq);have hh:=(iD B (ptC Y cH)).reads;have hB:a1.length+[ptC Y cH].length<=1048576:=by have:=f4.out;simp;omega
           clear cq bh;go_wp2_with fail;refine al f ?_;clear f m;refine aj 12 fun m f=> ?_;refine iC _ _ rfl w.1.size ak am a1 rfl dl.och (some ⟨B.1.size,0,none⟩) 1 [ptC Y cH] rfl hh hB dl.bel.size ?_;intro aw aO kg O H;have J:=kG (ct.out.1.app O H) (Blk.chApp ct.out.2 ct.out.1.och H kN);refine al f ?_;clear f m dl O H hm hh ct;refine aj 13 fun m f=> ?_;go_wp2_with fail;refine cU f ?_;clear f m o;go_wp2_with fail;go_roundw
           case rel=>exact⟨n+1,aw,aO,by rw[c2.out,<-k5,cu.out,kY];rfl,by go_num,kH,by rw[c2.out,<-k5,cu.out];exact J.out.1,J.out.2⟩
           case measure=>simp[intOf];omega
          ·have fM:n=(g.tx j).no:=kH;have il:¬(n:Int)< ((g.tx j).no:Int):=kH;rw[fM]at cu;have b2:Hid (cxL es p g.tx (j+1)=a1):=by show _= _;rw[dd.out.1,ck.out,<-cu.out,<-bi.out,<-cv.out];simp
           have he:Hid (spN g.tx (j+1)=cG):=by show _= _;rw[dd.out.2,cr.out]
           clear T b5 fM ik dF ck dd;go_wp2_with fail;go_roundw
           case rel=>exact⟨j+1,ak,am,by rw[b2.out],by rw[he.out],by go_num,kH,by rw[b2.out];exact a8.out.1⟩
           case measure=>simp[intOf];omega
     ·have hw:j=g.nt:=kH;subst hw;have hE:¬(g.nt:Int)< (g.nt:Int):=kH;have hL:=T.blk;have f0:=IL r g bt T.bl.ok;unfold cK at f0;have cy:=lV g;have ht:=yA g;have eV:Hid (cxE g p=[ptC (kyH 98 p) (strOfNums g.prev),ptC ⟨#[116]⟩ (tpT p (cX g))]):=rfl;have hD:=cT.out g.nt kE;have e3:Hid _:=T;have hd:Hid (∀x,Blk x 113 M (blc r g)->(Instr.loadAt 32 (.pointer (some ⟨M,0,none⟩))).run prog x= .ok (.agg (ob g.prev).toArray) x):=fun x hx=>uh (off:=0) bE.pl (fun q y i4=>by rw[ld,hx.cell];exact lQ r g q y i4);clear T ae dy eN cT e5;generalize cxL es p g.tx g.nt=xs at*;generalize cX g=D at*;generalize bG g.h=ky at*;have cg:(prog.info? 32).map (·.size)=some (ob D).toArray.size:=by rw[aE,cy];exact aJ
      have j1:zH.toArray.size=(ob D).toArray.size:=by rw[aE,cy];rfl
      go_wp2_with (refine qi rfl 113 _ rfl M rfl 113 (blc r g).toArray (0,0) _ hL q7 rfl eb ?_);refine f0.mono ?_;rintro e bg ⟨rfl,bw⟩;have cp:=bAl bg (.cells (ob D).toArray 32);have d8:Blk (bg.alloc (.cells (ob D).toArray 32)) 32 bg.1.size (ob D):=ao bg _ _;have e4:=kG ((e3.out.below bw).below cp) d8;clear f0 bw cp d8 hL e3;go_upto_region 31 with(refine aL rfl 32 _ _ rfl bg zH.toArray (ob D).toArray 32 rfl rfl cg j1 (bQ _) ?_)
      change Code.wp _ _ _ _ (bg.alloc (.cells (ob D).toArray 32));generalize bg.alloc (.cells (ob D).toArray 32)=ge at*;generalize bg.1.size=hJ at*;obtain⟨an,dA⟩:∃s,s=kyH 98 p:=⟨_,rfl⟩;obtain⟨aX,d2⟩:∃s,s=strOfNums g.prev:=⟨_,rfl⟩;obtain⟨ef,d6⟩:∃s,s=tpT p D:=⟨_,rfl⟩;have c4:Hid (strOfNums g.prev=aX):=d2.symm;have c3:Hid _:=bE.pB;have eX:Hid (an=strOfNums [98]++strOfNums (bW p 4)):=by show _= _;rw[dA,jf];rfl
      have ha:Hid _:=fun x=>oA p 4 x kH kH;have bP:Hid _:=fun x=>gj g.prev x bE.pl bE.pB;have ba:Hid _:=fun x=>L6 p D kH cy ht x;have bc:Hid _:=qx an aX;rw[<-d6]at ba;rw[<-dA,<-d2,<-d6]at eV;clear dA d2 d6;obtain⟨S,bk⟩:∃S,S=xs++[ptC an aX]:=⟨_,rfl⟩;have bd:Hid (S.length=xs.length+1):=by show _= _;rw[bk,kY];rfl
      have bi:Hid (xs++[ptC an aX]=S):=bk.symm;have b2:Hid (xs++cxE g p=S++[ptC ⟨#[116]⟩ ef]):=by show _= _;rw[eV.out,bk,k5];rfl
      have bb:xs.length+[ptC an aX].length<=1048576:=by simp;omega
      have df:Hid (S.length<=300):=by show _<=_;have:=bd.out;omega
      clear bk;go_cut [6] (fun b9 ek=> ∃a c,b9= .slice a S.length c/\XsS w ek a c S a2 a3 es M r g er bq/\Blk ek 32 hJ (ob D))
      case first=>
       generalize ku:g.prev=gx at*;have o:Hid (∀x,XsS w x a c xs a2 a3 es M r g er bq->x.cell? ⟨M,64,none⟩=some (.int .i64 p)/\(Instr.loadAt 32 (.pointer (some ⟨M,0,none⟩))).run prog x= .ok (.agg (ob gx).toArray) x):=fun x hx=>⟨by rw[<-cS.out];exact hx.c64,hd.out x hx.blk⟩;obtain⟨L,Q⟩:∃eq,eq=ge.drew:=⟨_,rfl⟩;have ac:Below ge.1.size ge L:=by rw[Q];exact⟨rfl,rfl,rfl,kE,fun _ _=>rfl⟩
       have a6:=kG (e4.out.1.below ac) (Blk.below e4.out.2 ac);have cs:=o.out L a6.out.1;clear ac;obtain⟨ex,cz⟩:∃s,s=strOfNums (bW p 4):=⟨_,rfl⟩;have cR:Hid (strOfNums (bW p 4)=ex):=cz.symm;have hI:ex.size=4:=by rw[cz,rg,km]
       have i1:(strOfNums [98]).size=1:=by rw[rg];rfl
       rw[<-cz]at eX;clear cz;have kn:(⟨#[98]⟩:ByteArray)++ex=an:=eX.out.symm;have fn:¬9223372036854775807< (⟨#[98]⟩:ByteArray).size+ex.size:=by rw[hI];decide
       refine ay (fun x=>x.cell? ⟨M,64,none⟩=some (.int .i64 p)/\(Instr.loadAt 32 (.pointer (some ⟨M,0,none⟩))).run prog x= .ok (.agg (ob gx).toArray) x) (fun k=>decide (12<=k)) kO ?_;rw[<-Q];clear Q;refine aa 0 cs ?_;refine aa 1 cs ?_;refine aa 2 cs ?_;refine aa 6 cs ?_;refine aC 7 (.agg (ob gx).toArray) cs ?hl7 ?_
       case hl7=>exact fun x hx=>bO rfl rfl hx.2
       refine aj 3 fun m f=> ?_;have hg:=ha.out L;go_wp2_with fail;refine hg.mono ?_;rintro e P ⟨kC,rfl,A,hP⟩;have cP:Hid _:=hP;have I:=kG (a6.out.1.below A) (Blk.below a6.out.2 A);clear hg hP A cs;go_wp2_with fail;refine f.out _ _ (fun _=>o.out P I.out.1) ?_;clear f m;refine cI 4 8 kO rfl rfl (fun m f=> ?bz1a) (fun m f=> ?bz1b)
       case bz1a=>
        rw[qb (show Region.wanted _ _=true from rfl)];have N:=aP (Own.bs cP.out (iG _ _));rw[cR.out]at N;go_wp2_with fail;refine f.out _ _ (fun _=>o.out P I.out.1) ?_;clear f m N;refine aa 5 (o.out P I.out.1) ?_;refine aj 8 fun m f=> ?_;have LO:=bP.out P;go_wp2_with fail;refine LO.mono ?_;rintro e B ⟨bv,bx,rfl,A,W⟩;have en:Hid _:=W;have z:=kG (I.out.1.below A) (Blk.below I.out.2 A);clear LO W A;go_wp2_with fail;refine f.out _ _ (fun _=>o.out B z.out.1) ?_;clear f m;refine aj 9 fun m f=> ?_;have N:=aP (Own.bs en.out c3.out);rw[c4.out]at N;go_wp2_with fail;refine f.out _ _ (fun _=>o.out B z.out.1) ?_;clear f m N;refine aC 10 (.agg #[.string an,.string aX,.bool false]) (o.out B z.out.1) ?hb10 ?_
        case hb10=>exact fun x _=>iq rfl (by simp only[k9,k4,k7];exact bc.out)
        refine aj 11 fun m f=> ?_;have q3:=bAl B (.cells #[.string an,.string aX,.bool false] 105);have E:=z.out.1.below q3;have R:=Blk.below z.out.2 q3;have Z:=(iD B (ptC an aX)).reads;have v:=kG E R;have ad:=o.out _ E;clear q3 R;go_wp2_with fail;refine al f ?_;clear f m;refine aj 12 fun m f=> ?_;refine iC _ _ rfl w.1.size a c xs rfl E.och (some ⟨B.1.size,0,none⟩) 1 [ptC an aX] rfl Z bb E.bel.size ?_;intro aw aO em O H;have J:=kG (v.out.1.app O H) (Blk.chApp v.out.2 v.out.1.och H kN);refine al f ?_;clear f m E O H ad Z v;refine aj 13 fun m f=> ?_;go_wp2_with fail;refine cU f ?_;clear f m;go_wp2
        go_meet
        exact⟨aw,aO,by rw[bd.out],by rw[<-bi.out];exact J.out.1,J.out.2⟩
       case bz1b=>
        rw[qb (show Region.wanted _ _=true from rfl)];have LO:=bP.out P;go_wp2_with fail;refine LO.mono ?_;rintro e B ⟨bv,bx,rfl,A,W⟩;have en:Hid _:=W;have z:=kG (I.out.1.below A) (Blk.below I.out.2 A);have cP:Hid _:=Own.below cP.out A;clear LO W A;go_wp2_with fail;refine f.out _ _ (fun _=>o.out B z.out.1) ?_;clear f m;refine cI 4 9 kO rfl rfl (fun m f=> ?bz2a) (fun m f=> ?bz2b)
        case bz2a=>
         rw[qb (show Region.wanted _ _=true from rfl)];have N:=aP (Own.bs cP.out (iG _ _));rw[cR.out]at N;go_wp2_with fail;refine f.out _ _ (fun _=>o.out B z.out.1) ?_;clear f m N;refine aa 5 (o.out B z.out.1) ?_;refine aj 9 fun m f=> ?_;have N:=aP (Own.bs en.out c3.out);rw[c4.out]at N;go_wp2_with fail;refine f.out _ _ (fun _=>o.out B z.out.1) ?_;clear f m N;refine aC 10 (.agg #[.string an,.string aX,.bool false]) (o.out B z.out.1) ?hb10 ?_
         case hb10=>exact fun x _=>iq rfl (by simp only[k9,k4,k7];exact bc.out)
         refine aj 11 fun m f=> ?_;have q3:=bAl B (.cells #[.string an,.string aX,.bool false] 105);have E:=z.out.1.below q3;have R:=Blk.below z.out.2 q3;have Z:=(iD B (ptC an aX)).reads;have v:=kG E R;have ad:=o.out _ E;clear q3 R;go_wp2_with fail;refine al f ?_;clear f m;refine aj 12 fun m f=> ?_;refine iC _ _ rfl w.1.size a c xs rfl E.och (some ⟨B.1.size,0,none⟩) 1 [ptC an aX] rfl Z bb E.bel.size ?_;intro aw aO em O H;have J:=kG (v.out.1.app O H) (Blk.chApp v.out.2 v.out.1.och H kN);refine al f ?_;clear f m E O H ad Z v;refine aj 13 fun m f=> ?_;go_wp2_with fail;refine cU f ?_;clear f m;go_wp2
         go_meet
         exact⟨aw,aO,by rw[bd.out],by rw[<-bi.out];exact J.out.1,J.out.2⟩
        case bz2b=>
         rw[qb (show Region.wanted _ _=true from rfl)];have N:=aP (Own.bs en.out c3.out);rw[c4.out]at N;go_wp2_with fail;refine f.out _ _ (fun _=>o.out B z.out.1) ?_;clear f m N;refine aj 4 fun m f=> ?_;have N:=aP (Own.bs cP.out (iG _ _));rw[cR.out]at N;go_wp2_with fail;refine f.out _ _ (fun _=>o.out B z.out.1) ?_;clear f m N;refine aa 5 (o.out B z.out.1) ?_;refine aC 10 (.agg #[.string an,.string aX,.bool false]) (o.out B z.out.1) ?hb10 ?_
         case hb10=>exact fun x _=>iq rfl (by simp only[k9,k4,k7];exact bc.out)
         refine aj 11 fun m f=> ?_;have q3:=bAl B (.cells #[.string an,.string aX,.bool false] 105);have E:=z.out.1.below q3;have R:=Blk.below z.out.2 q3;have Z:=(iD B (ptC an aX)).reads;have v:=kG E R;have ad:=o.out _ E;clear q3 R;go_wp2_with fail;refine al f ?_;clear f m;refine aj 12 fun m f=> ?_;refine iC _ _ rfl w.1.size a c xs rfl E.och (some ⟨B.1.size,0,none⟩) 1 [ptC an aX] rfl Z bb E.bel.size ?_;intro aw aO em O H;have J:=kG (v.out.1.app O H) (Blk.chApp v.out.2 v.out.1.och H kN);refine al f ?_;clear f m E O H ad Z v;refine aj 13 fun m f=> ?_;go_wp2_with fail;refine cU f ?_;clear f m;go_wp2
         go_meet
         exact⟨aw,aO,by rw[bd.out],by rw[<-bi.out];exact J.out.1,J.out.2⟩
      case rest=>
       obtain⟨cn,gn,rfl,cC,bs⟩:=hcut;have a7:=kG cC bs;have e8:=cC.c64;rw[cS.out]at e8;have hi:=ba.out wc;clear cC;go_wp2_with (refine qi rfl 32 _ rfl hJ rfl 32 (ob D).toArray (0,0) _ bs qa rfl cg ?_);refine hi.mono ?_;rintro e g1 ⟨rfl,dr⟩;have hQ:=bAl g1 (.cells #[.string ⟨#[116]⟩,.string ef,.bool false] 105);have ep:=(a7.out.1.below dr).below hQ;have R8:=(iD g1 (ptC ⟨#[116]⟩ ef)).reads;have jn:=ep.och;have hH:=ep.bel.size;have a9:Hid _:=ep;have dE:S.length+[ptC ⟨#[116]⟩ ef].length<=1048576:=by have:=df.out;simp;omega
       clear hi dr hQ ep e8 bs;go_wp2_with (refine tU rfl _ _ rfl w.1.size cn gn S rfl jn (some ⟨g1.1.size,0,none⟩) 1 [ptC ⟨#[116]⟩ ef] rfl R8 dE hH ?_;rintro aw aO kg O H);have J:=a9.out.app O H
       go_ret2
       rw[bn.out.1,bn.out.2,b2.out];exact⟨aw,aO,by rw[kY];rfl,J.och,J.bel⟩
   ·have hp:(gH !=0)=true:=by simp[bz]
    have bn:Hid _:=cm.out bz;clear bz cl cm c5;go_wp2_with fail
    go_ret2
    rw[bn.out.1,bn.out.2];exact⟨_,_,rfl,bR.out.1,bR.out.2.2.2.2⟩
