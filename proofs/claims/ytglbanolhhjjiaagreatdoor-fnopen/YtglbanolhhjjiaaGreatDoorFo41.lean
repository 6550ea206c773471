import Derived.Test.YtglbanolhhjjiaaGreatDoorFo40
namespace Go.Proofs.YtglbanolhhjjiaaGreatDoor
open Go.Proofs.Tryz
open Go.RowKit
set_option linter.unusedVariables false
set_option maxRecDepth 100000
set_option maxHeartbeats 32000000
section
variable {B0 g:Nat} {rest:List Value} {rt:Int} {w:World} {ns:List NdK} {nv:Nat->NdV} {na:Option Addr} {nc:Nat}
theorem lC(u:World)(x):R1 9 (u.alloc (.cells #[.string x] 9)) (some ⟨u.1.size,0,none⟩) 1 1 (os [x]):=
 ⟨rfl,t6,by unfold maxLen;omega,fun e=>(by cases e),dR _,fun _=>⟨u.1.size,0,rfl,⟨_,_,aq u _ _⟩,fun i b=>by
  have a:i=0:=uA;subst a;exact(aq u 9 #[.string x]).cell 0⟩⟩
theorem yH(u:World)(x y):R1 3 (u.alloc (.cells #[.int .i64 x,.int .i64 y] 3)) (some ⟨u.1.size,0,none⟩) 2 2 (on [x,y]):=
 ⟨rfl,t6,by unfold maxLen;omega,fun e=>(by cases e),fw _,fun _=>⟨u.1.size,0,rfl,⟨_,_,aq u _ _⟩,fun i a=>by
  have h:=(aq u 3 #[.int .i64 x,.int .i64 y]).cell i;rw[wE,h];rcases(show i=0\/i=1 by omega)with rfl|rfl<;>rfl⟩⟩
theorem Hg(a3:USt B0 g rest (-1) w ns nv na nc)(ba:ns.length<=1048574){k v}(ac:eOk (k,v)):
 Calls prog 98 #[.pointer (some ⟨g,0,none⟩),.agg (fH k v false)] w fun e w'=>ChP B0 g rest na w ns 1 (some (0,.leaf 0 [(k,v)]),true) e w':=by
 obtain⟨J,H⟩:=aa (w.alloc (.cells (fH k v false) 161));have V:Below w.1.size w J:=by rw[H];exact bAl _ _
 have am:Blk J 161 w.1.size [.string k,.string v,.bool false]:=by rw[H];exact aq w _ _
 have a6:J.cell? ⟨w.1.size,2,none⟩=some (.bool false):=am.cell 2;have f:=a3.below V;have a5:J.cell? ⟨g,1,none⟩=some (.int .i64 (-1)):=f.blk.cell 1;have X:Hid _:=f;unfold fH at*;go_enter func98,ntmps98;go_upto_region 1 with fail
 change Code.wp _ _ _ _ (w.alloc (.cells #[.string k,.string v,.bool false] 161));rw[<-H];clear H a3 f;go_upto_region 12 with fail
 have T:=bDr J;have P:=X.out.below T;have U:=am.below T;have j:=V.trans (T.mono V.size);refine az (fun u=>u.cell? ⟨g,0,none⟩=some (.slice na ns.length nc)/\u.cell? ⟨w.1.size,0,none⟩=some (.string k)/\u.cell? ⟨w.1.size,1,none⟩=some (.string v)) (fun k=>decide (14<=k)) vk ?_;clear T am a5 a6 V X;generalize J.drew=E at*;have cs:E.cell? ⟨g,0,none⟩=some (.slice na ns.length nc)/\E.cell? ⟨w.1.size,0,none⟩=some (.string k)/\E.cell? ⟨w.1.size,1,none⟩=some (.string v):=⟨P.blk.cell 0,U.cell 0,U.cell 1⟩;have z:=uv P (vJ U j);clear P U j;refine au 0 cs ?_;refine au 1 cs ?_;refine au 2 cs ?_;refine au 3 cs ?_;refine au 4 cs ?_;refine au 5 cs ?_;refine au 6 cs ?_;refine au 8 cs ?_;refine au 9 cs ?_;refine fQ 7 10 vk rfl rfl (fun d a=> ?_) (fun d a=> ?_);rw[B4 (show Region.wanted _ _=true from rfl)];obtain⟨C,p⟩:=aa E.1.size;obtain⟨c,m⟩:=aa (E.alloc (.cells #[.string k] 9));have o:Below E.1.size E c:=by rw[m];exact bAl _ _
 have N:R1 9 c (some ⟨C,0,none⟩) 1 1 (os [k]):=by rw[m,p];exact lC E k
 refine bU _ _ _ rfl (v:= .slice (some ⟨C,0,none⟩) 1 1) (w':=c) ?bs1 ?_
 case bs1=>
  simp only[wB,ws,wz];rw[m,p];exact ey bM (.string k) rfl E
 have f:=z.out.1.below o;have x:=z.out.2.1.below o;have A:c.cell? ⟨g,0,none⟩=some (.slice na ns.length nc)/\c.cell? ⟨w.1.size,0,none⟩=some (.string k)/\c.cell? ⟨w.1.size,1,none⟩=some (.string v):=⟨f.blk.cell 0,x.cell 0,x.cell 1⟩;refine a.out _ _ (fun _=>A) ?_;clear a d m p;obtain⟨D,q⟩:=aa c.1.size;obtain⟨b,l⟩:=aa (c.alloc (.cells #[.string v] 9));have j:Below c.1.size c b:=by rw[l];exact bAl _ _
 have O:R1 9 b (some ⟨D,0,none⟩) 1 1 (os [v]):=by rw[l,q];exact lC c v
 refine ah 10 fun d a=> ?_;refine bU _ _ _ rfl (v:= .slice (some ⟨D,0,none⟩) 1 1) (w':=b) ?bs2 ?_
 case bs2=>
  simp only[wB,ws,wz];rw[l,q];exact ey bM (.string v) rfl c
 have r:=f.below j;have y:=x.below j;have B:b.cell? ⟨g,0,none⟩=some (.slice na ns.length nc)/\b.cell? ⟨w.1.size,0,none⟩=some (.string k)/\b.cell? ⟨w.1.size,1,none⟩=some (.string v):=⟨r.blk.cell 0,y.cell 0,y.cell 1⟩;refine a.out _ _ (fun _=>B) ?_;clear a d l q;have W:RNd b ⟨some ⟨C,0,none⟩,1,some ⟨D,0,none⟩,1,none,0,none,0⟩ (ndL 0 [(k,v)]):=⟨N.below j,O,gh _ _,gh _ _⟩;have ag:Below w.1.size w b:=z.out.2.2.trans ((o.trans (j.mono o.size)).mono z.out.2.2.size);clear o j N O f x A cs
 rotate_left
 rw[B4 (show Region.wanted _ _=true from rfl)];obtain⟨D,q⟩:=aa E.1.size;obtain⟨c,m⟩:=aa (E.alloc (.cells #[.string v] 9));have o:Below E.1.size E c:=by rw[m];exact bAl _ _
 have N:R1 9 c (some ⟨D,0,none⟩) 1 1 (os [v]):=by rw[m,q];exact lC E v
 refine bU _ _ _ rfl (v:= .slice (some ⟨D,0,none⟩) 1 1) (w':=c) ?bs1 ?_
 case bs1=>
  simp only[wB,ws,wz];rw[m,q];exact ey bM (.string v) rfl E
 have f:=z.out.1.below o;have x:=z.out.2.1.below o;have A:c.cell? ⟨g,0,none⟩=some (.slice na ns.length nc)/\c.cell? ⟨w.1.size,0,none⟩=some (.string k)/\c.cell? ⟨w.1.size,1,none⟩=some (.string v):=⟨f.blk.cell 0,x.cell 0,x.cell 1⟩;refine a.out _ _ (fun _=>A) ?_;clear a d m q;obtain⟨C,p⟩:=aa c.1.size;obtain⟨b,l⟩:=aa (c.alloc (.cells #[.string k] 9));have j:Below c.1.size c b:=by rw[l];exact bAl _ _
 have O:R1 9 b (some ⟨C,0,none⟩) 1 1 (os [k]):=by rw[l,p];exact lC c k
 refine ah 7 fun d a=> ?_;refine bU _ _ _ rfl (v:= .slice (some ⟨C,0,none⟩) 1 1) (w':=b) ?bs2 ?_
 case bs2=>
  simp only[wB,ws,wz];rw[l,p];exact ey bM (.string k) rfl c
 have r:=f.below j;have y:=x.below j;have B:b.cell? ⟨g,0,none⟩=some (.slice na ns.length nc)/\b.cell? ⟨w.1.size,0,none⟩=some (.string k)/\b.cell? ⟨w.1.size,1,none⟩=some (.string v):=⟨r.blk.cell 0,y.cell 0,y.cell 1⟩;refine a.out _ _ (fun _=>B) ?_;clear a d l p;have W:RNd b ⟨some ⟨C,0,none⟩,1,some ⟨D,0,none⟩,1,none,0,none,0⟩ (ndL 0 [(k,v)]):=⟨O,N.below j,gh _ _,gh _ _⟩;have ag:Below w.1.size w b:=z.out.2.2.trans ((o.trans (j.mono o.size)).mono z.out.2.2.size);clear o j N O f x A cs
 all_goals
  obtain⟨s,K⟩:=aa ((⟨some ⟨C,0,none⟩,1,some ⟨D,0,none⟩,1,none,0,none,0⟩:NdV));refine aM 11 (.agg (ndc s (ndL 0 [(k,v)])).toArray) B ?hb11 ?_
  case hb11=>exact fun u _=>lm rfl (by simp only[wB,ws,wz];rw[K];exact xQ _ _ _ _ _ _)
  rw[<-K]at W;clear K;generalize ab:ndL 0 [(k,v)]=n at*;have M:=bAl b (.cells (ndc s n).toArray 176);have Z:(b.alloc (.cells (ndc s n).toArray 176)).cell? ⟨g,0,none⟩=some (.slice na ns.length nc)/\(b.alloc (.cells (ndc s n).toArray 176)).cell? ⟨w.1.size,0,none⟩=some (.string k)/\(b.alloc (.cells (ndc s n).toArray 176)).cell? ⟨w.1.size,1,none⟩=some (.string v):=⟨(r.below M).blk.cell 0,(y.below M).cell 0,(y.below M).cell 1⟩;have i:=uv r (vJ W (vJ ag (y.below M)));have ap:Hid _:=ab;have a0:=r.gB;clear r W y M ag ab;refine ah 12 fun d a=> ?_;refine bU _ _ _ rfl (v:= .slice (some ⟨b.1.size,0,none⟩) 1 1) (w':=(b.alloc (.cells (ndc s n).toArray 176))) ?bsp ?_
  case bsp=>
   simp only[wB,ws,wz];exact fq eY uA (.agg (ndc s n).toArray) (ndc s n) rfl rfl b
  refine a.out _ _ (fun _=>Z) ?_;clear a d;refine ah 13 fun d a=> ?_;refine gW _ _ eY rfl B0 na ns.length nc (cd nv ns) rfl i.out.1.nodes (ndc s n) rfl (eo _ _) rfl uA uA a0 ?_;intro F S Q a2 aA G Y;have an:∀t,176≠t->KeepT t (b.alloc (.cells (ndc s n).toArray 176)) Q:=fun t a8=>bD (bQ i.out.1.nodes (bAl _ _)) G a8;have L:=i.out.2.2.2.keepT (an _ uB);have ak:Blk Q 116 g _:=(i.out.1.blk.below (bAl _ _)).keepT (an _ uB);have aB:Q.cell? ⟨g,0,none⟩=some (.slice na ns.length nc):=ak.cell 0;refine a.out _ _ (fun _=>⟨aB,L.cell 0,L.cell 1⟩) ?_;clear a d;have ae:=i.out.1.push i.out.2.1 a2 aA G;have aS:=UFr.push (u:= .slice (some ⟨F,0,none⟩) (ns.length+1) S) i.out.1 G;have aX:=ak.free 0;have ad:some (⟨F,0,none⟩:Addr)=na\/∃k,some (⟨F,0,none⟩:Addr)=some ⟨k,0,none⟩/\w.1.size<=k:=by
   rcases Y with e|e
   ·exact v7 e.symm
   ·exact v6 ⟨F,rfl,by have:=i.out.2.2.1.size;omega⟩
  have aT:UFr g na w (Q.setCell ⟨g,0,none⟩ (.slice (some ⟨F,0,none⟩) (ns.length+1) S)):=(OnlyS.ofBelow i.out.2.2.1).trans aS;have I:=uv ae (vJ aT ad);clear ae aS ak a2 aA G Y Z L aT ad an;refine ah 14 fun d a=> ?_;go_wp2_with fail;refine ao a ?_;clear a d;refine ah 15 fun d a=> ?_;go_wp2_with fail;refine ao a ?_;clear a d;refine ah 16 fun d a=> ?_;go_wp2_with fail;refine aU a ?_;clear a d aB aX B;generalize Q.setCell ⟨g,0,none⟩ (.slice (some ⟨F,0,none⟩) (ns.length+1) S)=R at*;have d0:R.cell? ⟨g,0,none⟩=some (.slice (some ⟨F,0,none⟩) (ns.length+1) S):=by have:=I.out.1.blk.cell 0;rw[wb]at this;exact this
  have bb:R.cell? ⟨g,1,none⟩=some (.int .i64 (-1)):=I.out.1.blk.cell 1;have a9:=I.out.1.blk.free 1;have af:=I.out.1.setRt (ns.length:Nat);have a4:Hid (UQ B0 g rest (ns.length:Nat) na w (R.setCell ⟨g,1,none⟩ (.int .i64 (ns.length:Nat))) (ns++[n])):=af.uq (I.out.2.1.trans ((OnlyS.ofB (ax R g 1 _)).mono (fun k _ a7=>v7 a7))) I.out.2.2;clear af;go_wp2_with fail;go_ret;refine⟨rfl,(ns.length:Nat),ns++[n],by have:=a4.out;simpa using this,?_,vo,vo⟩;refine⟨dA.2 ⟨vo,fun e a1=>by simp at a1;subst a1;exact ac,by have:=mw ac;simp[lSz];omega⟩,[ns.length],?_,vo⟩;rw[SRep];exact⟨ns.length,rfl,rfl,by rw[<-ap.out];simp⟩
end
section
variable {B0 g:Nat} {rest:List Value} {rt:Int} {w:World} {ns:List NdK} {nv:Nat->NdV} {na:Option Addr} {nc:Nat}
theorem yI{t e bytes o}(T:ElT t e 1 o bytes)(x y)(hx:x.cells=#[x])(m:y.cells=#[y])(w):
 (Instr.buildSlice t 2 #[(0,x),(1,y)]).run prog w= .ok (.slice (some ⟨w.1.size,0,none⟩) 2 2) (w.alloc (.cells #[x,y] e)):=by
 obtain⟨i,k,c,d,n⟩:=DB T.inf;have f:=T.cells;have j:∀Z:Array Value,Z.size=2->Instr.fill (fun i=>some (i*1,1)) Z [(0,x),(1,y)]=some #[x,y]:=fun Z g=>by
  rw[pT _ Z 0 0 x [x] _ vo (by rw[hx]) (by simp;omega),pT _ _ 1 1 y [y] [] vo (by rw[m]) (by simp;omega)];obtain⟨l⟩:=Z
  match l,g with
  |[a,b],_=>simp[Instr.fill]
  |[],h=>simp at h
  |[_],h=>simp at h
  |_::_::_::_,h=>simp at h
 simp[Instr.buildSlice,Sem.run_bind,run_underlying T.und w,sizeOf,typeInfo,k,d,zeroValue,c];rw[show(fun i:Nat=>some (i,1))=(fun i=>some (i*1,1))by funext i;simp,j _ (by simp[f])];simp[newRow,go_sem]
theorem Hh(b9:USt B0 g rest rt w ns nv na nc){n t}(cj:UO ns rt (some (n,t)))(cp:ns.length+n<=1048572){k v}(bg:eOk (k,v)):
 Calls prog 98 #[.pointer (some ⟨g,0,none⟩),.agg (fH k v false)] w fun e w'=>ChP B0 g rest na w ns (n+2) (chg k v false (some (n,t))) e w':=by
 obtain⟨a3,P,bx,ak⟩:=cj;have bs:=uv (rl bg a3) ak;obtain⟨p,G,cf,e0⟩:=bx.root a3;simp only[List.cons.injEq,Prod.mk.injEq,true_and,and_true]at e0;subst e0;have X:Hid (chg k v false (some (n,t))=match dh k v n t with|(u,none)=>(some (n,u),true)|(u,some x)=>(some (n+1,.node 0 (kds [(strOfNums [],u),x])),true)):=by
  show _= _;rw[chg,CH uB];generalize dh k v n t=r;obtain⟨u,o⟩:=r;cases o<;>rfl
 generalize chg k v false (some (n,t))=cv at*;obtain⟨af,ab⟩:=aa (w.alloc (.cells (fH k v false) 161));have a6:Below w.1.size w af:=by rw[ab];exact bAl _ _
 have bz:Blk af 161 w.1.size [.string k,.string v,.bool false]:=by rw[ab];exact aq w _ _
 have ce:af.cell? ⟨w.1.size,2,none⟩=some (.bool false):=bz.cell 2;have aT:=b9.below a6;have cc:af.cell? ⟨g,1,none⟩=some (.int .i64 (p:Nat)):=aT.blk.cell 1;have cq:¬(p:Int)<0:=uA;have a8:Hid _:=aT;unfold fH at*;go_enter func98,ntmps98;go_upto_region 1 with fail
 change Code.wp _ _ _ _ (w.alloc (.cells #[.string k,.string v,.bool false] 161));rw[<-ab];clear ab b9 aT;go_upto_region 15 with fail
 have S:=bDr af;have ac:=a8.out.below S;have a4:=bz.below S;have m:=a6.trans (S.mono a6.size);refine az (fun u=>u.cell? ⟨g,1,none⟩=some (.int .i64 (p:Nat))/\u.cell? ⟨w.1.size,0,none⟩=some (.string k)/\u.cell? ⟨w.1.size,1,none⟩=some (.string v)) (fun k=>decide (14<=k)) vk ?_;clear S bz cc ce a6 a8;generalize af.drew=ca at*;have cs:ca.cell? ⟨g,1,none⟩=some (.int .i64 (p:Nat))/\ca.cell? ⟨w.1.size,0,none⟩=some (.string k)/\ca.cell? ⟨w.1.size,1,none⟩=some (.string v):=⟨ac.blk.cell 1,a4.cell 0,a4.cell 1⟩;have bE:=FM bg n t a3 ca ns nv na nc P p ac bx ak uA;have K:=uv ac (vJ a4 m);clear ac a4 m a3 bx ak cf;refine au 0 cs ?_;refine au 1 cs ?_;refine au 2 cs ?_;refine au 3 cs ?_;refine au 4 cs ?_;refine au 5 cs ?_;refine au 6 cs ?_;refine au 7 cs ?_;refine au 8 cs ?_;refine ah 9 fun c a=> ?_;go_wp2_with fail;refine bE.mono ?_;rintro e Z bZ;clear bE;obtain⟨ms,P',cg,b4,b1,cm,b0,bY⟩:=bZ;obtain⟨y,R,sg,rfl,bd,bc,am,W⟩:=xZ bY;obtain⟨b7,j,B,aX,bu,bk⟩:=cg;have bA:Blk Z 161 w.1.size [.string k,.string v,.bool false]:=K.out.2.1.keepT (K.out.1.keepT bu uB uB);have M:Z.cell? ⟨g,1,none⟩=some (.int .i64 (p:Nat))/\Z.cell? ⟨w.1.size,0,none⟩=some (.string k)/\Z.cell? ⟨w.1.size,1,none⟩=some (.string v):=⟨aX.blk.cell 1,bA.cell 0,bA.cell 1⟩;have ag:j=na\/∃k,j=some ⟨k,0,none⟩/\w.1.size<=k:=xO (v7 rfl) bk K.out.2.2.size;have T:=uv aX (vJ ((OnlyS.ofBelow K.out.2.2).trans bu) ag);have U:=uv b0 (vJ bd bc);clear aX bu bk ag b0 bd bc bY bA b4 cs K;go_wp2_with fail;refine a.out _ _ (fun _=>M) ?_;clear a c;refine au 10 M ?_;refine au 11 M ?_;refine au 12 M ?_;refine ah 13 fun c a=> ?_;go_wp2_with fail;refine a.out _ _ (fun _=>M) ?_;clear a c;refine ah 14 fun c a=> ?_;go_wp2_with fail;refine aU a ?_;clear a c;generalize bm:dh k v n t=r at*;obtain⟨u,o⟩:=r;cases o with
 |none=>
  obtain rfl:=am rfl;clear W am bm;go_wp2_with fail;go_ret;refine⟨by rw[X.out];rfl,(p:Nat),ms,T.out.1.uq T.out.2.1 T.out.2.2,?_,b1,uA⟩;rw[X.out];refine⟨bs.out.1.1,P',U.out.1,?_⟩;have:=U.out.2.2.1;exact(z8.1 this).1
 |some x=>
  obtain⟨b5,rfl⟩:=W x rfl;clear W am bm;obtain⟨y,rfl⟩:=x2 b5;have cr:(0:Int)<=(y:Int):=uA;have cn:ms.length<=1048575:=uA;go_upto_region 17 with fail
  have S:=bDr Z;have ad:=T.out.1.below S;have bR:UFr g na w Z.drew:=T.out.2.1.trans (OnlyS.ofBelow S);refine az (fun u=>u.cell? ⟨g,0,none⟩=some (.slice j ms.length B)/\u.cell? ⟨g,1,none⟩=some (.int .i64 (p:Nat))) (fun k=>decide (16<=k)) vk ?_;clear S M;generalize Z.drew=l at*;have cs:l.cell? ⟨g,0,none⟩=some (.slice j ms.length B)/\l.cell? ⟨g,1,none⟩=some (.int .i64 (p:Nat)):=⟨ad.blk.cell 0,ad.blk.cell 1⟩;have K:=uv ad bR;clear ad bR;refine aj 0 cs ?_;refine aj 1 cs ?_;refine aj 2 cs ?_;refine aj 3 cs ?_;refine aj 4 cs ?_;refine aj 5 cs ?_;refine aj 6 cs ?_;refine aj 7 cs ?_;refine aj 8 cs ?_;refine aj 9 cs ?_;refine aj 11 cs ?_;refine fQ 10 12 vk rfl rfl (fun c a=> ?_) (fun c a=> ?_);rw[B4 (show Region.wanted _ _=true from rfl)];obtain⟨O,I⟩:=aa l.1.size;obtain⟨d,A⟩:=aa (l.alloc (.cells #[.int .i64 (p:Nat),.int .i64 (y:Nat)] 3));have E:Below l.1.size l d:=by rw[A];exact bAl _ _
  have aB:R1 3 d (some ⟨O,0,none⟩) 2 2 (on [(p:Nat),(y:Nat)]):=by rw[A,I];exact yH l (p:Nat) (y:Nat)
  refine bU _ _ _ rfl (v:= .slice (some ⟨O,0,none⟩) 2 2) (w':=d) ?bsX6 ?_
  case bsX6=>
   simp only[wB,ws,wz];rw[A,I];exact yI co (.int .i64 (p:Nat)) (.int .i64 (y:Nat)) rfl rfl l
  have i:=K.out.1.below E;have H:d.cell? ⟨g,0,none⟩=some (.slice j ms.length B)/\d.cell? ⟨g,1,none⟩=some (.int .i64 (p:Nat)):=⟨i.blk.cell 0,i.blk.cell 1⟩;refine a.out _ _ (fun _=>H) ?_;clear a c A I;refine ah 12 fun c a=> ?_;obtain⟨Q,J⟩:=aa d.1.size;obtain⟨b,z⟩:=aa (d.alloc (.cells #[.string x.1] 9));have m:Below d.1.size d b:=by rw[z];exact bAl _ _
  have aS:R1 9 b (some ⟨Q,0,none⟩) 1 1 (os [x.1]):=by rw[z,J];exact lC d x.1
  refine bU _ _ _ rfl (v:= .slice (some ⟨Q,0,none⟩) 1 1) (w':=b) ?bsVP ?_
  case bsVP=>
   simp only[wB,ws,wz];rw[z,J];exact ey bM (.string x.1) rfl d
  have f:=i.below m;have F:b.cell? ⟨g,0,none⟩=some (.slice j ms.length B)/\b.cell? ⟨g,1,none⟩=some (.int .i64 (p:Nat)):=⟨f.blk.cell 0,f.blk.cell 1⟩;refine a.out _ _ (fun _=>F) ?_;clear a c z J;have a7:RNd b ⟨none,0,none,0,some ⟨O,0,none⟩,2,some ⟨Q,0,none⟩,1⟩ (ndI 0 [(strOfNums [],(p:Nat)),(x.1,(y:Nat))]):=⟨gh _ _,gh _ _,aB.below m,aS⟩;have bv:UFr g na w b:=K.out.2.trans (OnlyS.ofBelow (E.trans (m.mono E.size)));have aA:l.1.size<=b.1.size:=wg E.size m.size;clear E m aB aS i H cs
  rotate_left
  rw[B4 (show Region.wanted _ _=true from rfl)];obtain⟨Q,J⟩:=aa l.1.size;obtain⟨d,A⟩:=aa (l.alloc (.cells #[.string x.1] 9));have E:Below l.1.size l d:=by rw[A];exact bAl _ _
  have aB:R1 9 d (some ⟨Q,0,none⟩) 1 1 (os [x.1]):=by rw[A,J];exact lC l x.1
  refine bU _ _ _ rfl (v:= .slice (some ⟨Q,0,none⟩) 1 1) (w':=d) ?bsX6 ?_
  case bsX6=>
   simp only[wB,ws,wz];rw[A,J];exact ey bM (.string x.1) rfl l
  have i:=K.out.1.below E;have H:d.cell? ⟨g,0,none⟩=some (.slice j ms.length B)/\d.cell? ⟨g,1,none⟩=some (.int .i64 (p:Nat)):=⟨i.blk.cell 0,i.blk.cell 1⟩;refine a.out _ _ (fun _=>H) ?_;clear a c A J;refine ah 10 fun c a=> ?_;obtain⟨O,I⟩:=aa d.1.size;obtain⟨b,z⟩:=aa (d.alloc (.cells #[.int .i64 (p:Nat),.int .i64 (y:Nat)] 3));have m:Below d.1.size d b:=by rw[z];exact bAl _ _
  have aS:R1 3 b (some ⟨O,0,none⟩) 2 2 (on [(p:Nat),(y:Nat)]):=by rw[z,I];exact yH d (p:Nat) (y:Nat)
  refine bU _ _ _ rfl (v:= .slice (some ⟨O,0,none⟩) 2 2) (w':=b) ?bsVP ?_
  case bsVP=>
   simp only[wB,ws,wz];rw[z,I];exact yI co (.int .i64 (p:Nat)) (.int .i64 (y:Nat)) rfl rfl d
  have f:=i.below m;have F:b.cell? ⟨g,0,none⟩=some (.slice j ms.length B)/\b.cell? ⟨g,1,none⟩=some (.int .i64 (p:Nat)):=⟨f.blk.cell 0,f.blk.cell 1⟩;refine a.out _ _ (fun _=>F) ?_;clear a c z I;have a7:RNd b ⟨none,0,none,0,some ⟨O,0,none⟩,2,some ⟨Q,0,none⟩,1⟩ (ndI 0 [(strOfNums [],(p:Nat)),(x.1,(y:Nat))]):=⟨gh _ _,gh _ _,aS,aB.below m⟩;have bv:UFr g na w b:=K.out.2.trans (OnlyS.ofBelow (E.trans (m.mono E.size)));have aA:l.1.size<=b.1.size:=wg E.size m.size;clear E m aB aS i H cs
  all_goals
   obtain⟨N,an⟩:=aa ((⟨none,0,none,0,some ⟨O,0,none⟩,2,some ⟨Q,0,none⟩,1⟩:NdV));refine aM 13 (.agg (ndc N (ndI 0 [(strOfNums [],(p:Nat)),(x.1,(y:Nat))])).toArray) F ?hb11 ?_
   case hb11=>exact fun u _=>lm rfl (by simp only[wB,ws,wz];rw[an];exact xR _ _ _ _ _ _)
   rw[<-an]at a7;clear an;generalize bb:ndI 0 [(strOfNums [],(p:Nat)),(x.1,(y:Nat))]=D at*;have bB:=bAl b (.cells (ndc N D).toArray 176);have ba:(b.alloc (.cells (ndc N D).toArray 176)).cell? ⟨g,0,none⟩=some (.slice j ms.length B)/\(b.alloc (.cells (ndc N D).toArray 176)).cell? ⟨g,1,none⟩=some (.int .i64 (p:Nat)):=⟨(f.below bB).blk.cell 0,(f.below bB).blk.cell 1⟩;have C:=uv f (vJ a7 (vJ bv aA));have bC:Hid _:=bb;have bX:=f.gB;clear f a7 bB bv aA bb;refine ah 14 fun c a=> ?_;refine bU _ _ _ rfl (v:= .slice (some ⟨b.1.size,0,none⟩) 1 1) (w':=(b.alloc (.cells (ndc N D).toArray 176))) ?bsp ?_
   case bsp=>
    simp only[wB,ws,wz];exact fq eY uA (.agg (ndc N D).toArray) (ndc N D) rfl rfl b
   refine a.out _ _ (fun _=>ba) ?_;clear a c;refine ah 15 fun c a=> ?_;refine gW _ _ eY rfl B0 j ms.length B (cd b7 ms) rfl C.out.1.nodes (ndc N D) rfl (eo _ _) rfl uA uA bX ?_;intro V a2 a0 b8 bF Y a9;have b6:∀t,176≠t->KeepT t (b.alloc (.cells (ndc N D).toArray 176)) a0:=fun t ck=>bD (bQ C.out.1.nodes (bAl _ _)) Y ck;have a5:Blk a0 116 g _:=(C.out.1.blk.below (bAl _ _)).keepT (b6 _ uB);have bP:a0.cell? ⟨g,0,none⟩=some (.slice j ms.length B):=a5.cell 0;refine a.out _ _ (fun _=>⟨bP,a5.cell 1⟩) ?_;clear a c;have bn:=C.out.1.push C.out.2.1 b8 bF Y;have bS:=UFr.push (u:= .slice (some ⟨V,0,none⟩) (ms.length+1) a2) C.out.1 Y;have bW:=a5.free 0;have bl:some (⟨V,0,none⟩:Addr)=na\/∃k,some (⟨V,0,none⟩:Addr)=some ⟨k,0,none⟩/\w.1.size<=k:=by
    rcases a9 with e|e
    ·rw[<-e];exact T.out.2.2
    ·exact v6 ⟨V,rfl,by have:=C.out.2.2.1.size;omega⟩
   have bT:UFr g na w (a0.setCell ⟨g,0,none⟩ (.slice (some ⟨V,0,none⟩) (ms.length+1) a2)):=C.out.2.2.1.transN bS (fun q b2 L=>by
    rcases L with L|L
    ·exact v7 L
    ·rcases T.out.2.2 with e|⟨q2,e,hq2⟩
     ·exact v6 (by rw[<-e];exact L)
     ·rw[e]at L;cases L;omega)
   have ae:=uv bn (vJ bT bl);clear bn bS a5 b8 bF Y a9 ba bT bl b6;refine ah 16 fun c a=> ?_;go_wp2_with fail;refine ao a ?_;clear a c;refine ah 17 fun c a=> ?_;go_wp2_with fail;refine ao a ?_;clear a c;refine ah 18 fun c a=> ?_;go_wp2_with fail;refine aU a ?_;clear a c bP bW F;generalize a0.setCell ⟨g,0,none⟩ (.slice (some ⟨V,0,none⟩) (ms.length+1) a2)=a1 at*;have d0:a1.cell? ⟨g,0,none⟩=some (.slice (some ⟨V,0,none⟩) (ms.length+1) a2):=by have:=ae.out.1.blk.cell 0;rw[wb]at this;exact this
   have cz:a1.cell? ⟨g,1,none⟩=some (.int .i64 (p:Nat)):=ae.out.1.blk.cell 1;have cl:=ae.out.1.blk.free 1;have br:=ae.out.1.setRt (ms.length:Nat);have cb:Hid (UQ B0 g rest (ms.length:Nat) na w (a1.setCell ⟨g,1,none⟩ (.int .i64 (ms.length:Nat))) (ms++[D])):=br.uq (ae.out.2.1.trans ((OnlyS.ofB (ax a1 g 1 _)).mono (fun k _ ch=>v7 ch))) ae.out.2.2;clear br;go_wp2_with fail;go_ret;refine⟨by rw[X.out];rfl,(ms.length:Nat),ms++[D],by have:=cb.out;simpa using this,?_,by simp;omega,by simp;omega⟩;rw[X.out];have ap:=bs.out.1.2 x rfl;refine⟨bq.2 ⟨vo,fun cA L=> ?_,fun s b3=> ?_,?_⟩,ms.length::(P'++R),?_,?_⟩
   ·simp at L;rcases L with rfl|rfl;exact bs.out.1.1;exact ap.1
   ·simp[sgs]at b3;subst b3;exact ap.2
   ·have:=kL ap.2;simp[nSz,sgs];omega
   ·have bf:∀q,q<ms.length->(ms++[D])[q]?=ms[q]?:=fun q b2=>w4 b2;rw[SRep];refine⟨ms.length,[(strOfNums [],(p:Nat)),(x.1,(y:Nat))],P'++R,rfl,rfl,by rw[<-bC.out];simp,?_⟩;exact er.2 ⟨(p:Nat),[(x.1,(y:Nat))],P',R,rfl,rfl,U.out.1.grow bf,U.out.2.1.grow bf⟩
   ·refine zz.2 ⟨fun h=> ?_,U.out.2.2.1⟩;rcases w6.1 h with h|h
    ·have:=U.out.1.lt _ h;omega
    ·have:=U.out.2.1.lt _ h;omega
end
