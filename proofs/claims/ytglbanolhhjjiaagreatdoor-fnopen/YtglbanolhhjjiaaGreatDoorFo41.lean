import Derived.Test.YtglbanolhhjjiaaGreatDoorFo40
namespace Go.Proofs.YtglbanolhhjjiaaGreatDoor
open Go.Proofs.Tryz
open Go.RowKit
set_option linter.unusedVariables false
set_option maxRecDepth 100000
set_option maxHeartbeats 32000000
section
variable {B0 g:Nat} {rest:List Value} {rt:Int} {w:World} {ns:List NdK} {nv:Nat->NdV} {na:Option Addr} {nc:Nat}
theorem lC(u:World)(x):R1 9 (u.alloc (.cells #[.string x] 9)) (some ⟨u.1.size,0,none⟩) 1 1 (os [x]):=
 ⟨rfl,t1,by unfold maxLen;omega,fun e=>(by cases e),dR _,fun _=>⟨u.1.size,0,rfl,⟨_,_,aq u _ _⟩,fun i b=>by
  have a:i=0:=t7;subst a;exact(aq u 9 #[.string x]).cell 0⟩⟩
theorem yH(u:World)(x y):R1 3 (u.alloc (.cells #[.int .i64 x,.int .i64 y] 3)) (some ⟨u.1.size,0,none⟩) 2 2 (on [x,y]):=
 ⟨rfl,t1,by unfold maxLen;omega,fun e=>(by cases e),fw _,fun _=>⟨u.1.size,0,rfl,⟨_,_,aq u _ _⟩,fun i b=>by
  have a:=(aq u 3 #[.int .i64 x,.int .i64 y]).cell i;rw[wg,a];rcases(show i=0\/i=1 by omega)with rfl|rfl<;>rfl⟩⟩
theorem Hg(a2:USt B0 g rest (-1) w ns nv na nc)(a9:ns.length<=1048574){k v}(ab:eOk (k,v)):
 Calls prog 98 #[.pointer (some ⟨g,0,none⟩),.agg (fH k v false)] w fun e w'=>ChP B0 g rest na w ns 1 (some (0,.leaf 0 [(k,v)]),true) e w':=by
 obtain⟨I,G⟩:=aa (w.alloc (.cells (fH k v false) 161));have U:Below w.1.size w I:=by rw[G];exact bAl _ _
 have ak:Blk I 161 w.1.size [.string k,.string v,.bool false]:=by rw[G];exact aq w _ _
 have a5:I.cell? ⟨w.1.size,2,none⟩=some (.bool false):=ak.cell 2;have f:=a2.below U;have a4:I.cell? ⟨g,1,none⟩=some (.int .i64 (-1)):=f.blk.cell 1;have W:Hid _:=f;unfold fH at*;go_enter func98,ntmps98;go_upto_region 1 with fail
 change Code.wp _ _ _ _ (w.alloc (.cells #[.string k,.string v,.bool false] 161));rw[<-G];clear G a2 f;go_upto_region 12 with fail
 have S:=bDr I;have O:=W.out.below S;have T:=ak.below S;have i:=U.trans (S.mono U.size);refine az (fun u=>u.cell? ⟨g,0,none⟩=some (.slice na ns.length nc)/\u.cell? ⟨w.1.size,0,none⟩=some (.string k)/\u.cell? ⟨w.1.size,1,none⟩=some (.string v)) (fun k=>decide (14<=k)) uA ?_;clear S ak a4 a5 U W;generalize I.drew=D at*;have cs:D.cell? ⟨g,0,none⟩=some (.slice na ns.length nc)/\D.cell? ⟨w.1.size,0,none⟩=some (.string k)/\D.cell? ⟨w.1.size,1,none⟩=some (.string v):=⟨O.blk.cell 0,T.cell 0,T.cell 1⟩;have y:=t6 O (u2 T i);clear O T i;refine au 0 cs ?_;refine au 1 cs ?_;refine au 2 cs ?_;refine au 3 cs ?_;refine au 4 cs ?_;refine au 5 cs ?_;refine au 6 cs ?_;refine au 8 cs ?_;refine au 9 cs ?_;refine fQ 7 10 uA rfl rfl (fun d a=> ?_) (fun d a=> ?_);rw[BC (show Region.wanted _ _=true from rfl)];obtain⟨B,o⟩:=aa D.1.size;obtain⟨c,l⟩:=aa (D.alloc (.cells #[.string k] 9));have n:Below D.1.size D c:=by rw[l];exact bAl _ _
 have M:R1 9 c (some ⟨B,0,none⟩) 1 1 (os [k]):=by rw[l,o];exact lC D k
 refine bU _ _ _ rfl (v:= .slice (some ⟨B,0,none⟩) 1 1) (w':=c) ?bs1 ?_
 case bs1=>
  simp only[wa,vo,v6];rw[l,o];exact ey bM (.string k) rfl D
 have f:=y.out.1.below n;have s:=y.out.2.1.below n;have z:c.cell? ⟨g,0,none⟩=some (.slice na ns.length nc)/\c.cell? ⟨w.1.size,0,none⟩=some (.string k)/\c.cell? ⟨w.1.size,1,none⟩=some (.string v):=⟨f.blk.cell 0,s.cell 0,s.cell 1⟩;refine a.out _ _ (fun _=>z) ?_;clear a d l o;obtain⟨C,p⟩:=aa c.1.size;obtain⟨b,j⟩:=aa (c.alloc (.cells #[.string v] 9));have i:Below c.1.size c b:=by rw[j];exact bAl _ _
 have N:R1 9 b (some ⟨C,0,none⟩) 1 1 (os [v]):=by rw[j,p];exact lC c v
 refine ah 10 fun d a=> ?_;refine bU _ _ _ rfl (v:= .slice (some ⟨C,0,none⟩) 1 1) (w':=b) ?bs2 ?_
 case bs2=>
  simp only[wa,vo,v6];rw[j,p];exact ey bM (.string v) rfl c
 have q:=f.below i;have x:=s.below i;have A:b.cell? ⟨g,0,none⟩=some (.slice na ns.length nc)/\b.cell? ⟨w.1.size,0,none⟩=some (.string k)/\b.cell? ⟨w.1.size,1,none⟩=some (.string v):=⟨q.blk.cell 0,x.cell 0,x.cell 1⟩;refine a.out _ _ (fun _=>A) ?_;clear a d j p;have V:RNd b ⟨some ⟨B,0,none⟩,1,some ⟨C,0,none⟩,1,none,0,none,0⟩ (ndL 0 [(k,v)]):=⟨M.below i,N,gh _ _,gh _ _⟩;have af:Below w.1.size w b:=y.out.2.2.trans ((n.trans (i.mono n.size)).mono y.out.2.2.size);clear n i M N f s z cs
 rotate_left
 rw[BC (show Region.wanted _ _=true from rfl)];obtain⟨C,p⟩:=aa D.1.size;obtain⟨c,l⟩:=aa (D.alloc (.cells #[.string v] 9));have n:Below D.1.size D c:=by rw[l];exact bAl _ _
 have M:R1 9 c (some ⟨C,0,none⟩) 1 1 (os [v]):=by rw[l,p];exact lC D v
 refine bU _ _ _ rfl (v:= .slice (some ⟨C,0,none⟩) 1 1) (w':=c) ?bs1 ?_
 case bs1=>
  simp only[wa,vo,v6];rw[l,p];exact ey bM (.string v) rfl D
 have f:=y.out.1.below n;have s:=y.out.2.1.below n;have z:c.cell? ⟨g,0,none⟩=some (.slice na ns.length nc)/\c.cell? ⟨w.1.size,0,none⟩=some (.string k)/\c.cell? ⟨w.1.size,1,none⟩=some (.string v):=⟨f.blk.cell 0,s.cell 0,s.cell 1⟩;refine a.out _ _ (fun _=>z) ?_;clear a d l p;obtain⟨B,o⟩:=aa c.1.size;obtain⟨b,j⟩:=aa (c.alloc (.cells #[.string k] 9));have i:Below c.1.size c b:=by rw[j];exact bAl _ _
 have N:R1 9 b (some ⟨B,0,none⟩) 1 1 (os [k]):=by rw[j,o];exact lC c k
 refine ah 7 fun d a=> ?_;refine bU _ _ _ rfl (v:= .slice (some ⟨B,0,none⟩) 1 1) (w':=b) ?bs2 ?_
 case bs2=>
  simp only[wa,vo,v6];rw[j,o];exact ey bM (.string k) rfl c
 have q:=f.below i;have x:=s.below i;have A:b.cell? ⟨g,0,none⟩=some (.slice na ns.length nc)/\b.cell? ⟨w.1.size,0,none⟩=some (.string k)/\b.cell? ⟨w.1.size,1,none⟩=some (.string v):=⟨q.blk.cell 0,x.cell 0,x.cell 1⟩;refine a.out _ _ (fun _=>A) ?_;clear a d j o;have V:RNd b ⟨some ⟨B,0,none⟩,1,some ⟨C,0,none⟩,1,none,0,none,0⟩ (ndL 0 [(k,v)]):=⟨N,M.below i,gh _ _,gh _ _⟩;have af:Below w.1.size w b:=y.out.2.2.trans ((n.trans (i.mono n.size)).mono y.out.2.2.size);clear n i M N f s z cs
 all_goals
  obtain⟨r,J⟩:=aa ((⟨some ⟨B,0,none⟩,1,some ⟨C,0,none⟩,1,none,0,none,0⟩:NdV));refine aM 11 (.agg (ndc r (ndL 0 [(k,v)])).toArray) A ?hb11 ?_
  case hb11=>exact fun u _=>lm rfl (by simp only[wa,vo,v6];rw[J];exact xQ _ _ _ _ _ _)
  rw[<-J]at V;clear J;generalize Z:ndL 0 [(k,v)]=m at*;have L:=bAl b (.cells (ndc r m).toArray 176);have Y:(b.alloc (.cells (ndc r m).toArray 176)).cell? ⟨g,0,none⟩=some (.slice na ns.length nc)/\(b.alloc (.cells (ndc r m).toArray 176)).cell? ⟨w.1.size,0,none⟩=some (.string k)/\(b.alloc (.cells (ndc r m).toArray 176)).cell? ⟨w.1.size,1,none⟩=some (.string v):=⟨(q.below L).blk.cell 0,(x.below L).cell 0,(x.below L).cell 1⟩;have h:=t6 q (u2 V (u2 af (x.below L)));have an:Hid _:=Z;have aX:=q.gB;clear q V x L af Z;refine ah 12 fun d a=> ?_;refine bU _ _ _ rfl (v:= .slice (some ⟨b.1.size,0,none⟩) 1 1) (w':=(b.alloc (.cells (ndc r m).toArray 176))) ?bsp ?_
  case bsp=>
   simp only[wa,vo,v6];exact fq eY t7 (.agg (ndc r m).toArray) (ndc r m) rfl rfl b
  refine a.out _ _ (fun _=>Y) ?_;clear a d;refine ah 13 fun d a=> ?_;refine gW _ _ eY rfl B0 na ns.length nc (cd nv ns) rfl h.out.1.nodes (ndc r m) rfl (eo _ _) rfl t7 t7 aX ?_;intro E R P a1 ap F X;have am:∀t,176≠t->KeepT t (b.alloc (.cells (ndc r m).toArray 176)) P:=fun t a7=>bD (bQ h.out.1.nodes (bAl _ _)) F a7;have K:=h.out.2.2.2.keepT (am _ uv);have ag:Blk P 116 g _:=(h.out.1.blk.below (bAl _ _)).keepT (am _ uv);have aA:P.cell? ⟨g,0,none⟩=some (.slice na ns.length nc):=ag.cell 0;refine a.out _ _ (fun _=>⟨aA,K.cell 0,K.cell 1⟩) ?_;clear a d;have ad:=h.out.1.push h.out.2.1 a1 ap F;have aB:=UFr.push (u:= .slice (some ⟨E,0,none⟩) (ns.length+1) R) h.out.1 F;have aT:=ag.free 0;have ac:some (⟨E,0,none⟩:Addr)=na\/∃k,some (⟨E,0,none⟩:Addr)=some ⟨k,0,none⟩/\w.1.size<=k:=by
   rcases X with e|e
   ·exact u5 e.symm
   ·exact u4 ⟨E,rfl,by have:=h.out.2.2.1.size;omega⟩
  have aS:UFr g na w (P.setCell ⟨g,0,none⟩ (.slice (some ⟨E,0,none⟩) (ns.length+1) R)):=(OnlyS.ofBelow h.out.2.2.1).trans aB;have H:=t6 ad (u2 aS ac);clear ad aB ag a1 ap F X Y K aS ac am;refine ah 14 fun d a=> ?_;go_wp2_with fail;refine ao a ?_;clear a d;refine ah 15 fun d a=> ?_;go_wp2_with fail;refine ao a ?_;clear a d;refine ah 16 fun d a=> ?_;go_wp2_with fail;refine aU a ?_;clear a d aA aT A;generalize P.setCell ⟨g,0,none⟩ (.slice (some ⟨E,0,none⟩) (ns.length+1) R)=Q at*;have d0:Q.cell? ⟨g,0,none⟩=some (.slice (some ⟨E,0,none⟩) (ns.length+1) R):=by have:=H.out.1.blk.cell 0;rw[u7]at this;exact this
  have ba:Q.cell? ⟨g,1,none⟩=some (.int .i64 (-1)):=H.out.1.blk.cell 1;have a8:=H.out.1.blk.free 1;have ae:=H.out.1.setRt (ns.length:Nat);have a3:Hid (UQ B0 g rest (ns.length:Nat) na w (Q.setCell ⟨g,1,none⟩ (.int .i64 (ns.length:Nat))) (ns++[m])):=ae.uq (H.out.2.1.trans ((OnlyS.ofB (ax Q g 1 _)).mono (fun k _ a6=>u5 a6))) H.out.2.2;clear ae;go_wp2_with fail;go_ret;refine⟨rfl,(ns.length:Nat),ns++[m],by have:=a3.out;simpa using this,?_,uB,uB⟩;refine⟨dA.2 ⟨uB,fun e a0=>by simp at a0;subst a0;exact ab,by have:=mw ab;simp[lSz];omega⟩,[ns.length],?_,uB⟩;rw[SRep];exact⟨ns.length,rfl,rfl,by rw[<-an.out];simp⟩
end
section
variable {B0 g:Nat} {rest:List Value} {rt:Int} {w:World} {ns:List NdK} {nv:Nat->NdV} {na:Option Addr} {nc:Nat}
theorem yI{t e bytes o}(T:ElT t e 1 o bytes)(x y)(hx:x.cells=#[x])(m:y.cells=#[y])(w):
 (Instr.buildSlice t 2 #[(0,x),(1,y)]).run prog w= .ok (.slice (some ⟨w.1.size,0,none⟩) 2 2) (w.alloc (.cells #[x,y] e)):=by
 obtain⟨i,k,d,f,n⟩:=CT T.inf;have g:=T.cells;have j:∀Z:Array Value,Z.size=2->Instr.fill (fun i=>some (i*1,1)) Z [(0,x),(1,y)]=some #[x,y]:=fun Z h=>by
  rw[pT _ Z 0 0 x [x] _ uB (by rw[hx]) (by simp;omega),pT _ _ 1 1 y [y] [] uB (by rw[m]) (by simp;omega)];obtain⟨l⟩:=Z
  match l,h with
  |[a,b],_=>simp[Instr.fill]
  |[],c=>simp at c
  |[_],c=>simp at c
  |_::_::_::_,c=>simp at c
 simp[Instr.buildSlice,Sem.run_bind,run_underlying T.und w,sizeOf,typeInfo,k,f,zeroValue,d];rw[show(fun i:Nat=>some (i,1))=(fun i=>some (i*1,1))by funext i;simp,j _ (by simp[g])];simp[newRow,go_sem]
theorem Hh(b9:USt B0 g rest rt w ns nv na nc){n t}(cj:UO ns rt (some (n,t)))(cp:ns.length+n<=1048572){k v}(bf:eOk (k,v)):
 Calls prog 98 #[.pointer (some ⟨g,0,none⟩),.agg (fH k v false)] w fun e w'=>ChP B0 g rest na w ns (n+2) (chg k v false (some (n,t))) e w':=by
 obtain⟨a2,P,bv,ag⟩:=cj;have br:=t6 (rl bf a2) ag;obtain⟨p,G,cf,e0⟩:=bv.root a2;simp only[List.cons.injEq,Prod.mk.injEq,true_and,and_true]at e0;subst e0;have W:Hid (chg k v false (some (n,t))=match dh k v n t with|(u,none)=>(some (n,u),true)|(u,some x)=>(some (n+1,.node 0 (kds [(strOfNums [],u),x])),true)):=by
  show _= _;rw[chg,BX uv];generalize dh k v n t=r;obtain⟨u,o⟩:=r;cases o<;>rfl
 generalize chg k v false (some (n,t))=cv at*;obtain⟨ae,Y⟩:=aa (w.alloc (.cells (fH k v false) 161));have a5:Below w.1.size w ae:=by rw[Y];exact bAl _ _
 have bx:Blk ae 161 w.1.size [.string k,.string v,.bool false]:=by rw[Y];exact aq w _ _
 have ce:ae.cell? ⟨w.1.size,2,none⟩=some (.bool false):=bx.cell 2;have aS:=b9.below a5;have cc:ae.cell? ⟨g,1,none⟩=some (.int .i64 (p:Nat)):=aS.blk.cell 1;have cq:¬(p:Int)<0:=t7;have a7:Hid _:=aS;unfold fH at*;go_enter func98,ntmps98;go_upto_region 1 with fail
 change Code.wp _ _ _ _ (w.alloc (.cells #[.string k,.string v,.bool false] 161));rw[<-Y];clear Y b9 aS;go_upto_region 15 with fail
 have Q:=bDr ae;have ab:=a7.out.below Q;have a3:=bx.below Q;have l:=a5.trans (Q.mono a5.size);refine az (fun u=>u.cell? ⟨g,1,none⟩=some (.int .i64 (p:Nat))/\u.cell? ⟨w.1.size,0,none⟩=some (.string k)/\u.cell? ⟨w.1.size,1,none⟩=some (.string v)) (fun k=>decide (14<=k)) uA ?_;clear Q bx cc ce a5 a7;generalize ae.drew=ca at*;have cs:ca.cell? ⟨g,1,none⟩=some (.int .i64 (p:Nat))/\ca.cell? ⟨w.1.size,0,none⟩=some (.string k)/\ca.cell? ⟨w.1.size,1,none⟩=some (.string v):=⟨ab.blk.cell 1,a3.cell 0,a3.cell 1⟩;have bC:=FM bf n t a2 ca ns nv na nc P p ab bv ag t7;have J:=t6 ab (u2 a3 l);clear ab a3 l a2 bv ag cf;refine au 0 cs ?_;refine au 1 cs ?_;refine au 2 cs ?_;refine au 3 cs ?_;refine au 4 cs ?_;refine au 5 cs ?_;refine au 6 cs ?_;refine au 7 cs ?_;refine au 8 cs ?_;refine ah 9 fun c a=> ?_;go_wp2_with fail;refine bC.mono ?_;rintro e Z bZ;clear bC;obtain⟨ms,P',cg,b4,b1,cm,b0,bY⟩:=bZ;obtain⟨y,R,sg,rfl,bc,bb,ak,V⟩:=xZ bY;obtain⟨b7,i,A,aT,bs,bg⟩:=cg;have bz:Blk Z 161 w.1.size [.string k,.string v,.bool false]:=J.out.2.1.keepT (J.out.1.keepT bs uv uv);have L:Z.cell? ⟨g,1,none⟩=some (.int .i64 (p:Nat))/\Z.cell? ⟨w.1.size,0,none⟩=some (.string k)/\Z.cell? ⟨w.1.size,1,none⟩=some (.string v):=⟨aT.blk.cell 1,bz.cell 0,bz.cell 1⟩;have af:i=na\/∃k,i=some ⟨k,0,none⟩/\w.1.size<=k:=xO (u5 rfl) bg J.out.2.2.size;have S:=t6 aT (u2 ((OnlyS.ofBelow J.out.2.2).trans bs) af);have T:=t6 b0 (u2 bc bb);clear aT bs bg af b0 bc bb bY bz b4 cs J;go_wp2_with fail;refine a.out _ _ (fun _=>L) ?_;clear a c;refine au 10 L ?_;refine au 11 L ?_;refine au 12 L ?_;refine ah 13 fun c a=> ?_;go_wp2_with fail;refine a.out _ _ (fun _=>L) ?_;clear a c;refine ah 14 fun c a=> ?_;go_wp2_with fail;refine aU a ?_;clear a c;generalize bl:dh k v n t=r at*;obtain⟨u,o⟩:=r;cases o with
 |none=>
  obtain rfl:=ak rfl;clear V ak bl;go_wp2_with fail;go_ret;refine⟨by rw[W.out];rfl,(p:Nat),ms,S.out.1.uq S.out.2.1 S.out.2.2,?_,b1,t7⟩;rw[W.out];refine⟨br.out.1.1,P',T.out.1,?_⟩;have:=T.out.2.2.1;exact(zd.1 this).1
 |some x=>
  obtain⟨b5,rfl⟩:=V x rfl;clear V ak bl;obtain⟨y,rfl⟩:=xb b5;have cr:(0:Int)<=(y:Int):=t7;have cn:ms.length<=1048575:=t7;go_upto_region 17 with fail
  have Q:=bDr Z;have ac:=S.out.1.below Q;have bP:UFr g na w Z.drew:=S.out.2.1.trans (OnlyS.ofBelow Q);refine az (fun u=>u.cell? ⟨g,0,none⟩=some (.slice i ms.length A)/\u.cell? ⟨g,1,none⟩=some (.int .i64 (p:Nat))) (fun k=>decide (16<=k)) uA ?_;clear Q L;generalize Z.drew=j at*;have cs:j.cell? ⟨g,0,none⟩=some (.slice i ms.length A)/\j.cell? ⟨g,1,none⟩=some (.int .i64 (p:Nat)):=⟨ac.blk.cell 0,ac.blk.cell 1⟩;have J:=t6 ac bP;clear ac bP;refine aj 0 cs ?_;refine aj 1 cs ?_;refine aj 2 cs ?_;refine aj 3 cs ?_;refine aj 4 cs ?_;refine aj 5 cs ?_;refine aj 6 cs ?_;refine aj 7 cs ?_;refine aj 8 cs ?_;refine aj 9 cs ?_;refine aj 11 cs ?_;refine fQ 10 12 uA rfl rfl (fun c a=> ?_) (fun c a=> ?_);rw[BC (show Region.wanted _ _=true from rfl)];obtain⟨N,H⟩:=aa j.1.size;obtain⟨d,z⟩:=aa (j.alloc (.cells #[.int .i64 (p:Nat),.int .i64 (y:Nat)] 3));have D:Below j.1.size j d:=by rw[z];exact bAl _ _
  have aA:R1 3 d (some ⟨N,0,none⟩) 2 2 (on [(p:Nat),(y:Nat)]):=by rw[z,H];exact yH j (p:Nat) (y:Nat)
  refine bU _ _ _ rfl (v:= .slice (some ⟨N,0,none⟩) 2 2) (w':=d) ?bsX6 ?_
  case bsX6=>
   simp only[wa,vo,v6];rw[z,H];exact yI co (.int .i64 (p:Nat)) (.int .i64 (y:Nat)) rfl rfl j
  have h:=J.out.1.below D;have F:d.cell? ⟨g,0,none⟩=some (.slice i ms.length A)/\d.cell? ⟨g,1,none⟩=some (.int .i64 (p:Nat)):=⟨h.blk.cell 0,h.blk.cell 1⟩;refine a.out _ _ (fun _=>F) ?_;clear a c z H;refine ah 12 fun c a=> ?_;obtain⟨O,I⟩:=aa d.1.size;obtain⟨b,m⟩:=aa (d.alloc (.cells #[.string x.1] 9));have l:Below d.1.size d b:=by rw[m];exact bAl _ _
  have aB:R1 9 b (some ⟨O,0,none⟩) 1 1 (os [x.1]):=by rw[m,I];exact lC d x.1
  refine bU _ _ _ rfl (v:= .slice (some ⟨O,0,none⟩) 1 1) (w':=b) ?bsVP ?_
  case bsVP=>
   simp only[wa,vo,v6];rw[m,I];exact ey bM (.string x.1) rfl d
  have f:=h.below l;have E:b.cell? ⟨g,0,none⟩=some (.slice i ms.length A)/\b.cell? ⟨g,1,none⟩=some (.int .i64 (p:Nat)):=⟨f.blk.cell 0,f.blk.cell 1⟩;refine a.out _ _ (fun _=>E) ?_;clear a c m I;have a6:RNd b ⟨none,0,none,0,some ⟨N,0,none⟩,2,some ⟨O,0,none⟩,1⟩ (ndI 0 [(strOfNums [],(p:Nat)),(x.1,(y:Nat))]):=⟨gh _ _,gh _ _,aA.below l,aB⟩;have bu:UFr g na w b:=J.out.2.trans (OnlyS.ofBelow (D.trans (l.mono D.size)));have ap:j.1.size<=b.1.size:=u9 D.size l.size;clear D l aA aB h F cs
  rotate_left
  rw[BC (show Region.wanted _ _=true from rfl)];obtain⟨O,I⟩:=aa j.1.size;obtain⟨d,z⟩:=aa (j.alloc (.cells #[.string x.1] 9));have D:Below j.1.size j d:=by rw[z];exact bAl _ _
  have aA:R1 9 d (some ⟨O,0,none⟩) 1 1 (os [x.1]):=by rw[z,I];exact lC j x.1
  refine bU _ _ _ rfl (v:= .slice (some ⟨O,0,none⟩) 1 1) (w':=d) ?bsX6 ?_
  case bsX6=>
   simp only[wa,vo,v6];rw[z,I];exact ey bM (.string x.1) rfl j
  have h:=J.out.1.below D;have F:d.cell? ⟨g,0,none⟩=some (.slice i ms.length A)/\d.cell? ⟨g,1,none⟩=some (.int .i64 (p:Nat)):=⟨h.blk.cell 0,h.blk.cell 1⟩;refine a.out _ _ (fun _=>F) ?_;clear a c z I;refine ah 10 fun c a=> ?_;obtain⟨N,H⟩:=aa d.1.size;obtain⟨b,m⟩:=aa (d.alloc (.cells #[.int .i64 (p:Nat),.int .i64 (y:Nat)] 3));have l:Below d.1.size d b:=by rw[m];exact bAl _ _
  have aB:R1 3 b (some ⟨N,0,none⟩) 2 2 (on [(p:Nat),(y:Nat)]):=by rw[m,H];exact yH d (p:Nat) (y:Nat)
  refine bU _ _ _ rfl (v:= .slice (some ⟨N,0,none⟩) 2 2) (w':=b) ?bsVP ?_
  case bsVP=>
   simp only[wa,vo,v6];rw[m,H];exact yI co (.int .i64 (p:Nat)) (.int .i64 (y:Nat)) rfl rfl d
  have f:=h.below l;have E:b.cell? ⟨g,0,none⟩=some (.slice i ms.length A)/\b.cell? ⟨g,1,none⟩=some (.int .i64 (p:Nat)):=⟨f.blk.cell 0,f.blk.cell 1⟩;refine a.out _ _ (fun _=>E) ?_;clear a c m H;have a6:RNd b ⟨none,0,none,0,some ⟨N,0,none⟩,2,some ⟨O,0,none⟩,1⟩ (ndI 0 [(strOfNums [],(p:Nat)),(x.1,(y:Nat))]):=⟨gh _ _,gh _ _,aB,aA.below l⟩;have bu:UFr g na w b:=J.out.2.trans (OnlyS.ofBelow (D.trans (l.mono D.size)));have ap:j.1.size<=b.1.size:=u9 D.size l.size;clear D l aA aB h F cs
  all_goals
   obtain⟨M,am⟩:=aa ((⟨none,0,none,0,some ⟨N,0,none⟩,2,some ⟨O,0,none⟩,1⟩:NdV));refine aM 13 (.agg (ndc M (ndI 0 [(strOfNums [],(p:Nat)),(x.1,(y:Nat))])).toArray) E ?hb11 ?_
   case hb11=>exact fun u _=>lm rfl (by simp only[wa,vo,v6];rw[am];exact xR _ _ _ _ _ _)
   rw[<-am]at a6;clear am;generalize ba:ndI 0 [(strOfNums [],(p:Nat)),(x.1,(y:Nat))]=C at*;have bA:=bAl b (.cells (ndc M C).toArray 176);have a9:(b.alloc (.cells (ndc M C).toArray 176)).cell? ⟨g,0,none⟩=some (.slice i ms.length A)/\(b.alloc (.cells (ndc M C).toArray 176)).cell? ⟨g,1,none⟩=some (.int .i64 (p:Nat)):=⟨(f.below bA).blk.cell 0,(f.below bA).blk.cell 1⟩;have B:=t6 f (u2 a6 (u2 bu ap));have bB:Hid _:=ba;have bX:=f.gB;clear f a6 bA bu ap ba;refine ah 14 fun c a=> ?_;refine bU _ _ _ rfl (v:= .slice (some ⟨b.1.size,0,none⟩) 1 1) (w':=(b.alloc (.cells (ndc M C).toArray 176))) ?bsp ?_
   case bsp=>
    simp only[wa,vo,v6];exact fq eY t7 (.agg (ndc M C).toArray) (ndc M C) rfl rfl b
   refine a.out _ _ (fun _=>a9) ?_;clear a c;refine ah 15 fun c a=> ?_;refine gW _ _ eY rfl B0 i ms.length A (cd b7 ms) rfl B.out.1.nodes (ndc M C) rfl (eo _ _) rfl t7 t7 bX ?_;intro U a1 aX b8 bE X a8;have b6:∀t,176≠t->KeepT t (b.alloc (.cells (ndc M C).toArray 176)) aX:=fun t ck=>bD (bQ B.out.1.nodes (bAl _ _)) X ck;have a4:Blk aX 116 g _:=(B.out.1.blk.below (bAl _ _)).keepT (b6 _ uv);have bF:aX.cell? ⟨g,0,none⟩=some (.slice i ms.length A):=a4.cell 0;refine a.out _ _ (fun _=>⟨bF,a4.cell 1⟩) ?_;clear a c;have bm:=B.out.1.push B.out.2.1 b8 bE X;have bR:=UFr.push (u:= .slice (some ⟨U,0,none⟩) (ms.length+1) a1) B.out.1 X;have bT:=a4.free 0;have bk:some (⟨U,0,none⟩:Addr)=na\/∃k,some (⟨U,0,none⟩:Addr)=some ⟨k,0,none⟩/\w.1.size<=k:=by
    rcases a8 with e|e
    ·rw[<-e];exact S.out.2.2
    ·exact u4 ⟨U,rfl,by have:=B.out.2.2.1.size;omega⟩
   have bS:UFr g na w (aX.setCell ⟨g,0,none⟩ (.slice (some ⟨U,0,none⟩) (ms.length+1) a1)):=B.out.2.2.1.transN bR (fun q b2 K=>by
    rcases K with K|K
    ·exact u5 K
    ·rcases S.out.2.2 with e|⟨q2,e,hq2⟩
     ·exact u4 (by rw[<-e];exact K)
     ·rw[e]at K;cases K;omega)
   have ad:=t6 bm (u2 bS bk);clear bm bR a4 b8 bE X a8 a9 bS bk b6;refine ah 16 fun c a=> ?_;go_wp2_with fail;refine ao a ?_;clear a c;refine ah 17 fun c a=> ?_;go_wp2_with fail;refine ao a ?_;clear a c;refine ah 18 fun c a=> ?_;go_wp2_with fail;refine aU a ?_;clear a c bF bT E;generalize aX.setCell ⟨g,0,none⟩ (.slice (some ⟨U,0,none⟩) (ms.length+1) a1)=a0 at*;have d0:a0.cell? ⟨g,0,none⟩=some (.slice (some ⟨U,0,none⟩) (ms.length+1) a1):=by have:=ad.out.1.blk.cell 0;rw[u7]at this;exact this
   have cz:a0.cell? ⟨g,1,none⟩=some (.int .i64 (p:Nat)):=ad.out.1.blk.cell 1;have cl:=ad.out.1.blk.free 1;have bn:=ad.out.1.setRt (ms.length:Nat);have cb:Hid (UQ B0 g rest (ms.length:Nat) na w (a0.setCell ⟨g,1,none⟩ (.int .i64 (ms.length:Nat))) (ms++[C])):=bn.uq (ad.out.2.1.trans ((OnlyS.ofB (ax a0 g 1 _)).mono (fun k _ ch=>u5 ch))) ad.out.2.2;clear bn;go_wp2_with fail;go_ret;refine⟨by rw[W.out];rfl,(ms.length:Nat),ms++[C],by have:=cb.out;simpa using this,?_,by simp;omega,by simp;omega⟩;rw[W.out];have an:=br.out.1.2 x rfl;refine⟨bq.2 ⟨uB,fun cA K=> ?_,fun s b3=> ?_,?_⟩,ms.length::(P'++R),?_,?_⟩
   ·simp at K;rcases K with rfl|rfl;exact br.out.1.1;exact an.1
   ·simp[sgs]at b3;subst b3;exact an.2
   ·have:=kL an.2;simp[nSz,sgs];omega
   ·have bd:∀q,q<ms.length->(ms++[C])[q]?=ms[q]?:=fun q b2=>wB b2;rw[SRep];refine⟨ms.length,[(strOfNums [],(p:Nat)),(x.1,(y:Nat))],P'++R,rfl,rfl,by rw[<-bB.out];simp,?_⟩;exact er.2 ⟨(p:Nat),[(x.1,(y:Nat))],P',R,rfl,rfl,T.out.1.grow bd,T.out.2.1.grow bd⟩
   ·refine y1.2 ⟨fun bW=> ?_,T.out.2.2.1⟩;rcases wE.1 bW with bW|bW
    ·have:=T.out.1.lt _ bW;omega
    ·have:=T.out.2.1.lt _ bW;omega
end
