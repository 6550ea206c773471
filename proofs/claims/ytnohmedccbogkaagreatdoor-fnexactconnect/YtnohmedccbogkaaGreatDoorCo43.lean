import Derived.Test.YtnohmedccbogkaaGreatDoorCo42
namespace Go.Proofs.YtnohmedccbogkaaGreatDoor
open Go.Proofs.Tryz
open Go.RowKit
set_option linter.unusedVariables false
set_option maxRecDepth 100000
set_option maxHeartbeats 32000000
theorem ORow.onlyS{Z e s B w w' a n c f}(h:ORow e s B w a n c f)(b:OnlyS Z w w')(d:∀k,B<=k->¬Z k):ORow e s B w' a n c f:=by
 refine⟨h.1,?_⟩;rcases h.2 with h2|⟨g,cap,cur,hv,hg,hh,r⟩
 ·exact kV h2
 ·exact kT ⟨g,cap,cur,hv,hg,by rw[b.block g (k6.1 hh).1 (d g hg)];exact hh,r⟩
theorem OHs.onlyS{Z B w w' a n c h}(H:OHs B w a n c h)(b:OnlyS Z w w')(d:∀k,B<=k->¬Z k):OHs B w' a n c h:=by
 refine⟨H.1,?_⟩;rcases H.2 with h2|⟨g,cap,cur,hv,hg,hh,r⟩
 ·exact kV h2
 ·exact kT ⟨g,cap,cur,hv,hg,by rw[b.block g (k6.1 hh).1 (d g hg)];exact hh,r⟩
theorem OBl.onlyS{Z B w w' v K}(h:OBl B w v K)(b:OnlyS Z w w')(c:∀k,B<=k->¬Z k):OBl B w' v K:=
 ⟨h.ok,h.txs.row.onlyS b c,fun i a=>⟨(h.txs.each i a).pts,(h.txs.each i a).ins.onlyS b c,(h.txs.each i a).outs.onlyS b c⟩,h.txs.sep⟩
theorem OBl.keep{B w w' v K}(h:OBl B w v K)(b:KeepT 121 w w')(c:KeepT 52 w w')(d:KeepT 3 w w'):OBl B w' v K:=
 ⟨h.ok,dL h.txs.row b,fun i a=>⟨(h.txs.each i a).pts,dL (h.txs.each i a).ins c,dL (h.txs.each i a).outs d⟩,h.txs.sep⟩
noncomputable def coR(es:List (ByteArray×ByteArray))(K:Nat->TxK):Nat->Nat->List Value
 |0=>fun _=>[]
 |k+1=>fR (coR es K k) (spN K k) (fun j=>cnC es ((K k).P j))
theorem Bi(es K){i}:∀n,i<n->∀j,j< (K i).ni->coR es K n (spN K i+j)=cnC es ((K i).P j)
 |0,h,_,_=>by omega
 |n+1,h,j,b=>by
  unfold coR fR;rcases og (oH h)with h1|rfl
  ·have a:=p8 K (show i+1<=n by omega);rw[spN]at a;rw[qb kH];exact Bi es K n h1 j b
  ·rw[q4 kH,Nat.add_sub_cancel_left]
structure JnW(D:DK)(root:Int)(B B0 gw g:Nat)(v:BlV)(K:BlK)(ai:Option Addr)(ci:Nat)(sa:Option Addr)(sn sc:Nat)(sf:Nat->List Value)(w u:World):Prop where
 blk:Blk u 189 g (jnC gw v K (.slice ai K.nt ci) (.slice sa sn sc))
 ids:OHs B0 u ai K.nt ci (av K.tx)
 bl:OBl B0 u v K
 sp:ORow 48 3 B0 u sa sn sc sf
 wot:WoT D root B B0 gw u
 bel:Below w.1.size w u
 hg:B0<=g
 lo:w.1.size<=B
section
variable {D:DK} {root:Int} {B B0 gw g:Nat} {v:BlV} {K:BlK} {ai:Option Addr} {ci:Nat} {sa:Option Addr} {sn sc:Nat} {sf:Nat->List Value} {w u u':World}
theorem JnW.below(h:JnW D root B B0 gw g v K ai ci sa sn sc sf w u)(a:Below u.1.size u u'):JnW D root B B0 gw g v K ai ci sa sn sc sf w u':=
 ⟨h.blk.below a,h.ids.below a,h.bl.below a,h.sp.below a,h.wot.below a,h.bel.trans (a.mono h.bel.size),h.hg,h.lo⟩
theorem JnW.recd(h:JnW D root B B0 gw g v K ai ci sa sn sc sf w u)(a:OnlyS (fun k=>B<=k/\k<B0) u u')(c:WoT D root B B0 gw u'):JnW D root B B0 gw g v K ai ci sa sn sc sf w u':=
 ⟨h.blk.onlyS a (fun e=>by have:=h.hg;omega),h.ids.onlyS a (fun k b e=>by omega),h.bl.onlyS a (fun k b e=>by omega),h.sp.onlyS a (fun k b e=>by omega),c,h.bel.trans (a.below h.bel.size (fun k e=>by have:=h.lo;omega)),h.hg,h.lo⟩
theorem JnW.setN(h:JnW D root B B0 gw g v K ai ci sa sn sc sf w u){q}(a:OnlyB q u u')(b:Blk u 48 q co0)(d:∀k,(Value.slice sa sn sc).ownBlock=some k->k≠q)(c:B0<=q):JnW D root B B0 gw g v K ai ci sa sn sc sf w u':=
 ⟨h.blk.keepT (aV a b kN),dL h.ids (aV a b kN),h.bl.keep (aV a b kN) (aV a b kN) (aV a b kN),
  h.sp.keep (fun k e=>a.block k (qX h.sp k (by rw[e];rfl)).2 (d k (by rw[e];rfl))),h.wot.keep (a.below c h.wot.le.2) (aV a b kN),
  h.bel.trans (a.below (by have:=h.lo;have:=h.wot.le;omega) h.bel.size),h.hg,h.lo⟩
theorem JnW.spent(h:JnW D root B B0 gw g v K ai ci sa sn sc sf w u){a c b i}(t:ORow 48 3 B0 u' a c b i)(l:u.grownBy u' (Value.slice sa sn sc).ownBlock):
 JnW D root B B0 gw g v K ai ci a c b i w (u'.setCell ⟨g,68,none⟩ (.slice a c b)):=by
 have f:=h.wot.le;have x:=h.lo;have j:=kF.grown l f.2 (fun k s=>(qX h.sp k s).1);have m:=h.blk.keepT (bJ h.sp l kN);have n:=aB u' g 68 (.slice a c b);have e:=m.set 68 (.slice a c b);have d:∀p,48≠p->189≠p->KeepT p u (u'.setCell ⟨g,68,none⟩ (.slice a c b)):=fun p q r=>(bJ h.sp l q).trans (aV n m r);have o:=n.below h.hg (k2 f.2 j.size);refine⟨?_,dL h.ids (d _ kN kN),h.bl.keep (d _ kN kN) (d _ kN kN) (d _ kN kN),dL t (aV n m kN),h.wot.keep (j.trans o) (d _ kN kN),h.bel.trans ((j.trans o).mono kH),h.hg,h.lo⟩;have es:(jnC gw v K (.slice ai K.nt ci) (.slice sa sn sc)).set 68 (.slice a c b)=jnC gw v K (.slice ai K.nt ci) (.slice a c b):=by
  show .pointer (some ⟨gw,0,none⟩)::(blc v K++[_,_]).set 67 _= _;rw[n2 _ _ (by rw[eO v h.bl.ok];omega),eO v h.bl.ok]
  rfl
 rw[es]at e;exact e
theorem JnW.c0(h:JnW D root B B0 gw g v K ai ci sa sn sc sf w u):u.cell? ⟨g,0,none⟩=some (.pointer (some ⟨gw,0,none⟩)):=h.blk.cell 0
theorem JnW.ci_(h:JnW D root B B0 gw g v K ai ci sa sn sc sf w u):u.cell? ⟨g,67,none⟩=some (.slice ai K.nt ci):=(h.blk.cell 67).trans (A8 gw v h.bl.ok _ _)
theorem JnW.cs_(h:JnW D root B B0 gw g v K ai ci sa sn sc sf w u):u.cell? ⟨g,68,none⟩=some (.slice sa sn sc):=by
 rw[h.blk.cell 68];show(blc v K++[_,_])[67]?= _;rw[m4 (by rw[eO v h.bl.ok];omega),eO v h.bl.ok]
 rfl
theorem mj(gw v){K}(b:BlOk K)(x y){j}(a:j<66):(jnC gw v K x y)[1+j]?=(blc v K)[j]?:=by
 rw[Nat.add_comm];show(blc v K++[x,y])[j]?= _;rw[l7 (by rw[eO v b];exact a)]
theorem JnW.ch(h:JnW D root B B0 gw g v K ai ci sa sn sc sf w u):u.cell? ⟨g,65,none⟩=some (.int .i64 K.h):=(h.blk.cell 65).trans ((mj gw v h.bl.ok _ _ kH).trans (iX v h.bl.ok))
theorem JnW.ct(h:JnW D root B B0 gw g v K ai ci sa sn sc sf w u):u.cell? ⟨g,66,none⟩=some (.slice v.ta K.nt v.tc):=(h.blk.cell 66).trans ((mj gw v h.bl.ok _ _ kH).trans (jm v h.bl.ok))
theorem JnW.tx(h:JnW D root B B0 gw g v K ai ci sa sn sc sf w u){i}(c:i<K.nt):∃b off,v.ta=some ⟨b,off,none⟩/\u.cell? ⟨b,off+i*3,none⟩=some (.slice (v.tv i).ia (K.tx i).ni (v.tv i).ic)/\u.cell? ⟨b,off+i*3+1,none⟩=some (.slice (v.tv i).oa (K.tx i).no (v.tv i).oc)/\u.cell? ⟨b,off+i*3+2,none⟩=some (.int .i64 (K.tx i).h):=by
 obtain⟨b,off,e,_,a⟩:=h.bl.reads.txs.row.at_ kH;refine⟨b,off,e,?_,?_,?_⟩
 ·have:=a i 0 c kH;simpa [bU,txc]using this
 ·have:=a i 1 c kH;simpa [bU,txc]using this
 ·have:=a i 2 c kH;simpa [bU,txc]using this
theorem ll(K n):IsHs (av K) n:=⟨fun i _=>fW _,fun i _=>kQ _⟩
theorem JnW.id(h:JnW D root B B0 gw g v K ai ci sa sn sc sf w u){i}(a:i<K.nt):∃b off,ai=some ⟨b,off,none⟩/\(Instr.loadAt 32 (.pointer (some ⟨b,off+i*32,none⟩))).run prog u= .ok (.agg (ob (av K.tx i)).toArray) u:=by
 have H:=h.ids.reads (ll K.tx K.nt);obtain⟨b,off,e,_⟩:=H.at_ kH;subst e;exact⟨b,off,rfl,H.load i a⟩
theorem JnW.lprev(h:JnW D root B B0 gw g v K ai ci sa sn sc sf w u):(Instr.loadAt 32 (.pointer (some ⟨g,1,none⟩))).run prog u= .ok (.agg (ob K.prev).toArray) u:=by
 have s:(prog.info? 32).map (·.size)=some (ob K.prev).length:=by rw[au,h.bl.ok.pl];exact aJ
 simp only[Instr.loadAt,Instr.sureAddr,q9,r2,Result.andThen];exact iM u g 1 32 (ob K.prev) _ (fun j x hx=>(h.blk.cell (1+j)).trans ((mj gw v h.bl.ok _ _ (by have:=(lb.1 hx).1;rw[au,h.bl.ok.pl]at this;omega)).trans (lQ v K j x hx))) qa rfl s
theorem JnW.lroot(h:JnW D root B B0 gw g v K ai ci sa sn sc sf w u):(Instr.loadAt 32 (.pointer (some ⟨g,33,none⟩))).run prog u= .ok (.agg (ob K.root).toArray) u:=by
 have s:(prog.info? 32).map (·.size)=some (ob K.root).length:=by rw[au,h.bl.ok.rl];exact aJ
 simp only[Instr.loadAt,Instr.sureAddr,q9,r2,Result.andThen];exact iM u g 33 32 (ob K.root) _ (fun j x hx=>by
  have a:j<32:=by have:=(lb.1 hx).1;rw[au,h.bl.ok.rl]at this;exact this
  rw[show 33+j=1+(32+j)by omega];exact(h.blk.cell _).trans ((mj gw v h.bl.ok _ _ kH).trans (pr v h.bl.ok j x hx))) qa rfl s
theorem JnW.ins(h:JnW D root B B0 gw g v K ai ci sa sn sc sf w u){i}(a:i<K.nt):RTx u (v.tv i) (K.tx i):=h.bl.reads.txs.each i a
theorem JnW.insAt(h:JnW D root B B0 gw g v K ai ci sa sn sc sf w u){i}(f:i<K.nt):∀b off,(v.tv i).ia=some ⟨b,off,none⟩->B0<=b:=fun b off e=>by
 rcases(h.bl.txs.each i f).ins.2 with⟨a,_⟩|⟨q,j,k,c,d,_⟩
 ·rw[e]at a;cases a
 ·rw[e]at c;cases c;exact d
end
theorem iq{P:Program}{w:World}{e:Operand->Value}{o:Oper}{d:TypeId}{a:Array (Nat×Operand)}(c:o.op= .build d a){cs:Array Value}(b:P.built d (a.map fun(i,x)=>(i,e x)).toList=some cs):(execOp e o).run P w= .ok (.value (.agg cs)) w:=by
 unfold execOp;simp only[c,q9,run_build w d _ cs b,sr,r2]
structure JnO(D:DK)(root:Int)(B B0 gw g:Nat)(v:BlV)(K:BlK)(ai:Option Addr)(ci:Nat)(sa:Option Addr)(sn sc:Nat)(sf:Nat->List Value)(w u x:World):Prop where
 jn:JnW D root B B0 gw g v K ai ci sa sn sc sf w x
 only:OnlyS (fun k=>B<=k/\k<B0) u x
section
variable {D:DK} {root:Int} {B B0 gw g:Nat} {v:BlV} {K:BlK} {ai:Option Addr} {ci:Nat} {sa:Option Addr} {sn sc:Nat} {sf:Nat->List Value} {w u x x':World}
theorem JnO.below(h:JnO D root B B0 gw g v K ai ci sa sn sc sf w u x)(a:Below x.1.size x x'):JnO D root B B0 gw g v K ai ci sa sn sc sf w u x':=⟨h.jn.below a,h.only.trans (OnlyS.ofBelow a)⟩
theorem JnO.recd(h:JnO D root B B0 gw g v K ai ci sa sn sc sf w u x)(a:OnlyS (fun k=>B<=k/\k<B0) x x')(b:WoT D root B B0 gw x'):JnO D root B B0 gw g v K ai ci sa sn sc sf w u x':=⟨h.jn.recd a b,h.only.trans a⟩
theorem JnO.setN(h:JnO D root B B0 gw g v K ai ci sa sn sc sf w u x){q}(a:OnlyB q x x')(d:Blk x 48 q co0)(c:∀k,(Value.slice sa sn sc).ownBlock=some k->k≠q)(b:B0<=q/\u.1.size<=q):JnO D root B B0 gw g v K ai ci sa sn sc sf w u x':=⟨h.jn.setN a d c b.1,h.only.transN (OnlyS.ofB a) (fun k f e=>by omega)⟩
end
theorem Bj{I bu root bn bi B B0 gw g v K Q p u sn y H ca w X d}(bv:RDisk ca d I)(ah:whB I bu root bn bi=true)(h:JnW I root B B0 gw g v K Q p u sn y H w X)(i)(bj:i<K.nt)(cd:(K.tx i).no<=1048576):
 Calls prog 132 #[.pointer (some ⟨g,0,none⟩),.int .i64 (i:Nat)] X fun e u'=>e= .returned (.bool (tkB (enL I root) (av K.tx i) (K.tx i).no))/\JnW I root B B0 gw g v K Q p u sn y H w u'/\OnlyS (fun k=>B<=k/\k<B0) X u':=by
 have L:Hid _:=fun(k:Nat) x(hx:WoT I root B B0 gw x)=>AY (av K.tx i,(k:Int)) (fW _) (kQ _) bv ah hx;have M:Hid _:=fun k:Nat=>AV (enL I root) (av K.tx i,(k:Int));have ae:=h.ct;obtain⟨bh,bl,bz,t0,Z,b9⟩:=h.tx bj;rw[bz]at ae;have b:Hid (JnO I root B B0 gw g v K Q p u sn y H w X X):=⟨h,OnlyS.refl _ _⟩;have cb:(i:Int)< (K.nt:Int):=kH;clear bv ah h t0 b9;generalize enL I root=es at*;go_enter func132,ntmps132;go_wp2_with fail;go_loopw [18] (fun s wr=> ∃k:Nat,s= .int .i64 (k:Nat)/\k<=(K.tx i).no/\(∀q:Nat,q<k->cnB es (av K.tx i,(q:Int))=false)/\JnO I root B B0 gw g v K Q p u sn y H w X wr) (fun s _=>(K.tx i).no-(intOf s).toNat)
 case atStart=>exact⟨0,rfl,kX _,fun q bx=>by omega,b.out⟩
 case round=>
  obtain⟨k,rfl,cg,ag,T⟩:=hrel;obtain⟨bp,rfl⟩:∃x,x=wr:=⟨_,rfl⟩;have O:Hid _:=ag;have Y:Hid _:=T;clear ag b ae Z;by_cases bw:k< (K.tx i).no
  ·have b8:(k:Int)< ((K.tx i).no:Int):=kH;go_upto_region 4 with fail
   rename_i b1 ad;have P:Hid (∀(x:World){bH bN bP ak am an ap ar aw aH aO aX a0 a1 a2 a3 a4 a5 a6 a7 a8 a9 ba bb:Value},JnO I root B B0 gw g v K Q p u sn y H w X x->b1 {tmps:=#[.pointer (some ⟨g,0,none⟩),.int .i64 (i:Nat),undef,undef,bH,bN,bP,.bool (cnB es (av K.tx i,(k:Int))),.pointer (some ⟨g,0,none⟩),.pointer (some ⟨g,0,none⟩),.pointer (some ⟨g,1,none⟩),.pointer (some ⟨g,66,none⟩),.slice (some ⟨bh,bl,none⟩) K.nt v.tc,.int .i64 (i:Nat),.pointer (some ⟨bh,bl+i*3,none⟩),.pointer (some ⟨bh,bl+i*3+1,none⟩),.slice (v.tv i).oa (K.tx i).no (v.tv i).oc,.int .i64 ((K.tx i).no:Nat),.int .i64 (k:Nat),ak,am,an,ap,ar,aw,aH,aO,aX,a0,a1,a2,a3,a4,a5,a6,a7,a8,a9,ba,bb],defers:=[]} x):=by
    intro x bH bN bP ak am an ap ar aw aH aO aX a0 a1 a2 a3 a4 a5 a6 a7 a8 a9 ba bb hx;have bd:Hid _:=hx;refine ad _ _ ?_;clear hx T L M;cases D:cnB es (av K.tx i,(k:Int))with
    |true=>
     have bc:Hid _:=A9 (es:=es) (id:=av K.tx i) bw D;clear D;go_wp2_with fail;go_ret;rw[bc.out];exact⟨rfl,bd.out.jn,bd.out.only⟩
    |false=>
     have b0:Hid _:=D;clear D;go_wp2_with fail;go_roundw
     case rel=>exact⟨k+1,by go_num,kH,fun q bx=>by rcases og (oH bx)with h|rfl;exact O.out q h;exact b0.out,bd.out⟩
     case measure=>simp[intOf];omega
   clear ad O;obtain⟨R,oi,rfl,U⟩:=T.jn.id bj;have bq:Hid _:=lH (av K.tx i) (k:Int) (fW _);obtain⟨bR,bS,bY,ai⟩:=M.out k;have z:=L.out k;rw[ai]at z;have ac:Hid _:=z;clear L M z ai U;generalize cnB es (av K.tx i,(k:Int))=cf at*;have l:Hid (∀x,JnO I root B B0 gw g v K (some ⟨R,oi,none⟩) p u sn y H w X x->x.cell? ⟨g,0,none⟩=some (.pointer (some ⟨gw,0,none⟩))/\x.cell? ⟨g,67,none⟩=some (.slice (some ⟨R,oi,none⟩) K.nt p)/\(Instr.loadAt 32 (.pointer (some ⟨R,oi+i*32,none⟩))).run prog x= .ok (.agg (ob (av K.tx i)).toArray) x):=fun x hx=>by
    obtain⟨ce,ch,e,b7⟩:=hx.jn.id bj;cases e;exact⟨hx.jn.c0,hx.jn.ci_,b7⟩
   obtain⟨f,V⟩:∃f,f=bp.drew:=⟨_,rfl⟩;have be:=Y.out.below (show Below bp.1.size bp f by rw[V];exact⟨rfl,rfl,rfl,kE,fun _ _=>rfl⟩);have cs:=l.out f be;have b:Hid _:=be;clear be T Y;refine ay (fun x=>x.cell? ⟨g,0,none⟩=some (.pointer (some ⟨gw,0,none⟩))/\x.cell? ⟨g,67,none⟩=some (.slice (some ⟨R,oi,none⟩) K.nt p)/\(Instr.loadAt 32 (.pointer (some ⟨R,oi+i*32,none⟩))).run prog x= .ok (.agg (ob (av K.tx i)).toArray) x) (fun k=>decide (19<=k)) kO ?_;rw[<-V];clear V;refine aa 0 cs ?_;refine aa 1 cs ?_;refine aa 2 cs ?_;refine aa 3 cs ?_;refine aa 4 cs ?_;refine aa 5 cs ?_;refine aa 6 cs ?_;refine aa 7 cs ?_;refine aa 8 cs ?_;refine aa 9 cs ?_;refine aC 10 (.agg (ob (av K.tx i)).toArray) cs ?hld ?_
   case hld=>exact fun x hx=>bO rfl rfl hx.2.2
   refine aa 11 cs ?_;refine aC 12 (.agg (pc (av K.tx i,(k:Int))).toArray) cs ?hbu ?_
   case hbu=>exact fun x _=>iq rfl (by simp only[k9,k4,k7];exact bq.out)
   refine cI 13 17 kO rfl rfl (fun j a=> ?bra) (fun j a=> ?brb)
   case bra=>
    rw[qb (show Region.wanted _ _=true from rfl)];have J:=ac.out f b.out.jn.wot;go_wp2_with fail;refine J.mono ?_;rintro e m ⟨rfl,bE,Z⟩;have bf:=b.out.recd bE Z;have r:=l.out m bf;have A:Hid _:=bf;clear J bE Z bf;go_wp2_with fail;refine a.out _ _ (fun _=>r) ?_;clear a j;refine aa 14 r ?_;refine aa 15 r ?_;refine aa 16 r ?_;refine aj 17 fun j a=> ?_;obtain⟨E,c⟩:∃b2,b2=m.alloc (.cells #[.int .i64 0,.int .i64 0,.bool false] 48):=⟨_,rfl⟩;have G:Below m.1.size m E:=by rw[c];exact bAl _ _
    have F:Blk E 48 m.1.size co0:=by rw[c];exact ao m _ _
    have o:=A.out.below G;have N:Hid (∀q,(Value.slice u sn y).ownBlock=some q->q≠m.1.size):=fun q e=>by have:=(qX A.out.jn.sp q e).2;omega
    have C:Hid (B0<=m.1.size/\X.1.size<=m.1.size):=⟨A.out.jn.wot.le.2,A.out.only.size⟩;go_wp2_with fail;rw[<-c];clear c;refine a.out _ _ (fun _=>l.out _ o) ?_;clear a j;have n:Hid _:=o.setN (nC _ m.1.size (.int .i64 bR) (.int .i64 bS) (.bool bY)) F N.out C.out;obtain⟨e0,b3,b4,b5,f1,b6,_⟩:=ma F G kE kF;clear o G F r;generalize m.1.size=W at*;refine aj 18 fun j a=> ?_;go_wp2_with fail;refine a.out _ _ (fun _=>l.out _ n.out) ?_;clear a j;refine aj 19 fun j a=> ?_;go_wp2_with fail;refine cU a ?_;exact P.out _ n.out
   case brb=>
    rw[qb (show Region.wanted _ _=true from rfl)];obtain⟨E,c⟩:∃b2,b2=f.alloc (.cells #[.int .i64 0,.int .i64 0,.bool false] 48):=⟨_,rfl⟩;have G:Below f.1.size f E:=by rw[c];exact bAl _ _
    have F:Blk E 48 f.1.size co0:=by rw[c];exact ao f _ _
    have o:=b.out.below G;have N:Hid (∀q,(Value.slice u sn y).ownBlock=some q->q≠f.1.size):=fun q e=>by have:=(qX b.out.jn.sp q e).2;omega
    have C:Hid (B0<=f.1.size/\X.1.size<=f.1.size):=⟨b.out.jn.wot.le.2,b.out.only.size⟩;go_wp2_with fail;rw[<-c];clear c;refine a.out _ _ (fun _=>l.out _ o) ?_;clear a j;have bt:Hid _:=F;have J:=ac.out E o.jn.wot;have bs:Hid _:=o;clear o F G;generalize f.1.size=W at*;refine aj 13 fun j a=> ?_;go_wp2_with fail;refine J.mono ?_;rintro e ab ⟨rfl,bk,bF⟩;have bg:=bs.out.recd bk bF;have S:=l.out ab bg;have t:=Blk.onlyS bt.out bk (by have:=C.out.1;omega);have n:Hid _:=bg.setN (nC _ W (.int .i64 bR) (.int .i64 bS) (.bool bY)) t N.out C.out;have e0:ab.cell? ⟨W,0,none⟩=some (.int .i64 0):=t.cell 0;have b3:ab.cell? ⟨W,1,none⟩=some (.int .i64 0):=t.cell 1;have b4:ab.cell? ⟨W,2,none⟩=some (.bool false):=t.cell 2;have b5:=t.free 0;have f1:=t.free 1;have b6:=t.free 2;clear J bk bF bg t;go_wp2_with fail;refine al a ?_;clear a j;refine aa 14 S ?_;refine aa 15 S ?_;refine aa 16 S ?_;refine aj 18 fun j a=> ?_;go_wp2_with fail;refine a.out _ _ (fun _=>l.out _ n.out) ?_;clear a j;refine aj 19 fun j a=> ?_;go_wp2_with fail;refine cU a ?_;exact P.out _ n.out
  ·have af:k=(K.tx i).no:=kH;have cc:¬(k:Int)< ((K.tx i).no:Int):=kH;have bc:Hid (tkB es (av K.tx i) (K.tx i).no=false):=Ba (by rw[<-af];exact O.out);clear T af;go_wp2_with fail;go_ret;rw[bc.out];exact⟨rfl,Y.out.jn,Y.out.only⟩
theorem ub(es)(P:Nat->List Int×Int)(n):IsRow 3 (fun i=>cnC es (P i)) n:=⟨fun i _=>by rw[mh];rfl,fun i _=>by rw[mh];simp[Value.oneCell']⟩
theorem Mj{gw g v K x y b}(a:BlOk K)(h:Blk b 189 g (jnC gw v K x y)):b.cell? ⟨g,68,none⟩=some y:=by
 rw[h.cell 68];show(blc v K++[_,_])[67]?= _;rw[m4 (by rw[eO v a];omega),eO v a]
 rfl
theorem Mk{es P h n k}(b:k<n)(a:mi es h (P k)=true):fb es P h n=true:=by
 unfold fb;rw[List.any_eq_true];exact⟨k,m3.2 b,a⟩
theorem Ml{c bS root bl be B B0 gw g v K J L N sn O P cu w ae d}(bf:RDisk cu d c)(ad:whB c bS root bl be=true)(h:JnW c root B B0 gw g v K J L N sn O P w ae)(i)(M:i<K.nt)(cz:(K.tx i).ni<=6)(cA:(K.tx i).no<=6)(bY:∀j,j< (K.tx i).no->0<=(K.tx i).V j/\(K.tx i).V j<=1000000000000)(cO:0<=K.h/\K.h<=1000000)(cB:sn<=1000):
 Calls prog 130 #[.pointer (some ⟨g,0,none⟩),.int .i64 (i:Nat)] ae fun e u'=>e= .returned (.tuple #[.int .i64 (fY (enL c root) (K.tx i) (av K.tx i) K.h),.int .i64 (fe (enL c root) (K.tx i) (av K.tx i) K.h)])/\Below w.1.size w u'/\(fe (enL c root) (K.tx i) (av K.tx i) K.h=0->∃ca cb,JnW c root B B0 gw g v K J L ca (sn+(K.tx i).ni) cb (fR P sn (fun j=>cnC (enL c root) ((K.tx i).P j))) w u'):=by
 have a0:=h.ct;obtain⟨cE,cP,b3,t0,cq,cr⟩:=h.tx M;rw[b3]at a0;have cy:(i:Int)< (K.nt:Int):=kH;have b8:=bAl ae (.cells (txc (v.tv i) (K.tx i)).toArray 121);have b6:Blk (ae.alloc (.cells (txc (v.tv i) (K.tx i)).toArray 121)) 121 ae.1.size (txc (v.tv i) (K.tx i)):=ao ae _ _;have bH:=h.below b8;have ar:Hid _:=bH;have aH:Hid _:=b6;have aX:Hid (B0<=ae.1.size):=h.wot.le.2;have X:Hid _:=fun x(hx:JnW c root B B0 gw g v K J L N sn O P w x)=>Bj bf ad hx i M kH;have V:Hid _:=fun x(hx:JnW c root B B0 gw g v K J L N sn O P w x)=>Mh bf ad hx.wot (v.tv i).ia (K.tx i).ni (v.tv i).ic (K.tx i).P (hx.ins M).pts (hx.ins M).ins kH (hx.insAt M);clear bf ad h b8 bH b6;go_enter func130,ntmps130;go_upto_region 2 with(refine aL rfl 121 _ _ rfl ae txz.toArray (txc (v.tv i) (K.tx i)).toArray 121 rfl rfl lR rfl (by simp[txc,Value.oneCell']) ?_)
 change Code.wp _ _ _ _ (ae.alloc (.cells (txc (v.tv i) (K.tx i)).toArray 121));generalize ae.alloc (.cells (txc (v.tv i) (K.tx i)).toArray 121)=bb at*;generalize ae.1.size=an at*;clear t0 cq cr a0;have W:Hid (∀x,Blk x 121 an (txc (v.tv i) (K.tx i))->JnW c root B B0 gw g v K J L N sn O P w x->x.cell? ⟨g,0,none⟩=some (.pointer (some ⟨gw,0,none⟩))/\x.cell? ⟨an,0,none⟩=some (.slice (v.tv i).ia (K.tx i).ni (v.tv i).ic)):=fun x ag cm=>⟨cm.c0,ag.cell 0⟩;obtain⟨Q,ac⟩:∃Q,Q=bb.drew:=⟨_,rfl⟩;have bd:Below bb.1.size bb Q:=by rw[ac];exact⟨rfl,rfl,rfl,kE,fun _ _=>rfl⟩
 have Z:=ar.out.below bd;have bh:=Blk.below aH.out bd;have a6:=V.out Q Z;have bF:Hid (B0<=Q.1.size):=Z.wot.le.2;have cs:=W.out Q bh Z;have H:=kG Z bh;clear bd Z bh;refine ay (fun x=>x.cell? ⟨g,0,none⟩=some (.pointer (some ⟨gw,0,none⟩))/\x.cell? ⟨an,0,none⟩=some (.slice (v.tv i).ia (K.tx i).ni (v.tv i).ic)) (fun k=>decide (11<=k)) kO ?_;rw[<-ac];clear ac;refine aa 0 cs ?_;refine aa 1 cs ?_;refine aa 2 cs ?_;refine aa 3 cs ?_;refine aa 4 cs ?_;refine aa 5 cs ?_;refine aj 6 fun I p=> ?_;go_wp2_with fail;refine a6.mono ?_;rintro e R (⟨m,ce,ci,rfl,ab⟩|⟨a3,rfl,bi,cc⟩)
 ·have A:=H.out.1.recd ab.only ab.wot;have ah:=Blk.onlyS H.out.2 ab.only (by have:=aX.out;omega);have a:=W.out R ah A;have bP:=A0 (v.tv i).oa (K.tx i).no (v.tv i).oc (K.tx i).V R (A.ins M).outs bY kH;have cC:=li bY (K.tx i).no kE;have co:bV (K.tx i).V (K.tx i).no<=6000000000000:=kH;have S:=kG A (kR ah (kR ab.row m));have cl:R.cell? ⟨an,1,none⟩=some (.slice (v.tv i).oa (K.tx i).no (v.tv i).oc):=ah.cell 1;have bs:Hid _:=fun u=>Bf (id:=av K.tx i) (h:=K.h) m u;have bt:Hid _:=fun u o=>Bg (id:=av K.tx i) (h:=K.h) m u o;have bv:Hid _:=fun u o bg=>Bh (id:=av K.tx i) (h:=K.h) m u o bg;have U:Hid _:=fun k=>tZ (enL c root) (K.tx i).P k;clear a6 ab A ah H V m aH ar;go_wp2_with fail;refine al p ?_;clear p I;refine aa 7 a ?_;refine aa 8 a ?_;refine aa 9 a ?_;refine aa 10 a ?_;refine aj 11 fun I p=> ?_;go_wp2_with fail;refine cU p ?_;clear a p I cs;go_wp2_with fail;refine bP.mono ?_;rintro e w' ⟨rfl,b4⟩;obtain rfl:=b4.symm;clear b4 bP cl;have aO:Hid (-bV (K.tx i).V (K.tx i).no=fc (enL c root) (K.tx i).P 0-bV (K.tx i).V (K.tx i).no):=by show _= _;simp[fc,bV]
  generalize bV (K.tx i).V (K.tx i).no=am at*;go_wp2_with fail;go_loopw [9,38] (fun s j wr=> ∃k:Nat,s= .int .i64 (fc (enL c root) (K.tx i).P k-am)/\j= .int .i64 (k:Nat)/\k<=(K.tx i).ni/\fb (enL c root) (K.tx i).P K.h k=false/\Below R.1.size R wr) (fun _ j _=>(K.tx i).ni-(intOf j).toNat)
  case atStart=>exact⟨0,by rw[aO.out],rfl,kX _,rfl,kF⟩
  case round=>
   obtain⟨k,rfl,rfl,ag,t,E⟩:=hrel;obtain⟨l,rfl⟩:∃x,x=wr:=⟨_,rfl⟩;clear aO;by_cases n:k< (K.tx i).ni
   ·have cn:(k:Int)< ((K.tx i).ni:Int):=kH;obtain⟨b,off,rfl,cx,af⟩:=((ORow.reads S.out.2.2.1 (ub _ _ _)).below E).at_ kH;have b0:=qo (enL c root) ((K.tx i).P k);have Y:Hid (fc (enL c root) (K.tx i).P (k+1)=fc (enL c root) (K.tx i).P k+(coV (enL c root) ((K.tx i).P k)).1):=rfl;have bz:Hid _:=fun u=>bs.out (Mk n u);have ap:Hid (mi (enL c root) K.h ((K.tx i).P k)=false->fb (enL c root) (K.tx i).P K.h (k+1)=false):=fun u=>by rw[Bd,t,u];rfl
    have G:Hid (mi (enL c root) K.h ((K.tx i).P k)=((coV (enL c root) ((K.tx i).P k)).2.2&&decide (K.h< (coV (enL c root) ((K.tx i).P k)).2.1+3))):=rfl;have a4:=U.out k;have bn:=af k 0 n kH;have bp:=af k 1 n kH;have bq:=af k 2 n kH;rw[mh]at bn bp bq;generalize coV (enL c root) ((K.tx i).P k)=ck at*;obtain⟨D,y,z⟩:=ck;have cf:l.cell? ⟨b,off+k*3,none⟩=some (.int .i64 D):=bn;have cg:l.cell? ⟨b,off+k*3+1,none⟩=some (.int .i64 y):=bp;have ch:l.cell? ⟨b,off+k*3+2,none⟩=some (.bool z):=bq;dsimp only at b0 Y G;have b9:=bAl l (.cells #[.int .i64 D,.int .i64 y,.bool z] 48);have ai:Blk (l.alloc (.cells #[.int .i64 D,.int .i64 y,.bool z] 48)) 48 l.1.size [.int .i64 D,.int .i64 y,.bool z]:=ao l _ _;have r:Hid _:=E.trans (b9.mono E.size);clear af bn bp bq E b9 t;go_upto_region 9 with(refine aL rfl 48 _ _ rfl l co0.toArray #[.int .i64 D,.int .i64 y,.bool z] 48 rfl rfl dV rfl rfl ?_)
    change Code.wp _ _ _ _ (l.alloc (.cells #[.int .i64 D,.int .i64 y,.bool z] 48));generalize l.alloc (.cells #[.int .i64 D,.int .i64 y,.bool z] 48)=bc at*;generalize l.1.size=bk at*;have e0:bc.cell? ⟨bk,0,none⟩=some (.int .i64 D):=ai.cell 0;have cG:bc.cell? ⟨bk,1,none⟩=some (.int .i64 y):=ai.cell 1;have cH:bc.cell? ⟨bk,2,none⟩=some (.bool z):=ai.cell 2;have cL:=(S.out.1.below r.out).ch;have q:Hid _:=(S.out.1.below r.out).bel;clear ai cf cg ch;generalize fc (enL c root) (K.tx i).P k=ak at*;cases z with
    |false=>
     have a8:Hid _:=ap.out G.out
     go_quiet (fail)
     go_wp2_with fail;go_roundw
     case rel=>exact⟨k+1,by rw[Y.out];go_num,by go_num,kH,a8.out,r.out.trans ((sP kF _).mono r.out.size)⟩
     case measure=>simp[intOf];omega
    |true=>
     by_cases a1:K.h<y+3
     ·have f:Hid _:=bz.out (by rw[G.out,q6 a1];rfl)
      go_quiet (fail)
      go_wp2_with fail
      go_ret2
      rw[f.out.1,f.out.2];exact⟨rfl,q.out.trans ((sP kF _).mono q.out.size),fun h=>by cases h⟩
     ·have a8:Hid _:=ap.out (by rw[G.out,q5 a1];rfl)
      go_quiet (fail)
      go_wp2_with fail;go_roundw
      case rel=>exact⟨k+1,by rw[Y.out];go_num,by go_num,kH,a8.out,r.out.trans ((sP kF _).mono r.out.size)⟩
      case measure=>simp[intOf];omega
   ·have a2:k=(K.tx i).ni:=kH;have b2:¬(k:Int)< ((K.tx i).ni:Int):=kH;have a4:=U.out k;rw[a2]at t a4 b2 ⊢;have ba:=S.out.1.below E;have a9:=X.out l ba;have bx:Hid _:=E;have F:Hid _:=fun o=>bt.out t o;have T:Hid _:=fun o bg=>bv.out t o bg;have q:Hid _:=ba.bel;clear ba t bs bt bv U X a2 n ag E;generalize fc (enL c root) (K.tx i).P (K.tx i).ni=ak at*;by_cases n:ak<am
    ·have f:Hid _:=F.out (kV n);have b1:ak-am<0:=kH;clear a9 F T;go_wp2_with fail
     go_ret2
     rw[f.out.1,f.out.2];exact⟨rfl,q.out,fun h=>by cases h⟩
    ·have b1:¬ak-am<0:=kH;have bu:Hid _:=fun o=>F.out (kT o);have bw:Hid _:=fun o=>T.out kH o;clear F T;generalize tkB (enL c root) (av K.tx i) (K.tx i).no=ct at*;go_wp2_with fail;refine a9.mono ?_;rintro e cS ⟨rfl,C,bj⟩;clear a9;cases ct with
     |true=>
      have f:Hid _:=bu.out rfl;have a7:Hid _:=C.bel;clear C bj;go_wp2_with fail
      go_ret2
      rw[f.out.1,f.out.2];exact⟨rfl,a7.out,fun h=>by cases h⟩
     |false=>
      have f:Hid _:=bw.out rfl;have cw:=C.cs_;have a5:=C.sp;have b5:=C.wot.le.2;have aw:Hid _:=C;have cd:=ORow.reads ((ORow.below S.out.2.2.1 bx.out).onlyS bj (fun k ag e=>by have:=bF.out;omega)) (ub (enL c root) (K.tx i).P _);have bE:Hid _:=fun x(hx:Blk x 189 g (jnC gw v K (.slice J K.nt L) (.slice N sn O)))=>Mj C.bl.ok hx;clear C bj;go_wp2_with (refine oI rfl _ _ A6 rfl B0 N sn O P rfl a5 ce (K.tx i).ni ci (fun j=>cnC (enL c root) ((K.tx i).P j)) rfl cd kH kH b5 ?_;rintro cD cF cv cp bR;have bN:=aw.out.spent cp bR;have b7:=Blk.keepT aw.out.blk (bJ a5 bR kN);have cR:=bE.out cv b7;have cM:=Blk.free b7 68)
      go_ret2
      rw[f.out.1,f.out.2];exact⟨rfl,bN.bel,fun _=>⟨_,_,bN⟩⟩
 ·have A:=H.out.1.recd bi cc;have a:=W.out R (Blk.onlyS H.out.2 bi (by have:=aX.out;omega)) A;have f:Hid _:=ua (id:=av K.tx i) (h:=K.h) a3;have q:Hid _:=A.bel;clear a6 bi cc A H V X a3;go_wp2_with fail;refine al p ?_;clear p I;refine aa 7 a ?_;refine aa 8 a ?_;refine aa 9 a ?_;refine aa 10 a ?_;refine aj 11 fun I p=> ?_;go_wp2_with fail;refine cU p ?_;clear a p I cs;go_wp2_with fail
  go_ret2
  rw[f.out.1,f.out.2];exact⟨rfl,q.out,fun h=>by cases h⟩
