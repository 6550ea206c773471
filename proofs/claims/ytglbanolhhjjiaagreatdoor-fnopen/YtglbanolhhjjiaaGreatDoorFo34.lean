import Derived.Test.YtglbanolhhjjiaaGreatDoorFo33
import Derived.Test.YtglbanolhhjjiaaGreatDoorFo16
namespace Go.Proofs.YtglbanolhhjjiaaGreatDoor
open Go.Proofs.Tryz
open Go.RowKit
set_option linter.unusedVariables false
set_option maxRecDepth 100000
set_option maxHeartbeats 32000000
theorem Gp(v w):(Go.method 428 122 v "loop.example/s01906/impl.page").run prog w= .ok (120,v) w:=uA
def rdV(d:DV)(K:DK)(g:Nat):List Value:=[.slice d.sa K.n d.sc,.slice d.pa K.m d.pc,.map (some g)]
theorem yg{B w a n c l}(i:Own B w a n c l)(e:IsB l):BsT w a n c l:=
 ⟨i.bs e,fun k=>by
  rcases i.2 with⟨b,j⟩|⟨g,h,d,b,_,f,_⟩
  ·omega
  ·simp only[DC]at b;exact⟨g,0,d,(0,0),b.1,f⟩⟩
theorem Gq{l m d K g w0}(t:RDisk w0 d K)(o:dOk K)(q:Errs w0 l m)(s:w0.ownsMap prog 3 (plainElem prog 3) g K.m (dz K.At K.m)):
 Src (pgD K) w0.1.size 122 120 (.agg (rdV d K g).toArray) (fun u=>Below w0.1.size w0 u) (fun _=>False) where
 low:=fun k e=>e.elim
 meth:=fun w=>Gp _ w
 ent:=fun _ _=>rfl
 keep:=fun u y b i _=>b.trans i
 page:=fun u id b _ _=>by
  have p:u.ownsMap prog 3 (plainElem prog 3) g K.m (dz K.At K.m):=by
   obtain⟨es,j,h,r⟩:=s;exact⟨es,j,(b.block g (vR.1 h).1).trans h,r⟩
  refine BV (vx l m d K id g u (t.below b) o (q.below b) p) ?_;rintro e w' ⟨i,⟨h,a,c,f,n⟩|⟨h,v,x,f⟩⟩
  ·exact⟨b.trans (i.mono b.size),OnlyS.ofBelow i,u5 ⟨h,a,c,f,yg n (ml (t.below b) id)⟩⟩
  ·refine⟨b.trans (i.mono b.size),OnlyS.ofBelow i,u4 ⟨h,?_⟩⟩;rcases f with f|f
   ·exact⟨0,none,0,0,m,f⟩
   ·exact⟨0,none,0,0,l,f⟩
noncomputable def whB(K:DK)(gen root used free:Int):Bool:=match aR K with|true=>hoB (pgD K) (nPg K) ((nPg K:Nat):Int) gen root used free|false=>false
theorem yh:(prog.info? 122).map (·.size)=some 3:=uA
theorem Gr(d K g):∀u∈rdV d K g,u.oneCell'=true:=by intro u a;simp[rdV]at a;rcases a with rfl|rfl|rfl<;>rfl
theorem Gs(bv bx d K f b c a w)(bE:RDisk w d K)(bn:Errs w bv bx):
 Calls prog 62 #[av d K,.agg (al f b c a).toArray] w fun e w'=>Below w.1.size w w'/\∃cs:List Value,cs.length=4/\(∀u∈cs,u.oneCell'=true)/\e= .returned (.tuple #[.agg cs.toArray,.bool (whB K f b c a)]):=by
 obtain⟨D,l⟩:=aa (w.alloc (.cells #[.slice d.sa K.n d.sc,.slice d.pa K.m d.pc] 35));obtain⟨E,m⟩:=aa (D.alloc (.cells (al f b c a).toArray 36));obtain⟨G,n⟩:=aa (E.alloc (.cells hoZ.toArray 102));have ba:Below w.1.size w D:=by rw[l];exact bAl _ _
 have bb:Below D.1.size D E:=by rw[m];exact bAl _ _
 have bc:Below E.1.size E G:=by rw[n];exact bAl _ _
 have bf:D.1.size=w.1.size+1:=by rw[l];simp
 have bg:E.1.size=w.1.size+1+1:=by rw[m];simp[bf]
 have bC:G.1.size=w.1.size+1+1+1:=by rw[n];simp[bg]
 have Y:=bb.trans (bc.mono bb.size);have W:=(by rw[l];exact aq w _ _:Blk D 35 w.1.size [.slice d.sa K.n d.sc,.slice d.pa K.m d.pc]).below Y;have a9:=(by rw[m,<-bf];exact aq D _ _:Blk E 36 (w.1.size+1) (al f b c a)).below bc;have af:Blk G 102 (w.1.size+1+1) hoZ:=by rw[n,<-bg];exact aq E _ _
 have F:=ba.trans (Y.mono ba.size);have bs:(prog.info? 35).map (·.size)=some (#[Value.slice d.sa K.n d.sc,Value.slice d.pa K.m d.pc]:Array Value).size:=gD;have bu:(prog.info? 102).map (·.size)=some hoZ.toArray.size:=lp;have L:=bE.below F;have a3:=bn.below F;have ab:Hid _:=F;have bF:w.1.size+1+1<G.1.size:=t7;clear ba bb bc bf bg Y F bC bE bn;cases o:aR K with
 |false=>
  have C:=uC d K G L (fun bA=>by rw[fj bA]at o;cases o);have a6:Hid (whB K f b c a=false):=by show whB K f b c a=false;unfold whB;rw[o]
  unfold av at C ⊢;unfold rZ at C;clear L a3 o;go_enter func62,ntmps62;go_upto_region 1 with fail
  change Code.wp _ _ _ _ (((w.alloc (.cells #[.slice d.sa K.n d.sc,.slice d.pa K.m d.pc] 35)).alloc (.cells (al f b c a).toArray 36)).alloc (.cells hoZ.toArray 102));rw[<-l,<-m,<-n];clear l m n;go_wp2_with (refine BD rfl 35 _ rfl w.1.size rfl 35 #[.slice d.sa K.n d.sc,.slice d.pa K.m d.pc] (0,0) _ W underlying35 rfl bs ?_);refine C.mono ?_;rintro e p ⟨rfl,s⟩;have N:=bAl p (.cells #[.slice none 0 0,.slice none 0 0,.map none] 122);have z:=(af.below s).below N;have a4:=(ab.out.trans (s.mono ab.out.size)).trans (N.mono (by have:=s.size;omega));have X:=du (p.alloc (.cells #[.slice none 0 0,.slice none 0 0,.map none] 122)) (w.1.size+1+1) hoZ.toArray;have a8:=z.setRow hoZ;have Q:Hid _:=a4.trans (X.below (B:=w.1.size) t7 a4.size);clear C af W a9 s N a4 X;go_wp2_with (first|(refine bt rfl 122 _ _ rfl p #[.slice none 0 0,.slice none 0 0,.map none] #[.slice none 0 0,.slice none 0 0,.map none] 122 rfl rfl yh rfl rfl ?_)|(refine BO rfl 102 _ _ rfl (w.1.size+1+1) hoZ.toArray rfl rfl 102 _ z bu rfl (df jJ) ?_));refine BB (v:= .tuple #[.agg hoZ.toArray,.bool false]) ?_ rfl ⟨Q.out,hoZ,rfl,jJ,by rw[a6.out]⟩;exact cI results62 _ _ (w.1.size+1+1) 102 hoZ.toArray _ rfl a8 underlying102 rfl bu rfl
 |true=>
  have y:=gK o;have bB:=y.1.2.1;have C:=uE d.sa d.pa d.sc d.pc d.sA d.pA d.sN d.sC d.pN d.pC K G L.safe L.pend y;have a6:Hid (whB K f b c a=hoB (pgD K) (nPg K) ((nPg K:Nat):Int) f b c a):=by show whB K f b c a= _;unfold whB;rw[o]
  have S:=t6 L a3;unfold av;clear L a3 o;go_enter func62,ntmps62;go_upto_region 1 with fail
  change Code.wp _ _ _ _ (((w.alloc (.cells #[.slice d.sa K.n d.sc,.slice d.pa K.m d.pc] 35)).alloc (.cells (al f b c a).toArray 36)).alloc (.cells hoZ.toArray 102));rw[<-l,<-m,<-n];clear l m n;go_wp2_with (refine BD rfl 35 _ rfl w.1.size rfl 35 #[.slice d.sa K.n d.sc,.slice d.pa K.m d.pc] (0,0) _ W underlying35 rfl bs ?_);refine C.mono ?_;rintro e p ⟨g,rfl,s,aX⟩;have N:=bAl p (.cells (rdV d K g).toArray 122);have Z:=s.trans (N.mono s.size);have z:=af.below Z;have ap:=W.below Z;have aA:=a9.below Z;have aT:=aq p 122 (rdV d K g).toArray;have a0:=aX.alloc (.cells (rdV d K g).toArray 122);have h:=t6 Z (u2 z (u2 ap (u2 aA (u2 aT a0))));clear C af W a9 s aX N Z z ap aA aT a0;go_upto_region 4 with(first|(refine bt rfl 122 _ _ rfl p #[.slice none 0 0,.slice none 0 0,.map none] (rdV d K g).toArray 122 rfl rfl yh rfl (df (Gr d K g)) ?_))
  change Code.wp _ _ _ _ (p.alloc (.cells (rdV d K g).toArray 122));generalize p.alloc (.cells (rdV d K g).toArray 122)=H at*;generalize p.1.size=O at*;have R:Hid (∀u,Below H.1.size H u->u.cell? ⟨O,0,none⟩=some (.slice d.sa K.n d.sc)/\u.cell? ⟨O,1,none⟩=some (.slice d.pa K.m d.pc)/\u.cell? ⟨O,2,none⟩=some (.map (some g))/\u.cell? ⟨w.1.size,0,none⟩=some (.slice d.sa K.n d.sc)/\u.cell? ⟨w.1.size,1,none⟩=some (.slice d.pa K.m d.pc)/\u.cell? ⟨w.1.size+1,0,none⟩=some (.int .i64 f)/\u.cell? ⟨w.1.size+1,1,none⟩=some (.int .i64 b)/\u.cell? ⟨w.1.size+1,2,none⟩=some (.int .i64 c)/\u.cell? ⟨w.1.size+1,3,none⟩=some (.int .i64 a)):=fun u q=>
   ⟨Blk.cell (Blk.below h.out.2.2.2.2.1 q) 0,Blk.cell (Blk.below h.out.2.2.2.2.1 q) 1,Blk.cell (Blk.below h.out.2.2.2.2.1 q) 2,Blk.cell (h.out.2.2.1.below q) 0,Blk.cell (h.out.2.2.1.below q) 1,Blk.cell (h.out.2.2.2.1.below q) 0,Blk.cell (h.out.2.2.2.1.below q) 1,Blk.cell (h.out.2.2.2.1.below q) 2,Blk.cell (h.out.2.2.2.1.below q) 3⟩
  have x:=R.out H.drew ⟨rfl,rfl,rfl,t1,fun _ _=>rfl⟩;refine az (fun u=>u.cell? ⟨O,0,none⟩=some (.slice d.sa K.n d.sc)/\u.cell? ⟨O,1,none⟩=some (.slice d.pa K.m d.pc)/\u.cell? ⟨O,2,none⟩=some (.map (some g))/\u.cell? ⟨w.1.size,0,none⟩=some (.slice d.sa K.n d.sc)/\u.cell? ⟨w.1.size,1,none⟩=some (.slice d.pa K.m d.pc)/\u.cell? ⟨w.1.size+1,0,none⟩=some (.int .i64 f)/\u.cell? ⟨w.1.size+1,1,none⟩=some (.int .i64 b)/\u.cell? ⟨w.1.size+1,2,none⟩=some (.int .i64 c)/\u.cell? ⟨w.1.size+1,3,none⟩=some (.int .i64 a)) (fun k=>decide (8<=k)) uA ?_;refine ai 0 x ?_;refine ai 1 x ?_;refine ai 2 x ?_;refine ai 4 x ?_;have a2:=nU d.sa d.pa d.sc d.pc K H.drew bB;rw[show(K.n:Int)/4=((nPg K:Nat):Int)by unfold nPg;omega]at a2;refine ah 3 fun A j=> ?_;go_wp2_with fail;refine a2.mono ?_;rintro e P ⟨rfl,I⟩;have J:Below H.1.size H P:=⟨I.os,I.tape,I.output,I.size,I.block⟩;have ag:=h.out.1.trans (J.mono h.out.1.size);have a1:P.ownsMap prog 3 (plainElem prog 3) g K.m (dz K.At K.m):=by
   obtain⟨es,ae,bm,r⟩:=h.out.2.2.2.2.2;exact⟨es,ae,(J.block g (vR.1 bm).1).trans bm,r⟩
  have bk:=Gn (kO S.out.1 y) (fun t=>mn y t) (Gq (S.out.1.below ag) y (S.out.2.below ag) a1) (nPg K) f b c a P t2 t1;have aB:=h.out.2.1.below J;have an:=ab.out.trans (ag.mono ab.out.size);have ac:=t6 aB an;have bl:=R.out P J;have am:Hid _:=J;clear a2 I J ag a1 aB an h;go_wp2_with fail;refine ao j ?_;clear j A;refine ah 5 fun A j=> ?_;go_wp2_with fail;refine bk.mono ?_;rintro e bd ⟨M,_,cs,U,V,rfl⟩;have ad:Below P.1.size P bd:=⟨M.os,M.tape,M.output,M.size,fun i bz=>M.block i bz (fun e=>e)⟩;have aS:=ac.out.1.below ad;have X:=du bd (w.1.size+1+1) cs.toArray;have a8:=aS.setRow cs;have a5:=ac.out.2.trans (ad.mono ac.out.2.size);have br:(prog.info? 102).map (·.size)=some cs.toArray.size:=by rw[v7,U];exact lp
  have Q:Hid _:=a5.trans (X.below (B:=w.1.size) t7 a5.size);have a7:=df V;have ak:=t6 U V;have T:=R.out bd (am.out.trans (ad.mono am.out.size));clear bk M ad X a5 ac V;go_wp2_with fail;refine ao j ?_;clear j A;refine ai 6 T ?_;refine ai 7 T ?_;refine ah 8 fun A j=> ?_;refine wp_store_row 102 _ _ rfl (w.1.size+1+1) cs.toArray rfl rfl 102 _ aS br (by rw[v7,v7,U];rfl) a7 ?_;refine ao j ?_;clear j A;refine ah 9 fun A j=> ?_;go_wp2_with fail;refine ao j ?_;clear j A;refine bi ?_;clear x bl T;go_wp2_with fail;refine BB (v:= .tuple #[.agg cs.toArray,.bool (hoB (pgD K) (nPg K) ((nPg K:Nat):Int) f b c a)]) ?_ rfl ⟨Q.out,cs,ak.out.1,ak.out.2,by rw[a6.out]⟩;exact cI results62 _ _ (w.1.size+1+1) 102 cs.toArray _ rfl a8 underlying102 rfl br rfl
