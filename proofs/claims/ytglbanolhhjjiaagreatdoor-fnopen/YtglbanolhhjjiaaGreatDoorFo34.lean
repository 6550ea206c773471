import Derived.Test.YtglbanolhhjjiaaGreatDoorFo33
import Derived.Test.YtglbanolhhjjiaaGreatDoorFo16
namespace Go.Proofs.YtglbanolhhjjiaaGreatDoor
open Go.Proofs.Tryz
open Go.RowKit
set_option linter.unusedVariables false
set_option maxRecDepth 100000
set_option maxHeartbeats 32000000
theorem Gp(v w):(Go.method 428 122 v "loop.example/s01906/impl.page").run prog w= .ok (120,v) w:=vk
def rdV(d:DV)(K:DK)(g:Nat):List Value:=[.slice d.sa K.n d.sc,.slice d.pa K.m d.pc,.map (some g)]
theorem yg{B w a n c l}(h:Own B w a n c l)(e:IsB l):BsT w a n c l:=
 ⟨h.bs e,fun k=>by
  rcases h.2 with⟨b,j⟩|⟨g,i,d,b,_,f,_⟩
  ·omega
  ·simp only[D5]at b;exact⟨g,0,d,(0,0),b.1,f⟩⟩
theorem Gq{m n d K g w0}(h:RDisk w0 d K)(p:dOk K)(s:Errs w0 m n)(t:w0.ownsMap prog 3 (plainElem prog 3) g K.m (dz K.At K.m)):
 Src (pgD K) w0.1.size 122 120 (.agg (rdV d K g).toArray) (fun u=>Below w0.1.size w0 u) (fun _=>False) where
 low:=fun k e=>e.elim
 meth:=fun w=>Gp _ w
 ent:=fun _ _=>rfl
 keep:=fun u y b j _=>b.trans j
 page:=fun u id b _ _=>by
  have q:u.ownsMap prog 3 (plainElem prog 3) g K.m (dz K.At K.m):=by
   obtain⟨es,l,i,r⟩:=t;exact⟨es,l,(b.block g (wy.1 i).1).trans i,r⟩
  refine CC (vx m n d K id g u (h.below b) p (s.below b) q) ?_;rintro e w' ⟨j,⟨i,a,c,f,o⟩|⟨i,v,x,f⟩⟩
  ·exact⟨b.trans (j.mono b.size),OnlyS.ofBelow j,v7 ⟨i,a,c,f,yg o (ml (h.below b) id)⟩⟩
  ·refine⟨b.trans (j.mono b.size),OnlyS.ofBelow j,v6 ⟨i,?_⟩⟩;rcases f with f|f
   ·exact⟨0,none,0,0,n,f⟩
   ·exact⟨0,none,0,0,m,f⟩
noncomputable def whB(K:DK)(gen root used free:Int):Bool:=match aR K with|true=>hoB (pgD K) (nPg K) ((nPg K:Nat):Int) gen root used free|false=>false
theorem yh:(prog.info? 122).map (·.size)=some 3:=vk
theorem Gr(d K g):∀u∈rdV d K g,u.oneCell'=true:=by intro u a;simp[rdV]at a;rcases a with rfl|rfl|rfl<;>rfl
theorem Gs(bu bv d K f b c a w)(h:RDisk w d K)(bm:Errs w bu bv):
 Calls prog 62 #[av d K,.agg (al f b c a).toArray] w fun e w'=>Below w.1.size w w'/\∃cs:List Value,cs.length=4/\(∀u∈cs,u.oneCell'=true)/\e= .returned (.tuple #[.agg cs.toArray,.bool (whB K f b c a)]):=by
 obtain⟨E,m⟩:=aa (w.alloc (.cells #[.slice d.sa K.n d.sc,.slice d.pa K.m d.pc] 35));obtain⟨F,n⟩:=aa (E.alloc (.cells (al f b c a).toArray 36));obtain⟨H,o⟩:=aa (F.alloc (.cells hoZ.toArray 102));have a9:Below w.1.size w E:=by rw[m];exact bAl _ _
 have ba:Below E.1.size E F:=by rw[n];exact bAl _ _
 have bb:Below F.1.size F H:=by rw[o];exact bAl _ _
 have bd:E.1.size=w.1.size+1:=by rw[m];simp
 have bf:F.1.size=w.1.size+1+1:=by rw[n];simp[bd]
 have bB:H.1.size=w.1.size+1+1+1:=by rw[o];simp[bf]
 have Z:=ba.trans (bb.mono ba.size);have X:=(by rw[m];exact aq w _ _:Blk E 35 w.1.size [.slice d.sa K.n d.sc,.slice d.pa K.m d.pc]).below Z;have a8:=(by rw[n,<-bd];exact aq E _ _:Blk F 36 (w.1.size+1) (al f b c a)).below bb;have af:Blk H 102 (w.1.size+1+1) hoZ:=by rw[o,<-bf];exact aq F _ _
 have G:=a9.trans (Z.mono a9.size);have br:(prog.info? 35).map (·.size)=some (#[Value.slice d.sa K.n d.sc,Value.slice d.pa K.m d.pc]:Array Value).size:=gD;have bs:(prog.info? 102).map (·.size)=some hoZ.toArray.size:=lp;have M:=h.below G;have a2:=bm.below G;have ab:Hid _:=G;have bC:w.1.size+1+1<H.1.size:=uA;clear a9 ba bb bd bf Z G bB h bm;cases p:aR K with
 |false=>
  have D:=uC d K H M (fun bz=>by rw[fj bz]at p;cases p);have a5:Hid (whB K f b c a=false):=by show whB K f b c a=false;unfold whB;rw[p]
  unfold av at D ⊢;unfold rZ at D;clear M a2 p;go_enter func62,ntmps62;go_upto_region 1 with fail
  change Code.wp _ _ _ _ (((w.alloc (.cells #[.slice d.sa K.n d.sc,.slice d.pa K.m d.pc] 35)).alloc (.cells (al f b c a).toArray 36)).alloc (.cells hoZ.toArray 102));rw[<-m,<-n,<-o];clear m n o;go_wp2_with (refine B5 rfl 35 _ rfl w.1.size rfl 35 #[.slice d.sa K.n d.sc,.slice d.pa K.m d.pc] (0,0) _ X underlying35 rfl br ?_);refine D.mono ?_;rintro e q ⟨rfl,x⟩;have O:=bAl q (.cells #[.slice none 0 0,.slice none 0 0,.map none] 122);have A:=(af.below x).below O;have a3:=(ab.out.trans (x.mono ab.out.size)).trans (O.mono (by have:=x.size;omega));have Y:=du (q.alloc (.cells #[.slice none 0 0,.slice none 0 0,.map none] 122)) (w.1.size+1+1) hoZ.toArray;have a7:=A.setRow hoZ;have R:Hid _:=a3.trans (Y.below (B:=w.1.size) uA a3.size);clear D af X a8 x O a3 Y;go_wp2_with (first|(refine bt rfl 122 _ _ rfl q #[.slice none 0 0,.slice none 0 0,.map none] #[.slice none 0 0,.slice none 0 0,.map none] 122 rfl rfl yh rfl rfl ?_)|(refine B8 rfl 102 _ _ rfl (w.1.size+1+1) hoZ.toArray rfl rfl 102 _ A bs rfl (df jJ) ?_));refine B3 (v:= .tuple #[.agg hoZ.toArray,.bool false]) ?_ rfl ⟨R.out,hoZ,rfl,jJ,by rw[a5.out]⟩;exact cI results62 _ _ (w.1.size+1+1) 102 hoZ.toArray _ rfl a7 underlying102 rfl bs rfl
 |true=>
  have z:=gK p;have bA:=z.1.2.1;have D:=uE d.sa d.pa d.sc d.pc d.sA d.pA d.sN d.sC d.pN d.pC K H M.safe M.pend z;have a5:Hid (whB K f b c a=hoB (pgD K) (nPg K) ((nPg K:Nat):Int) f b c a):=by show whB K f b c a= _;unfold whB;rw[p]
  have T:=uv M a2;unfold av;clear M a2 p;go_enter func62,ntmps62;go_upto_region 1 with fail
  change Code.wp _ _ _ _ (((w.alloc (.cells #[.slice d.sa K.n d.sc,.slice d.pa K.m d.pc] 35)).alloc (.cells (al f b c a).toArray 36)).alloc (.cells hoZ.toArray 102));rw[<-m,<-n,<-o];clear m n o;go_wp2_with (refine B5 rfl 35 _ rfl w.1.size rfl 35 #[.slice d.sa K.n d.sc,.slice d.pa K.m d.pc] (0,0) _ X underlying35 rfl br ?_);refine D.mono ?_;rintro e q ⟨g,rfl,x,aT⟩;have O:=bAl q (.cells (rdV d K g).toArray 122);have u5:=x.trans (O.mono x.size);have A:=af.below u5;have an:=X.below u5;have ap:=a8.below u5;have aS:=aq q 122 (rdV d K g).toArray;have aX:=aT.alloc (.cells (rdV d K g).toArray 122);have j:=uv u5 (vJ A (vJ an (vJ ap (vJ aS aX))));clear D af X a8 x aT O u5 A an ap aS aX;go_upto_region 4 with(first|(refine bt rfl 122 _ _ rfl q #[.slice none 0 0,.slice none 0 0,.map none] (rdV d K g).toArray 122 rfl rfl yh rfl (df (Gr d K g)) ?_))
  change Code.wp _ _ _ _ (q.alloc (.cells (rdV d K g).toArray 122));generalize q.alloc (.cells (rdV d K g).toArray 122)=I at*;generalize q.1.size=P at*;have S:Hid (∀u,Below I.1.size I u->u.cell? ⟨P,0,none⟩=some (.slice d.sa K.n d.sc)/\u.cell? ⟨P,1,none⟩=some (.slice d.pa K.m d.pc)/\u.cell? ⟨P,2,none⟩=some (.map (some g))/\u.cell? ⟨w.1.size,0,none⟩=some (.slice d.sa K.n d.sc)/\u.cell? ⟨w.1.size,1,none⟩=some (.slice d.pa K.m d.pc)/\u.cell? ⟨w.1.size+1,0,none⟩=some (.int .i64 f)/\u.cell? ⟨w.1.size+1,1,none⟩=some (.int .i64 b)/\u.cell? ⟨w.1.size+1,2,none⟩=some (.int .i64 c)/\u.cell? ⟨w.1.size+1,3,none⟩=some (.int .i64 a)):=fun u s=>
   ⟨Blk.cell (Blk.below j.out.2.2.2.2.1 s) 0,Blk.cell (Blk.below j.out.2.2.2.2.1 s) 1,Blk.cell (Blk.below j.out.2.2.2.2.1 s) 2,Blk.cell (j.out.2.2.1.below s) 0,Blk.cell (j.out.2.2.1.below s) 1,Blk.cell (j.out.2.2.2.1.below s) 0,Blk.cell (j.out.2.2.2.1.below s) 1,Blk.cell (j.out.2.2.2.1.below s) 2,Blk.cell (j.out.2.2.2.1.below s) 3⟩
  have y:=S.out I.drew ⟨rfl,rfl,rfl,t6,fun _ _=>rfl⟩;refine az (fun u=>u.cell? ⟨P,0,none⟩=some (.slice d.sa K.n d.sc)/\u.cell? ⟨P,1,none⟩=some (.slice d.pa K.m d.pc)/\u.cell? ⟨P,2,none⟩=some (.map (some g))/\u.cell? ⟨w.1.size,0,none⟩=some (.slice d.sa K.n d.sc)/\u.cell? ⟨w.1.size,1,none⟩=some (.slice d.pa K.m d.pc)/\u.cell? ⟨w.1.size+1,0,none⟩=some (.int .i64 f)/\u.cell? ⟨w.1.size+1,1,none⟩=some (.int .i64 b)/\u.cell? ⟨w.1.size+1,2,none⟩=some (.int .i64 c)/\u.cell? ⟨w.1.size+1,3,none⟩=some (.int .i64 a)) (fun k=>decide (8<=k)) vk ?_;refine ai 0 y ?_;refine ai 1 y ?_;refine ai 2 y ?_;refine ai 4 y ?_;have a1:=nU d.sa d.pa d.sc d.pc K I.drew bA;rw[show(K.n:Int)/4=((nPg K:Nat):Int)by unfold nPg;omega]at a1;refine ah 3 fun C l=> ?_;go_wp2_with fail;refine a1.mono ?_;rintro e Q ⟨rfl,J⟩;have L:Below I.1.size I Q:=⟨J.os,J.tape,J.output,J.size,J.block⟩;have u6:=j.out.1.trans (L.mono j.out.1.size);have a0:Q.ownsMap prog 3 (plainElem prog 3) g K.m (dz K.At K.m):=by
   obtain⟨es,ae,bl,r⟩:=j.out.2.2.2.2.2;exact⟨es,ae,(L.block g (wy.1 bl).1).trans bl,r⟩
  have bg:=Gn (kO T.out.1 z) (fun t=>mn z t) (Gq (T.out.1.below u6) z (T.out.2.below u6) a0) (nPg K) f b c a Q t7 t6;have aA:=j.out.2.1.below L;have am:=ab.out.trans (u6.mono ab.out.size);have ac:=uv aA am;have bk:=S.out Q L;have ak:Hid _:=L;clear a1 J L u6 a0 aA am j;go_wp2_with fail;refine ao l ?_;clear l C;refine ah 5 fun C l=> ?_;go_wp2_with fail;refine bg.mono ?_;rintro e bc ⟨N,_,cs,V,W,rfl⟩;have ad:Below Q.1.size Q bc:=⟨N.os,N.tape,N.output,N.size,fun i bx=>N.block i bx (fun e=>e)⟩;have aB:=ac.out.1.below ad;have Y:=du bc (w.1.size+1+1) cs.toArray;have a7:=aB.setRow cs;have a4:=ac.out.2.trans (ad.mono ac.out.2.size);have bn:(prog.info? 102).map (·.size)=some cs.toArray.size:=by rw[wA,V];exact lp
  have R:Hid _:=a4.trans (Y.below (B:=w.1.size) uA a4.size);have a6:=df W;have ag:=uv V W;have U:=S.out bc (ak.out.trans (ad.mono ak.out.size));clear bg N ad Y a4 ac W;go_wp2_with fail;refine ao l ?_;clear l C;refine ai 6 U ?_;refine ai 7 U ?_;refine ah 8 fun C l=> ?_;refine wp_store_row 102 _ _ rfl (w.1.size+1+1) cs.toArray rfl rfl 102 _ aB bn (by rw[wA,wA,V];rfl) a6 ?_;refine ao l ?_;clear l C;refine ah 9 fun C l=> ?_;go_wp2_with fail;refine ao l ?_;clear l C;refine bi ?_;clear y bk U;go_wp2_with fail;refine B3 (v:= .tuple #[.agg cs.toArray,.bool (hoB (pgD K) (nPg K) ((nPg K:Nat):Int) f b c a)]) ?_ rfl ⟨R.out,cs,ag.out.1,ag.out.2,by rw[a5.out]⟩;exact cI results62 _ _ (w.1.size+1+1) 102 cs.toArray _ rfl a7 underlying102 rfl bn rfl
