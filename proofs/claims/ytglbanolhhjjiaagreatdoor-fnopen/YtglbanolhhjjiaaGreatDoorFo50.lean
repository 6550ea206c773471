import Derived.Test.YtglbanolhhjjiaaGreatDoorFo49
namespace Go.Proofs.YtglbanolhhjjiaaGreatDoor
open Go.Proofs.Tryz
open Go.RowKit
set_option linter.unusedVariables false
set_option maxRecDepth 100000
set_option maxHeartbeats 32000000
theorem IL(g a n c l p w)(fZ:IsRd w g a n c l p)(R)(cT:R=lE l n p):
 Calls prog 55 #[.pointer (some ⟨g,0,none⟩)] w fun e w'=> ∃d,e= .returned (.tuple #[av d R.1,.agg (al R.2.1.1 R.2.1.2.1 R.2.1.2.2.1 R.2.1.2.2.2).toArray])/\OnlyB g w w'/\IsRd w' g a n c l R.2.2/\Firm w.1.size w' d R.1:=by
 have gs:=fZ.bs.byte p;have gc:Hid (∀i,0<=l.getD i 0/\l.getD i 0<256):=fZ.bs.byte;have hu:=fZ.lt;have H:Hid (IsRd w g a n c l p):=fZ;obtain⟨b0,bx⟩:=aa (w.alloc (.cells #[.slice none 0 0,.slice none 0 0] 35));obtain⟨a1,bz⟩:=aa (b0.alloc (.cells (al 0 0 0 0).toArray 36));have b4:Below w.1.size w b0:=by rw[bx];exact bAl _ _
 have I:Below b0.1.size b0 a1:=by rw[bz];exact bAl _ _
 have b6:b0.1.size=w.1.size+1:=by rw[bx];simp
 have dl:a1.1.size=w.1.size+1+1:=by rw[bz];simp[b6]
 have cg:Below w.1.size w a1:=b4.trans (I.mono b4.size);have b2:Blk a1 35 w.1.size [.slice none 0 0,.slice none 0 0]:=(by rw[bx];exact aq w _ _:Blk b0 35 w.1.size [.slice none 0 0,.slice none 0 0]).below I;have fo:Blk a1 36 (w.1.size+1) (al 0 0 0 0):=by rw[bz,<-b6];exact aq b0 _ _
 have hb:=fZ.below cg;go_enter func55,ntmps55;go_upto_region 1 with fail
 change Code.wp _ _ _ _ ((w.alloc (.cells #[.slice none 0 0,.slice none 0 0] 35)).alloc (.cells (al 0 0 0 0).toArray 36));rw[<-bx,<-bz];obtain⟨O,ea⟩:=aa (w.1.size+1);obtain⟨Y,d9⟩:=aa w.1.size;rw[<-ea]at fo ⊢;rw[<-d9]at b2 ⊢;have cv:Hid (w.1.size<=Y/\Y<O/\O<a1.1.size/\w.1.size<=a1.1.size):=⟨t7,t7,t7,cg.size⟩;have b7:Hid (OnlyB g w a1/\Blk a1 35 Y [.slice none 0 0,.slice none 0 0]/\Blk a1 36 O (al 0 0 0 0)):=⟨Below.onlyB cg g,b2,fo⟩;clear bx bz b4 I b6 dl cg b2 fo ea d9 fZ;have cz:=cZ g a n c l p a1 hb;clear hb;go_wp2_with fail;refine cz.mono ?_;rintro e dc ⟨rfl,c5,hc⟩;clear cz;obtain⟨k,cm⟩:=aa (l.getD p 0);unfold lE at cT;rw[<-cm]at gs cT ⊢;clear cm;obtain⟨es,h1⟩:=gs;obtain⟨M,fc⟩:=aa (mdR l n (rdP n p));have c0:=sL l n (rdP n p);have ef:=Ip l n (rdP n p);rw[<-fc]at cT c0 ef;have e5:=ID g a n c l (rdP n p) dc hc M fc;obtain⟨K,⟨G,P,U,a6⟩,q⟩:=M;have aS:Hid (dOk K):=c0;have b8:Hid (R=mJ l n k (K,(G,P,U,a6),q)):=cT;have bB:g≠Y/\g≠O:=by have:=cv.out;omega
 have cj:Hid (OnlyB g w dc/\Blk dc 35 Y [.slice none 0 0,.slice none 0 0]/\Blk dc 36 O (al 0 0 0 0)/\O<dc.1.size):=⟨b7.out.1.trans c5,b7.out.2.1.only c5 (DX bB.1),b7.out.2.2.only c5 (DX bB.2),ws cv.out.2.2.1 c5.size⟩;obtain⟨gT,gY⟩:=ef;clear cT fc c5 hc c0 b7;simp only at e5 gT gY;go_wp2_with fail;refine e5.mono ?_;rintro e s ⟨d,rfl,c6,db,bE⟩;clear e5;have a2:Below s.1.size s ((s.alloc (.cells #[.slice none 0 0,.slice none 0 0] 35)).alloc (.cells #[.int .i64 0,.int .i64 0,.int .i64 0,.int .i64 0] 36)):=(bAl _ _).alloc uB _;have eq:Blk ((s.alloc (.cells #[.slice none 0 0,.slice none 0 0] 35)).alloc (.cells #[.int .i64 0,.int .i64 0,.int .i64 0,.int .i64 0] 36)) 35 s.1.size [.slice none 0 0,.slice none 0 0]:=(aq s 35 #[.slice none 0 0,.slice none 0 0]).below (bAl _ _);have eC:Blk ((s.alloc (.cells #[.slice none 0 0,.slice none 0 0] 35)).alloc (.cells #[.int .i64 0,.int .i64 0,.int .i64 0,.int .i64 0] 36)) 36 (s.1.size+1) (al 0 0 0 0):=by
  have:=aq (s.alloc (.cells #[.slice none 0 0,.slice none 0 0] 35)) 36 #[.int .i64 0,.int .i64 0,.int .i64 0,.int .i64 0];rw[World.size_alloc]at this;exact this
 have gg:Hid (OnlyB g s s/\OnlyB g w s/\IsRd s g a n c l q/\ODisk w.1.size s d K/\Blk s 35 Y [.slice none 0 0,.slice none 0 0]/\Blk s 36 O (al 0 0 0 0)/\O<s.1.size/\Below s.1.size s ((s.alloc (.cells #[.slice none 0 0,.slice none 0 0] 35)).alloc (.cells #[.int .i64 0,.int .i64 0,.int .i64 0,.int .i64 0] 36))):=⟨Below.onlyB t2 g,cj.out.1.trans c6,db,bE.mono cj.out.1.size,cj.out.2.1.only c6 (DX bB.1),cj.out.2.2.1.only c6 (DX bB.2),ws cj.out.2.2.2 c6.size,a2⟩;clear a2 c6 db bE cj bB;unfold av;go_upto_region 3 with(first
  |(refine C2 rfl fun _ r=>bK (k:=s.1.size) (cs:=dkC d K) eq rfl (gH _ _) (eH _ _) rfl rfl rfl (fun dk A o=>r _ _ ?_);have eK:=eC.only o t7;have dV:=t6 A o;clear A o eq)
  |(refine C2 rfl fun _ r=>bK (k:=s.1.size+1) (cs:=al G P U a6) eK rfl (fe _ _ _ _) bj rfl rfl rfl (fun Z T C=>r _ _ ?_)))
 obtain⟨A,o⟩:=dV.out;obtain⟨_,cM,db,bE,ev,eB,g1,a2⟩:=gg.out;have ej:=cM.size;have a3:=o.below (u3 s.1.size) a2.size;have dW:=C.below (xa s.1.size) (u9 a2.size o.size);have a8:Below s.1.size s Z:=a2.trans (a3.trans dW);have h:Hid (AnV g a n c l w s.1.size (s.1.size+1) Y O (K,(G,P,U,a6),q) d K Z):=⟨cM.thenB a8 ej,db.below a8,A.only C t7,T,bE.below a8,ev.below a8,eB.below a8,rfl,t1⟩;obtain⟨sb,eb⟩:=aa (s.1.size+1);obtain⟨N,d4⟩:=aa s.1.size;have D:Hid (AnN w g N sb Y O):=⟨cv.out.1,cv.out.2.1,t7,t7,hu⟩;rw[<-eb]at h ⊢;rw[<-d4]at h ⊢;clear A o cM db bE ev eB g1 a2 a3 dW a8 eb d4 ej dV gg eC eK T C cv;have ce:k.tmod 4=k%4:=z6 es;by_cases cc:k%4=3
 case' pos=>
  rw[cc]at ce;have F:Hid (R=fJ K G P U a6 (l.getD q 0) (k/4%8) (rdP n q)):=by show R= _;rw[b8.out,mJ,BC cc]
  have gw:=gc.out q;have cz:=cZ g a n c l q Z h.out.rdr;have d3:k.tdiv 4=k/4:=y6 es;have gB:(k/4).tmod 8=k/4%8:=z6 t7;clear b8;go_wp2_with fail;refine cz.mono ?_;rintro e f ⟨rfl,b3,hd⟩;clear cz;generalize l.getD q 0=v at*;obtain⟨v0,v1⟩:=gw;have d2:AnV g a n c l w N sb Y O (K,(G,P,U,a6),rdP n q) d K f:=⟨h.out.fr.trans b3,hd,h.out.dk.only b3 (by have:=D.out;omega),h.out.su.only b3 (by have:=D.out;omega),h.out.od.low (OnlyS.ofB b3) (fun k cm e=>by omega),h.out.r1.only b3 (by have:=D.out;omega),h.out.r2.only b3 (by have:=D.out;omega),rfl,t1⟩;clear h b3 hd;have h:Hid _:=d2;clear d2;obtain⟨a7,d7⟩:=cO (k/4%8);have hJ:0<=a7/\a7<=7:=t7;rw[d7]at gB F;generalize rdP n q=I at*;clear d7;go_upto_if 37 with fail
  go_cut [] (fun dE=> ∃d gi,AnV g a n c l w N sb Y O R d gi dE)
  case first=>
   rcases(show a7=0\/a7=1\/a7=2\/a7=3\/a7=4\/a7=5\/a7=6\/a7=7 by omega)with rfl|rfl|rfl|rfl|rfl|rfl|rfl|rfl
   ·obtain⟨i,fl⟩:∃i:Nat,v%(K.n:Int)=(i:Int):=⟨(v%(K.n:Int)).toNat,by have:=Int.emod_nonneg v (b:=(K.n:Int)) (by have:=aS.out.1.1;omega);omega⟩;obtain⟨j,fm⟩:∃j:Nat,v%64=(j:Int):=⟨(v%64).toNat,t7⟩;have hS:=aS.out.1.1;have hT:=aS.out.1.2.1;have ac:i<K.n:=by have:=Int.emod_lt_of_pos v (b:=(K.n:Int)) t7;omega
    have gG:j<64:=t7;have hQ:v.tmod (K.n:Int)=(i:Int):=by rw[z6 v0,fl]
    have hR:v.tmod 64=(j:Int):=by rw[z6 v0,fm]
    have cX:=aS.out.2.1 i ac;have m:Hid (R=(⟨K.n,upd K.S i ((K.S i).set j (bits .xor .u8 ((K.S i).getD j 0) 1)),K.m,K.At,K.D⟩,(G,P,U,a6),I)):=by show R= _;rw[F.out,fJ,BC rfl,flK,fl,fm];rfl
    have gp:=bDr f;have t:Hid _:=h.out.below gp;clear h gp fl fm;have cW:=t.out.od.safe.byte i ac j;have dd:=IG cW.1 cW.2;have c1:d.sN i=64:=by have:=(t.out.od.safe.data i ac).len;rw[<-this];exact cX
    have ap:=t.out.od.safe.data i ac;rw[c1]at ap;obtain⟨b,cV⟩:∃b,d.sA i=some ⟨b,0,none⟩:=by
     obtain⟨b,e,_⟩:=mM ap t7;exact⟨b,e⟩
    have L:Hid _:=t.out.flip H.out D.out (b:=b) (i:=i) (j:=j) ac cV dd.1 dd.2 rfl;have bA:=ap.bs (t.out.od.safe.byte i ac);have S:f.drew.cell? ⟨b,j,none⟩=some (.int .u8 ((K.S i).getD j 0)):=by
     obtain⟨hq,fs,cD,_,fd⟩:=bA.at_ t7;rw[cV]at cD;cases cD;have:=fd j gG;rwa [wg]at this
    have ic:f.drew.frozen? ⟨b,j,none⟩=false:=by
     rw[cV]at ap;exact World.ownsRow.frozenAt ap j
    obtain⟨ak,aA⟩:∃y,d.sa=some ⟨y,0,none⟩:=by
     obtain⟨y,e,_⟩:=lW t.out.od.safe t7;exact⟨y,e⟩
    have ad:f.drew.cell? ⟨ak,i,none⟩=some (.slice (some ⟨b,0,none⟩) 64 (d.sC i)):=by
     obtain⟨hq,fs,cD,_,fd⟩:=t.out.od.reads.safe.at_ t7;rw[aA]at cD;cases cD;have:=(fd i ac).2;rw[cV,c1]at this;simpa using this
    have W:f.drew.cell? ⟨N,0,none⟩=some (.slice (some ⟨ak,0,none⟩) K.n d.sc):=by rw[<-aA];exact t.out.dk.cell 0
    clear t cW dd ap bA c1 cX cV aA;generalize (K.S i).getD j 0=hr at*;have hH:(0:Int)<=(i:Int):=t7;have hI:(i:Int)< (K.n:Int):=t7;have hK:(0:Int)<=(j:Int):=t7;have hL:(j:Int)<64:=t7;have cf:(K.n:Int)≠0:=t7;have hv:¬K.n=0:=t7;have d8:(K.n:Int)≠ -1:=t7;have hY:IntKind.i64.wrap (i:Int)=(i:Int):=by simp[IntKind.wrap,IntKind.bits,IntKind.signed];omega
    have hZ:IntKind.i64.wrap (j:Int)=(j:Int):=by simp[IntKind.wrap,IntKind.bits,IntKind.signed];omega
    go_wp2_with fail;refine az (fun v=>v.cell? ⟨N,0,none⟩=some (.slice (some ⟨ak,0,none⟩) K.n d.sc)/\v.cell? ⟨ak,i,none⟩=some (.slice (some ⟨b,0,none⟩) 64 (d.sC i))/\v.cell? ⟨b,j,none⟩=some (.int .u8 hr)) (fun k=>decide (15<=k)) uA ?_;generalize f.drew=h8 at*;refine au 0 ⟨W,ad,S⟩ ?_;refine au 1 ⟨W,ad,S⟩ ?_;refine au 2 ⟨W,ad,S⟩ ?_;refine au 3 ⟨W,ad,S⟩ ?_;refine au 4 ⟨W,ad,S⟩ ?_;refine au 5 ⟨W,ad,S⟩ ?_;refine au 6 ⟨W,ad,S⟩ ?_;refine au 7 ⟨W,ad,S⟩ ?_;refine au 8 ⟨W,ad,S⟩ ?_;refine au 9 ⟨W,ad,S⟩ ?_;refine au 10 ⟨W,ad,S⟩ ?_;refine au 11 ⟨W,ad,S⟩ ?_;refine au 12 ⟨W,ad,S⟩ ?_;refine au 13 ⟨W,ad,S⟩ ?_;refine au 14 ⟨W,ad,S⟩ ?_;refine ah 15 fun am r=> ?_;go_wp2_with fail;refine aU r ?_;clear r am;go_wp2_with fail
    go_meet
    exact⟨d,_,by rw[m.out];exact L.out⟩
   ·obtain⟨J,X⟩:=cO (v%(U+1));have ae:v.tmod (U+1)=J:=by rw[z6 v0,X]
    have cf:(U+1)≠0:=t7;have d8:(U+1)≠ -1:=t7;have ek:0<=J/\J<U+1:=by rw[<-X];exact⟨Int.emod_nonneg _ cf,Int.emod_lt_of_pos _ t7⟩
    have g0:IntKind.i64.wrap J=J:=by simp[IntKind.wrap,IntKind.bits,IntKind.signed];omega
    have e7:f.cell? ⟨sb,2,none⟩=some (.int .i64 U):=h.out.su.cell 2;have e0:=h.out.su.cell 1;have fa:=h.out.su.free 1;have bP:=h.out.putS H.out D.out (ax f sb 1 (.int .i64 J)) (G,J,U,a6) (h.out.su.set 1 (.int .i64 J));have L:Hid _:=bP;clear bP;have m:Hid (R=(K,(G,J,U,a6),I)):=by show R= _;rw[F.out,fJ,BX uv,BC rfl,X]
    clear X;go_wp2_with fail
    go_meet
    exact⟨d,K,by rw[m.out];exact L.out⟩
   ·obtain⟨J,X⟩:=cO (v%(U+1));have ae:v.tmod (U+1)=J:=by rw[z6 v0,X]
    have cf:(U+1)≠0:=t7;have d8:(U+1)≠ -1:=t7;have ek:0<=J/\J<U+1:=by rw[<-X];exact⟨Int.emod_nonneg _ cf,Int.emod_lt_of_pos _ t7⟩
    have g0:IntKind.i64.wrap J=J:=by simp[IntKind.wrap,IntKind.bits,IntKind.signed];omega
    have e7:f.cell? ⟨sb,2,none⟩=some (.int .i64 U):=h.out.su.cell 2;have e0:=h.out.su.cell 3;have fa:=h.out.su.free 3;have bP:=h.out.putS H.out D.out (ax f sb 3 (.int .i64 J)) (G,P,U,J) (h.out.su.set 3 (.int .i64 J));have L:Hid _:=bP;clear bP;have m:Hid (R=(K,(G,P,U,J),I)):=by show R= _;rw[F.out,fJ,BX uv,BX uv,BC rfl,X]
    clear X;go_wp2_with fail
    go_meet
    exact⟨d,K,by rw[m.out];exact L.out⟩
   ·obtain⟨J,X⟩:=cO (U+(v%3-1));have ae:v.tmod 3=v%3:=z6 v0;obtain⟨y,cn⟩:=cO (v%3);rw[cn]at ae X;have a4:0<=y/\y<=2:=t7;obtain⟨hD,V⟩:=a4;have e7:f.cell? ⟨sb,2,none⟩=some (.int .i64 U):=h.out.su.cell 2;have e0:=h.out.su.cell 2;have fa:=h.out.su.free 2;have bP:=h.out.putS H.out D.out (ax f sb 2 (.int .i64 J)) (G,P,J,a6) (h.out.su.set 2 (.int .i64 J));have L:Hid _:=bP;clear bP;have m:Hid (R=(K,(G,P,J,a6),I)):=by show R= _;rw[F.out,fJ,BX uv,BX uv,BX uv,BC rfl,cn,X]
    clear cn;go_wp2_with fail
    go_meet
    exact⟨d,K,by rw[m.out];exact L.out⟩
   ·have ae:v.tmod 3=v%3:=z6 v0;have da:=bAl f (.cells #[.int .i64 0,.int .i64 1000000000000,.int .i64 1000000000001] 3);have aB:=DI f (.cells #[.int .i64 0,.int .i64 1000000000000,.int .i64 1000000000001] 3);have fB:=CV _ _ 0 _ _ _ aB;have dk:=CV _ _ 1 _ _ _ aB;have Z:=CV _ _ 2 _ _ _ aB;have t:Hid _:=h.out.below da;have e0:=t.out.su.cell 0;have fa:=t.out.su.free 0;clear h da aB;rcases(show v%3=0\/v%3=1\/v%3=2 by omega)with h3|h3|h3
    ·rw[h3]at ae;have L:Hid _:=t.out.putS H.out D.out (ax _ sb 0 (.int .i64 0)) (0,P,U,a6) (t.out.su.set 0 (.int .i64 0));have m:Hid (R=(K,(0,P,U,a6),I)):=by show R= _;rw[F.out,fJ,BX uv,BX uv,BX uv,BX uv,BC rfl,h3];rfl
     go_wp2_with fail
     go_meet
     exact⟨d,K,by rw[m.out];exact L.out⟩
    ·rw[h3]at ae;have L:Hid _:=t.out.putS H.out D.out (ax _ sb 0 (.int .i64 1000000000000)) (1000000000000,P,U,a6) (t.out.su.set 0 (.int .i64 1000000000000));have m:Hid (R=(K,(1000000000000,P,U,a6),I)):=by show R= _;rw[F.out,fJ,BX uv,BX uv,BX uv,BX uv,BC rfl,h3];rfl
     go_wp2_with fail
     go_meet
     exact⟨d,K,by rw[m.out];exact L.out⟩
    ·rw[h3]at ae;have L:Hid _:=t.out.putS H.out D.out (ax _ sb 0 (.int .i64 1000000000001)) (1000000000001,P,U,a6) (t.out.su.set 0 (.int .i64 1000000000001));have m:Hid (R=(K,(1000000000001,P,U,a6),I)):=by show R= _;rw[F.out,fJ,BX uv,BX uv,BX uv,BX uv,BC rfl,h3];rfl
     go_wp2_with fail
     go_meet
     exact⟨d,K,by rw[m.out];exact L.out⟩
   ·have ag:v.tmod 6=v%6:=z6 v0;obtain⟨bR,bk⟩:=aa (f.alloc (.cells #[] 5));have ha:Below f.1.size f bR:=by rw[bk];exact bAl _ _
    have fD:bR.1.size=f.1.size+1:=by rw[bk];simp
    obtain⟨bS,bl⟩:=aa (bR.alloc (.cells #[.int .u8 1,.int .u8 97,.int .u8 0] 5));have b4:Below bR.1.size bR bS:=by rw[bl];exact bAl _ _
    have b6:bS.1.size=f.1.size+1+1:=by rw[bl];simp[fD]
    obtain⟨bT,bm⟩:=aa (bS.alloc (.cells #[.int .u8 1,.int .u8 97,.int .u8 0,.int .u8 1,.int .u8 97,.int .u8 0] 5));have I:Below bS.1.size bS bT:=by rw[bm];exact bAl _ _
    have dl:bT.1.size=f.1.size+1+1+1:=by rw[bm];simp[b6]
    obtain⟨bW,bn⟩:=aa (bT.alloc (.cells #[.int .u8 2,.int .u8 0,.int .u8 0,.int .u8 0] 5));have c9:Below bT.1.size bT bW:=by rw[bn];exact bAl _ _
    have fM:bW.1.size=f.1.size+1+1+1+1:=by rw[bn];simp[dl]
    obtain⟨bX,br⟩:=aa (bW.alloc (.cells #[.int .u8 3,.int .u8 0,.int .u8 0,.int .u8 0,.int .u8 1,.int .u8 98,.int .u8 4,.int .u8 0,.int .u8 0,.int .u8 0] 5));have cp:Below bW.1.size bW bX:=by rw[br];exact bAl _ _
    have fP:bX.1.size=f.1.size+1+1+1+1+1:=by rw[br];simp[fM]
    obtain⟨bY,bs⟩:=aa (bX.alloc (.cells #[.int .u8 0,.int .u8 0,.int .u8 0,.int .u8 0,.int .u8 2,.int .u8 0,.int .u8 0,.int .u8 0] 5));have b5:Below bX.1.size bX bY:=by rw[bs];exact bAl _ _
    have fV:bY.1.size=f.1.size+1+1+1+1+1+1:=by rw[bs];simp[fP]
    obtain⟨e1,bu⟩:=aa (bY.alloc (.cells #[.slice (some ⟨f.1.size,0,none⟩) 0 0,.slice (some ⟨f.1.size+1,0,none⟩) 3 3,.slice (some ⟨f.1.size+1+1,0,none⟩) 6 6,.slice (some ⟨f.1.size+1+1+1,0,none⟩) 4 4,.slice (some ⟨f.1.size+1+1+1+1,0,none⟩) 10 10,.slice (some ⟨f.1.size+1+1+1+1+1,0,none⟩) 8 8] 56));have bF:Below bY.1.size bY e1:=by rw[bu];exact bAl _ _
    have hE:e1.1.size=f.1.size+1+1+1+1+1+1+1:=by rw[bu];simp[fV]
    have B0:Bs bR (some ⟨f.1.size,0,none⟩) 0 0 []:=by rw[bk];exact iI f [] (fun x hx=>by simp at hx;first|done|omega) uv
    have f6:=((((((B0.below b4).below I).below c9).below cp).below b5).below bF);have f0:Bs bS (some ⟨f.1.size+1,0,none⟩) 3 3 [1,97,0]:=by rw[bl,<-fD];exact iI bR [1,97,0] (fun x hx=>by simp at hx;first|done|omega) uv
    have f7:=(((((f0.below I).below c9).below cp).below b5).below bF);have f2:Bs bT (some ⟨f.1.size+1+1,0,none⟩) 6 6 [1,97,0,1,97,0]:=by rw[bm,<-b6];exact iI bS [1,97,0,1,97,0] (fun x hx=>by simp at hx;first|done|omega) uv
    have f8:=((((f2.below c9).below cp).below b5).below bF);have f3:Bs bW (some ⟨f.1.size+1+1+1,0,none⟩) 4 4 [2,0,0,0]:=by rw[bn,<-dl];exact iI bT [2,0,0,0] (fun x hx=>by simp at hx;first|done|omega) uv
    have f9:=(((f3.below cp).below b5).below bF);have f4:Bs bX (some ⟨f.1.size+1+1+1+1,0,none⟩) 10 10 [3,0,0,0,1,98,4,0,0,0]:=by rw[br,<-fM];exact iI bW [3,0,0,0,1,98,4,0,0,0] (fun x hx=>by simp at hx;first|done|omega) uv
    have ga:=((f4.below b5).below bF);have f5:Bs bY (some ⟨f.1.size+1+1+1+1+1,0,none⟩) 8 8 [0,0,0,0,2,0,0,0]:=by rw[bs,<-fP];exact iI bX [0,0,0,0,2,0,0,0] (fun x hx=>by simp at hx;first|done|omega) uv
    have gb:=(f5.below bF);have aB:=DI bY (.cells #[.slice (some ⟨f.1.size,0,none⟩) 0 0,.slice (some ⟨f.1.size+1,0,none⟩) 3 3,.slice (some ⟨f.1.size+1+1,0,none⟩) 6 6,.slice (some ⟨f.1.size+1+1+1,0,none⟩) 4 4,.slice (some ⟨f.1.size+1+1+1+1,0,none⟩) 10 10,.slice (some ⟨f.1.size+1+1+1+1+1,0,none⟩) 8 8] 56);rw[<-bu,fV]at aB;have B:Hid _:=(((((((h.out.below ha).below b4).below I).below c9).below cp).below b5).below bF);have fB:=CV _ _ 0 _ _ _ aB;have dk:=CV _ _ 1 _ _ _ aB;have Z:=CV _ _ 2 _ _ _ aB;have hg:=CV _ _ 3 _ _ _ aB;have hh:=CV _ _ 4 _ _ _ aB;have hi:=CV _ _ 5 _ _ _ aB;have aX:=t6 f6 (u2 f7 (u2 f8 (u2 f9 (u2 ga gb))));clear h aB f6 f7 f8 f9 ga gb B0 f0 f2 f3 f4 f5 ha b4 I c9 cp b5 bF;have cP:e1=(((((((f.alloc (.cells #[] 5)).alloc (.cells #[.int .u8 1,.int .u8 97,.int .u8 0] 5)).alloc (.cells #[.int .u8 1,.int .u8 97,.int .u8 0,.int .u8 1,.int .u8 97,.int .u8 0] 5)).alloc (.cells #[.int .u8 2,.int .u8 0,.int .u8 0,.int .u8 0] 5)).alloc (.cells #[.int .u8 3,.int .u8 0,.int .u8 0,.int .u8 0,.int .u8 1,.int .u8 98,.int .u8 4,.int .u8 0,.int .u8 0,.int .u8 0] 5)).alloc (.cells #[.int .u8 0,.int .u8 0,.int .u8 0,.int .u8 0,.int .u8 2,.int .u8 0,.int .u8 0,.int .u8 0] 5)).alloc (.cells #[.slice (some ⟨f.1.size,0,none⟩) 0 0,.slice (some ⟨f.1.size+1,0,none⟩) 3 3,.slice (some ⟨f.1.size+1+1,0,none⟩) 6 6,.slice (some ⟨f.1.size+1+1+1,0,none⟩) 4 4,.slice (some ⟨f.1.size+1+1+1+1,0,none⟩) 10 10,.slice (some ⟨f.1.size+1+1+1+1+1,0,none⟩) 8 8] 56)):=by rw[bu,bs,br,bn,bm,bl,bk]
    clear bu bs br bn bm bl bk fD b6 dl fM fP fV hE;have a0:Hid _:=cP;rw[cP]at fB dk Z hg hh hi;clear cP;go_upto_region 18 with fail
    go_cut [9] (fun hz dE=> ∃dr ds,hz= .slice dr (dB v).length ds/\Bs dE dr (dB v).length ds (dB v)/\AnV g a n c l w N sb Y O (K,(G,P,U,a6),I) d K dE)
    case first=>
     rcases(show v%6=0\/v%6=1\/v%6=2\/v%6=3\/v%6=4\/v%6=5 by omega)with h6|h6|h6|h6|h6|h6
     ·rw[h6]at ag;have z:dB v=[]:=by rw[dB,BC h6]
      have Q:Hid _:=z;clear z;go_wp2_with fail
      go_meet
      rw[Q.out,<-a0.out];exact⟨_,_,rfl,aX.out.1,B.out⟩
     ·rw[h6]at ag;have z:dB v=[1,97,0]:=by rw[dB,BX t7,BC h6]
      have Q:Hid _:=z;clear z;go_wp2_with fail
      go_meet
      rw[Q.out,<-a0.out];exact⟨_,_,rfl,aX.out.2.1,B.out⟩
     ·rw[h6]at ag;have z:dB v=[1,97,0,1,97,0]:=by rw[dB,BX t7,BX t7,BC h6]
      have Q:Hid _:=z;clear z;go_wp2_with fail
      go_meet
      rw[Q.out,<-a0.out];exact⟨_,_,rfl,aX.out.2.2.1,B.out⟩
     ·rw[h6]at ag;have z:dB v=[2,0,0,0]:=by rw[dB,BX t7,BX t7,BX t7,BC h6]
      have Q:Hid _:=z;clear z;go_wp2_with fail
      go_meet
      rw[Q.out,<-a0.out];exact⟨_,_,rfl,aX.out.2.2.2.1,B.out⟩
     ·rw[h6]at ag;have z:dB v=[3,0,0,0,1,98,4,0,0,0]:=by rw[dB,BX t7,BX t7,BX t7,BX t7,BC h6]
      have Q:Hid _:=z;clear z;go_wp2_with fail
      go_meet
      rw[Q.out,<-a0.out];exact⟨_,_,rfl,aX.out.2.2.2.2.1,B.out⟩
     ·rw[h6]at ag;have z:dB v=[0,0,0,0,2,0,0,0]:=by rw[dB,BX t7,BX t7,BX t7,BX t7,BX t7]
      have Q:Hid _:=z;clear z;go_wp2_with fail
      go_meet
      rw[Q.out,<-a0.out];exact⟨_,_,rfl,aX.out.2.2.2.2.2,B.out⟩
    case rest=>
    clear aX B a0 fB dk Z hg hh hi ag;obtain⟨dr,ds,rfl,bA,gv⟩:=hcut;obtain⟨hn,bC⟩:=aa wc;subst bC;have h:Hid _:=gv;clear gv;have hV:v.tdiv 6=v/6:=y6 v0;have gS:(v/6).tmod 3=v/6%3:=z6 t7;have hy:v.tdiv 18=v/18:=y6 v0;have fn:(v/18).tmod 3=v/18%3:=z6 t7;have an:=ly (2+v/6%3) (2+v/18%3) dr ds (dB v) hn bA (IJ v);have m:Hid (R=(cu K (pwO (2+v/6%3) (2+v/18%3) (dB v)) 4,(G,P,U,a6),I)):=by show R= _;rw[F.out,fJ,BX uv,BX uv,BX uv,BX uv,BX uv,BC rfl]
    generalize pwO (2+v/6%3) (2+v/18%3) (dB v)=xs at*;obtain⟨V,T⟩:=cO (v/6%3);obtain⟨ab,C⟩:=cO (v/18%3);have a4:(0<=V/\V<=2)/\0<=ab/\ab<=2:=t7;obtain⟨⟨hj,hk⟩,hl,hm⟩:=a4;rw[T]at gS an;rw[C]at fn an;generalize (dB v).length=ia at*;clear T C bA;go_wp2_with fail;refine an.mono ?_;rintro e aT ⟨c7,c8,g9,rfl,b1,a5⟩;clear an;have b9:Hid _:=h.out.below b1;have kd:=b9.out.dk;have bg:=mH d K c7 c8 xs 4 aT b9.out.od.reads aS.out a5.reads;obtain⟨bZ,bc⟩:=aa (cu K xs 4);rw[<-bc]at bg m;clear h b1 a5;unfold av at bg;go_wp2_with (refine BD rfl 35 _ rfl N rfl 35 (dkC d K).toArray (0,0) _ kd underlying35 rfl (eH _ _) ?_);refine bg.mono ?_;rintro e bf ⟨e9,i1,rfl,cl,eM⟩;clear bg kd;have dP:Hid _:=b9.out.below cl;have g3:=dP.out.dk;have gf:Hid (ODisk w.1.size bf e9 bZ):=eM.mono b9.out.fr.size;clear eM cl bc;go_wp2_with (refine C2 rfl fun _ r=>bK (k:=N) (cs:=dkC e9 bZ) g3 rfl (gH _ _) (eH _ _) rfl rfl rfl (fun hC A o=>r _ _ ?_);have L:Hid _:=dP.out.putD H.out D.out o A gf.out rfl t1;clear A o)
    go_meet
    exact⟨e9,bZ,by rw[m.out];exact L.out⟩
   ·have ce:v.tmod 4=v%4:=z6 v0;have d3:v.tdiv 4=v/4:=y6 v0;have d6:(v/4).tmod 4=v/4%4:=z6 t7;have m:Hid (R=(cu K (sO v) 12,(1,2,5,0),I)):=by show R= _;rw[F.out,fJ,BX uv,BX uv,BX uv,BX uv,BX uv,BX uv,BC rfl]
    unfold sO at m;obtain⟨V,T⟩:=cO (v%4);obtain⟨ab,C⟩:=cO (v/4%4);have a4:(0<=V/\V<=3)/\0<=ab/\ab<=3:=t7;obtain⟨⟨hj,hk⟩,hl,hm⟩:=a4;rw[T]at ce m;rw[C]at d6 m;clear T C;have hW:IntKind.u8.wrap (97+V)=97+V:=by simp[IntKind.wrap,IntKind.bits,IntKind.signed];omega
    have hX:IntKind.u8.wrap (98+ab)=98+ab:=by simp[IntKind.wrap,IntKind.bits,IntKind.signed];omega
    have da:=bAl f (.cells #[.int .u8 3,.int .u8 0,.int .u8 0,.int .u8 0,.int .u8 1,.int .u8 99,.int .u8 4,.int .u8 0,.int .u8 0,.int .u8 0] 5);have an:=ly 2 3 (some ⟨f.1.size,0,none⟩) 10 [3,0,0,0,1,99,4,0,0,0] _ (iI f [3,0,0,0,1,99,4,0,0,0] (fun x hx=>by simp at hx;omega) uv) uv;have B:Hid _:=h.out.below da;have hN:=jK 2 3 [3,0,0,0,1,99,4,0,0,0];clear h da F;generalize pwO 2 3 [3,0,0,0,1,99,4,0,0,0]=bd at*;go_wp2_with fail;refine an.mono ?_;rintro e aT ⟨c7,c8,g9,rfl,b1,a5⟩;clear an;change Below (f.alloc (.cells #[.int .u8 3,.int .u8 0,.int .u8 0,.int .u8 0,.int .u8 1,.int .u8 99,.int .u8 4,.int .u8 0,.int .u8 0,.int .u8 0] 5)).1.size (f.alloc (.cells #[.int .u8 3,.int .u8 0,.int .u8 0,.int .u8 0,.int .u8 1,.int .u8 99,.int .u8 4,.int .u8 0,.int .u8 0,.int .u8 0] 5)) aT at b1;change OOp (f.alloc (.cells #[.int .u8 3,.int .u8 0,.int .u8 0,.int .u8 0,.int .u8 1,.int .u8 99,.int .u8 4,.int .u8 0,.int .u8 0,.int .u8 0] 5)).1.size aT c7 c8 bd at a5;generalize f.alloc (.cells #[.int .u8 3,.int .u8 0,.int .u8 0,.int .u8 0,.int .u8 1,.int .u8 99,.int .u8 4,.int .u8 0,.int .u8 0,.int .u8 0] 5)=af at*;have cr:Hid _:=a5.lt;have dD:=bAl aT (.cells #[.int .u8 1,.int .u8 (97+V),.int .u8 0] 5);have an:=ly 3 2 (some ⟨aT.1.size,0,none⟩) 3 [1,97+V,0] _ (iI aT [1,97+V,0] (fun x hx=>by simp at hx;omega) (by show 3<=1000;decide)) (by show 3<=1048576;decide);have cq:Hid (Below af.1.size af (aT.alloc (.cells #[.int .u8 1,.int .u8 (97+V),.int .u8 0] 5))/\OOp af.1.size (aT.alloc (.cells #[.int .u8 1,.int .u8 (97+V),.int .u8 0] 5)) c7 c8 bd/\aT.1.size<=(aT.alloc (.cells #[.int .u8 1,.int .u8 (97+V),.int .u8 0] 5)).1.size):=⟨b1.trans (dD.mono b1.size),a5.below dD,dD.size⟩;have hO:=jK 3 2 [1,97+V,0];generalize pwO 3 2 [1,97+V,0]=ch at*;clear b1 a5 dD;go_wp2_with fail;refine an.mono ?_;rintro e bf ⟨g7,g8,h5,rfl,cl,eR⟩;clear an;have ft:=bAl bf (.cells #[.int .u8 1,.int .u8 (98+ab),.int .u8 1,.int .u8 120] 5);have an:=ly 4 2 (some ⟨bf.1.size,0,none⟩) 4 [1,98+ab,1,120] _ (iI bf [1,98+ab,1,120] (fun x hx=>by simp at hx;omega) (by show 4<=1000;decide)) (by show 4<=1048576;decide);have a3:=cl.trans (ft.mono cl.size);have ck:Hid (Below af.1.size af (bf.alloc (.cells #[.int .u8 1,.int .u8 (98+ab),.int .u8 1,.int .u8 120] 5))/\OOp af.1.size (bf.alloc (.cells #[.int .u8 1,.int .u8 (98+ab),.int .u8 1,.int .u8 120] 5)) c7 c8 bd/\ROp (bf.alloc (.cells #[.int .u8 1,.int .u8 (98+ab),.int .u8 1,.int .u8 120] 5)) g7 g8 ch/\aT.1.size<=(bf.alloc (.cells #[.int .u8 1,.int .u8 (98+ab),.int .u8 1,.int .u8 120] 5)).1.size):=⟨cq.out.1.trans (a3.mono cq.out.1.size),cq.out.2.1.below a3,(eR.below ft).reads,u9 cq.out.2.2 a3.size⟩;have hP:=jK 4 2 [1,98+ab,1,120];generalize pwO 4 2 [1,98+ab,1,120]=eW at*;clear cl eR ft cq a3;go_wp2_with fail;refine an.mono ?_;rintro e fz ⟨h2,h4,h7,rfl,e6,eU⟩;clear an;have bb:=bDr fz;have ca:=e6.trans (bb.mono e6.size);have dq:Below af.1.size af fz.drew:=ck.out.1.trans (ca.mono ck.out.1.size);have cR:=ck.out.2.1.below ca;have dX:=ck.out.2.2.1.below ca;have d1:=eU.below bb;have g2:=ck.out.2.2.2;clear e6 eU bb ca ck ce d3 d6;go_wp2_with fail;refine l7 (fun u=>(Instr.loadAt 35 (.pointer (some ⟨N,0,none⟩))).run prog u= .ok (.agg (dkC d K).toArray) u) 6 uA ?_;generalize fz.drew=i3 at*;have ba:=aL (B.out.dk.below dq);refine l8 0 (.agg (dkC d K).toArray) ba ?hza0 ?_
    case hza0=>exact fun u bv=>bo (p:= .pointer (some ⟨N,0,none⟩)) rfl rfl bv
    refine cK 1 ?_;refine cK 2 ?_;refine cK 4 ?_;refine eO 3 fun am r=> ?_;refine jc (so:= .tmp 146) (xo:= .tmp 147) cR dX t7 dq.size rfl rfl rfl ?_;intro h9 ib hB g5 gr gj;have cb:Below af.1.size af hB:=dq.trans gj;have cS:=d1.grown cR gr (fun k cm=>ws (cr.out k cm) g2);refine r.out _ _ (fun _=>aL (B.out.dk.below cb)) ?_;clear r am ba cR dX d1 gr gj dq;refine eO 5 fun am r=> ?_;refine jc (so:= .tmp 148) (xo:= .tmp 149) (xs:=bd++ch) g5 cS.reads (by rw[u7];omega) cb.size rfl (by rw[u7];rfl) rfl ?_;intro hp S he g6 hs gm;have a9:Below af.1.size af he:=cb.trans gm;refine r.out _ _ (fun _=>aL (B.out.dk.below a9)) ?_;clear r am g5 cS hs gm cb;have bg:=mH d K hp S ((bd++ch)++eW) 12 he ((B.out.od.below a9).reads) aS.out g6.reads;obtain⟨bZ,bc⟩:=aa (cu K ((bd++ch)++eW) 12);rw[<-bc,u7,u7]at bg;rw[<-bc]at m;refine eO 6 fun am r=> ?_;go_wp2_with fail;refine bg.mono ?_;rintro e hf ⟨e8,hF,rfl,gn,eN⟩;have cB:Below af.1.size af hf:=a9.trans (gn.mono a9.size);have em:=B.out.dk.below cB;have dF:Hid (ODisk w.1.size hf e8 bZ):=eN.mono (u9 B.out.fr.size a9.size);have dU:Hid _:=B.out.below cB;clear bg g6 gn eN a9 cB bc cr;unfold av;go_wp2_with fail;refine goR r ?_;clear r am;refine cK 7 ?_;refine cK 8 ?_;refine cK 9 ?_;refine eO 10 fun am r=> ?_;refine bK (k:=N) (cs:=dkC e8 bZ) em rfl (gH _ _) (eH _ _) rfl rfl rfl (fun hC A o=> ?_);refine goR r ?_;clear r am;refine l9 ?_;have dS:Hid _:=dU.out.putD H.out D.out o A dF.out rfl t1;clear A o em dU dF B;have g4:=dS.out.su;have hG:=IK;go_wp2_with (refine C2 rfl fun _ r=>bK (k:=sb) (cs:=al 1 2 5 0) g4 rfl (fe _ _ _ _) bj rfl rfl rfl (fun i4 A o=>r _ _ ?_);have L:Hid _:=dS.out.putS H.out D.out o (1,2,5,0) A;clear A o)
    go_meet
    exact⟨e8,bZ,by rw[m.out];exact L.out⟩
   ·have ag:v.tmod 6=v%6:=z6 v0;obtain⟨y,cn⟩:=cO (v%6);have m:Hid (R=(trK K (4*(U-1)+v%6),(G,P,U,a6),I)):=by show R= _;rw[F.out,fJ,BX uv,BX uv,BX uv,BX uv,BX uv,BX uv,BX uv]
    have a4:0<=y/\y<=5:=t7;obtain⟨hD,V⟩:=a4;rw[cn]at ag m;clear cn F;obtain⟨J,X⟩:∃J:Nat,4*(U-1)+y=(J:Int):=⟨(4*(U-1)+y).toNat,t7⟩;rw[X]at m;have ek:J<=5000:=t7;have e7:f.cell? ⟨sb,2,none⟩=some (.int .i64 U):=h.out.su.cell 2;obtain⟨ak,aA⟩:∃y,d.sa=some ⟨y,0,none⟩:=by
     obtain⟨y,e,_⟩:=lW h.out.od.safe (by have:=aS.out.1.1;omega);exact⟨y,e⟩
    have W:f.cell? ⟨N,0,none⟩=some (.slice (some ⟨ak,0,none⟩) K.n d.sc):=by rw[<-aA];exact h.out.dk.cell 0
    have i0:=h.out.dk.free 0;have ht:=h.out.od.reads.safe.le;have gA:=h.out.od.reads.safe.le';unfold maxLen at gA;have hM:=aS.out.1.2.1;go_upto_region 28 with fail
    by_cases ac:(J:Int)< (K.n:Int)
    ·have r:trK K (J:Int)=lG K J:=by rw[trK,BC ac];rfl
     have d5:(dkC d K).set 0 (.slice (some ⟨ak,0,none⟩) J d.sc)=dkC d (lG K J):=by rw[<-aA];rfl
     have L:Hid (AnV g a n c l w N sb Y O (lG K J,(G,P,U,a6),I) d K (f.setCell ⟨N,0,none⟩ (.slice (some ⟨ak,0,none⟩) J d.sc))):=h.out.putD H.out D.out (ax f N 0 (.slice (some ⟨ak,0,none⟩) J d.sc)) (by rw[<-d5];exact h.out.dk.set 0 _) h.out.od rfl (by show J<=K.n;omega);have e4:Hid _:=r;have h0:J<=d.sc:=t7;clear r d5 X;go_wp2_with fail
     go_meet
     exact⟨d,K,by rw[m.out,e4.out];exact L.out⟩
    ·have e4:Hid (trK K (J:Int)=K):=by show trK K (J:Int)=K;rw[trK,BX ac]
     clear X;go_wp2_with fail
     go_meet
     exact⟨d,K,by rw[m.out,e4.out];exact h.out⟩
  case' rest=>
   clear h F;obtain⟨d,gi,gt⟩:=hcut;obtain⟨dp,bC⟩:=aa wc;subst bC;have e3:Hid _:=gt;clear gt
 case' neg=>
  have hU:(k%4 !=3)=true:=by simp[cc]
  have dI:Hid (R=(K,(G,P,U,a6),q)):=by show R= _;rw[b8.out,mJ,BX cc]
  obtain⟨dp,bC⟩:=aa Z;subst bC;have e3:Hid (AnV g a n c l w N sb Y O R d K dp):=by rw[dI.out];exact h.out
  clear h b8 dI
 all_goals
  go_wp2_with fail;have bb:=bDr dp;have E:Hid _:=e3.out.below bb;clear e3 bb;refine az (fun u=>(Instr.loadAt 35 (.pointer (some ⟨N,0,none⟩))).run prog u= .ok (.agg (dkC d R.1).toArray) u/\(Instr.loadAt 36 (.pointer (some ⟨sb,0,none⟩))).run prog u= .ok (.agg (al R.2.1.1 R.2.1.2.1 R.2.1.2.2.1 R.2.1.2.2.2).toArray) u) (fun _=>false) uA ?_;generalize dp.drew=ho at*;have ba:=u2 (aL E.out.dk) (aN E.out.su);refine aM 0 (.agg (dkC d R.1).toArray) ba ?ha0 ?_
  case ha0=>exact fun u bv=>bo (p:= .pointer (some ⟨N,0,none⟩)) rfl rfl bv.1
  refine aM 1 (.agg (al R.2.1.1 R.2.1.2.1 R.2.1.2.2.1 R.2.1.2.2.2).toArray) ba ?ha1 ?_
  case ha1=>exact fun u bv=>bo (p:= .pointer (some ⟨sb,0,none⟩)) rfl rfl bv.2
  have b2:=E.out.r1;refine ah 2 fun am r=> ?_;refine bK (k:=Y) (cs:=dkC d R.1) b2 rfl (gH _ _) (eH _ _) rfl rfl rfl (fun dk A o=> ?_);have c3:=E.out.dk.only o (by have:=D.out;omega);have c4:=E.out.su.only o (by have:=D.out;omega);have c2:=E.out.r2.only o (by have:=D.out;omega);have eL:=yX E.out.od o b2;refine ao r ?_ (fun _=>⟨aL c3,aN c4⟩);clear r am ba;refine ah 3 fun am r=> ?_;refine bK (k:=O) (cs:=al R.2.1.1 R.2.1.2.1 R.2.1.2.2.1 R.2.1.2.2.2) c2 rfl (fe _ _ _ _) bj rfl rfl rfl (fun Z T C=> ?_);have en:=c3.only C (by have:=D.out;omega);have ex:=c4.only C (by have:=D.out;omega);have et:=A.only C (by have:=D.out;omega);have cA:Below w.1.size ho Z:=(o.below D.out.1 E.out.fr.size).trans (C.below (by have:=D.out;omega) (u9 E.out.fr.size o.size));have cL:=E.out.fr.thenB cA t1;have hcut:=E.out.cut;have eV:Firm w.1.size Z d R.1:=fun i2 hw=>by
   have:=((sZ eL C c2).low hw (fun k cm e=>by omega)).reads.cut E.out.le;rw[<-hcut]at this;exact this
  have e2:Hid (Blk Z 35 Y (dkC d R.1)/\Blk Z 36 O (al R.2.1.1 R.2.1.2.1 R.2.1.2.2.1 R.2.1.2.2.2)/\OnlyB g w Z/\IsRd Z g a n c l R.2.2/\Firm w.1.size Z d R.1):=⟨et,T,cL,H.out.only cL (by rw[cA.block g D.out.2.2.2.2];exact E.out.rdr.box) E.out.rdr.at_,eV⟩;refine aU r ?_ (fun _=>⟨aL en,aN ex⟩);clear r am c3 c4 c2 en ex et cA cL A o T C b2 E eL hcut eV;go_wp2_with fail;refine BB (v:= .tuple #[.agg (dkC d R.1).toArray,.agg (al R.2.1.1 R.2.1.2.1 R.2.1.2.2.1 R.2.1.2.2.2).toArray]) ?_ rfl ?_
  ·exact yV results55 _ _ Y O 35 36 (dkC d R.1).toArray (al R.2.1.1 R.2.1.2.1 R.2.1.2.2.1 R.2.1.2.2.2).toArray _ _ rfl e2.out.1 underlying35 rfl (eH _ _) rfl e2.out.2.1 underlying36 rfl bj
  ·exact⟨d,rfl,e2.out.2.2⟩
