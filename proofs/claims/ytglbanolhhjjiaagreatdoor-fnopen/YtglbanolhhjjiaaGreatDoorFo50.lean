import Derived.Test.YtglbanolhhjjiaaGreatDoorFo49
namespace Go.Proofs.YtglbanolhhjjiaaGreatDoor
open Go.Proofs.Tryz
open Go.RowKit
set_option linter.unusedVariables false
set_option maxRecDepth 100000
set_option maxHeartbeats 32000000
theorem IL(g a n c l p w)(h:IsRd w g a n c l p)(R)(cV:R=lE l n p):
 Calls prog 55 #[.pointer (some ⟨g,0,none⟩)] w fun e w'=> ∃d,e= .returned (.tuple #[av d R.1,.agg (al R.2.1.1 R.2.1.2.1 R.2.1.2.2.1 R.2.1.2.2.2).toArray])/\OnlyB g w w'/\IsRd w' g a n c l R.2.2/\Firm w.1.size w' d R.1:=by
 have gs:=h.bs.byte p;have gc:Hid (∀i,0<=l.getD i 0/\l.getD i 0<256):=h.bs.byte;have hu:=h.lt;have H:Hid (IsRd w g a n c l p):=h;obtain⟨b1,bz⟩:=aa (w.alloc (.cells #[.slice none 0 0,.slice none 0 0] 35));obtain⟨a2,bA⟩:=aa (b1.alloc (.cells (al 0 0 0 0).toArray 36));have b5:Below w.1.size w b1:=by rw[bz];exact bAl _ _
 have J:Below b1.1.size b1 a2:=by rw[bA];exact bAl _ _
 have b7:b1.1.size=w.1.size+1:=by rw[bz];simp
 have dp:a2.1.size=w.1.size+1+1:=by rw[bA];simp[b7]
 have ch:Below w.1.size w a2:=b5.trans (J.mono b5.size);have b3:Blk a2 35 w.1.size [.slice none 0 0,.slice none 0 0]:=(by rw[bz];exact aq w _ _:Blk b1 35 w.1.size [.slice none 0 0,.slice none 0 0]).below J;have fs:Blk a2 36 (w.1.size+1) (al 0 0 0 0):=by rw[bA,<-b7];exact aq b1 _ _
 have hb:=h.below ch;go_enter func55,ntmps55;go_upto_region 1 with fail
 change Code.wp _ _ _ _ ((w.alloc (.cells #[.slice none 0 0,.slice none 0 0] 35)).alloc (.cells (al 0 0 0 0).toArray 36));rw[<-bz,<-bA];obtain⟨Q,eb⟩:=aa (w.1.size+1);obtain⟨Z,ea⟩:=aa w.1.size;rw[<-eb]at fs ⊢;rw[<-ea]at b3 ⊢;have cz:Hid (w.1.size<=Z/\Z<Q/\Q<a2.1.size/\w.1.size<=a2.1.size):=⟨t7,t7,t7,ch.size⟩;have b8:Hid (OnlyB g w a2/\Blk a2 35 Z [.slice none 0 0,.slice none 0 0]/\Blk a2 36 Q (al 0 0 0 0)):=⟨Below.onlyB ch g,b3,fs⟩;clear bz bA b5 J b7 dp ch b3 fs eb ea h;have cA:=cZ g a n c l p a2 hb;clear hb;go_wp2_with fail;refine cA.mono ?_;rintro e dd ⟨rfl,c6,hc⟩;clear cA;obtain⟨k,cn⟩:=aa (l.getD p 0);unfold lE at cV;rw[<-cn]at gs cV ⊢;clear cn;obtain⟨et,h1⟩:=gs;obtain⟨M,fd⟩:=aa (mdR l n (rdP n p));have c1:=sL l n (rdP n p);have ej:=Ip l n (rdP n p);rw[<-fd]at cV c1 ej;have e6:=ID g a n c l (rdP n p) dd hc M fd;obtain⟨K,⟨G,P,U,a7⟩,q⟩:=M;have aT:Hid (dOk K):=c1;have b9:Hid (R=mJ l n k (K,(G,P,U,a7),q)):=cV;have bC:g≠Z/\g≠Q:=by have:=cz.out;omega
 have ck:Hid (OnlyB g w dd/\Blk dd 35 Z [.slice none 0 0,.slice none 0 0]/\Blk dd 36 Q (al 0 0 0 0)/\Q<dd.1.size):=⟨b8.out.1.trans c6,b8.out.2.1.only c6 (D7 bC.1),b8.out.2.2.only c6 (D7 bC.2),wE cz.out.2.2.1 c6.size⟩;obtain⟨gT,gY⟩:=ej;clear cV fd c6 hc c1 b8;simp only at e6 gT gY;go_wp2_with fail;refine e6.mono ?_;rintro e t ⟨d,rfl,c7,dc,bF⟩;clear e6;have a3:Below t.1.size t ((t.alloc (.cells #[.slice none 0 0,.slice none 0 0] 35)).alloc (.cells #[.int .i64 0,.int .i64 0,.int .i64 0,.int .i64 0] 36)):=(bAl _ _).alloc uB _;have es:Blk ((t.alloc (.cells #[.slice none 0 0,.slice none 0 0] 35)).alloc (.cells #[.int .i64 0,.int .i64 0,.int .i64 0,.int .i64 0] 36)) 35 t.1.size [.slice none 0 0,.slice none 0 0]:=(aq t 35 #[.slice none 0 0,.slice none 0 0]).below (bAl _ _);have eK:Blk ((t.alloc (.cells #[.slice none 0 0,.slice none 0 0] 35)).alloc (.cells #[.int .i64 0,.int .i64 0,.int .i64 0,.int .i64 0] 36)) 36 (t.1.size+1) (al 0 0 0 0):=by
  have:=aq (t.alloc (.cells #[.slice none 0 0,.slice none 0 0] 35)) 36 #[.int .i64 0,.int .i64 0,.int .i64 0,.int .i64 0];rw[World.size_alloc]at this;exact this
 have gg:Hid (OnlyB g t t/\OnlyB g w t/\IsRd t g a n c l q/\ODisk w.1.size t d K/\Blk t 35 Z [.slice none 0 0,.slice none 0 0]/\Blk t 36 Q (al 0 0 0 0)/\Q<t.1.size/\Below t.1.size t ((t.alloc (.cells #[.slice none 0 0,.slice none 0 0] 35)).alloc (.cells #[.int .i64 0,.int .i64 0,.int .i64 0,.int .i64 0] 36))):=⟨Below.onlyB t2 g,ck.out.1.trans c7,dc,bF.mono ck.out.1.size,ck.out.2.1.only c7 (D7 bC.1),ck.out.2.2.1.only c7 (D7 bC.2),wE ck.out.2.2.2 c7.size,a3⟩;clear a3 c7 dc bF ck bC;unfold av;go_upto_region 3 with(first
  |(refine DI rfl fun _ s=>bK (k:=t.1.size) (cs:=dkC d K) es rfl (gH _ _) (eH _ _) rfl rfl rfl (fun dl B r=>s _ _ ?_);have eL:=eK.only r t7;have dW:=t6 B r;clear B r es)
  |(refine DI rfl fun _ s=>bK (k:=t.1.size+1) (cs:=al G P U a7) eL rfl (fe _ _ _ _) bj rfl rfl rfl (fun ab V D=>s _ _ ?_)))
 obtain⟨B,r⟩:=dW.out;obtain⟨_,cP,dc,bF,ex,eC,g1,a3⟩:=gg.out;have ek:=cP.size;have a4:=r.below (vo t.1.size) a3.size;have dX:=D.below (xN t.1.size) (wa a3.size r.size);have a9:Below t.1.size t ab:=a3.trans (a4.trans dX);have m:Hid (AnV g a n c l w t.1.size (t.1.size+1) Z Q (K,(G,P,U,a7),q) d K ab):=⟨cP.thenB a9 ek,dc.below a9,B.only D t7,V,bF.below a9,ex.below a9,eC.below a9,rfl,t1⟩;obtain⟨sb,ef⟩:=aa (t.1.size+1);obtain⟨O,d5⟩:=aa t.1.size;have E:Hid (AnN w g O sb Z Q):=⟨cz.out.1,cz.out.2.1,t7,t7,hu⟩;rw[<-ef]at m ⊢;rw[<-d5]at m ⊢;clear B r cP dc bF ex eC g1 a3 a4 dX a9 ef d5 ek dW gg eK eL V D cz;have cf:k.tmod 4=k%4:=A1 et;by_cases ce:k%4=3
 case' pos=>
  rw[ce]at cf;have I:Hid (R=fJ K G P U a7 (l.getD q 0) (k/4%8) (rdP n q)):=by show R= _;rw[b9.out,mJ,B2 ce]
  have gw:=gc.out q;have cA:=cZ g a n c l q ab m.out.rdr;have d4:k.tdiv 4=k/4:=zW et;have gB:(k/4).tmod 8=k/4%8:=A1 t7;clear b9;go_wp2_with fail;refine cA.mono ?_;rintro e f ⟨rfl,b4,hd⟩;clear cA;generalize l.getD q 0=v at*;obtain⟨v0,v1⟩:=gw;have d3:AnV g a n c l w O sb Z Q (K,(G,P,U,a7),rdP n q) d K f:=⟨m.out.fr.trans b4,hd,m.out.dk.only b4 (by have:=E.out;omega),m.out.su.only b4 (by have:=E.out;omega),m.out.od.low (OnlyS.ofB b4) (fun k cn e=>by omega),m.out.r1.only b4 (by have:=E.out;omega),m.out.r2.only b4 (by have:=E.out;omega),rfl,t1⟩;clear m b4 hd;have m:Hid _:=d3;clear d3;obtain⟨a8,d8⟩:=cO (k/4%8);have hJ:0<=a8/\a8<=7:=t7;rw[d8]at gB I;generalize rdP n q=J at*;clear d8;go_upto_if 37 with fail
  go_cut [] (fun dF=> ∃d gi,AnV g a n c l w O sb Z Q R d gi dF)
  case first=>
   rcases(show a8=0\/a8=1\/a8=2\/a8=3\/a8=4\/a8=5\/a8=6\/a8=7 by omega)with rfl|rfl|rfl|rfl|rfl|rfl|rfl|rfl
   ·obtain⟨i,fm⟩:∃i:Nat,v%(K.n:Int)=(i:Int):=⟨(v%(K.n:Int)).toNat,by have:=Int.emod_nonneg v (b:=(K.n:Int)) (by have:=aT.out.1.1;omega);omega⟩;obtain⟨j,fn⟩:∃j:Nat,v%64=(j:Int):=⟨(v%64).toNat,t7⟩;have hS:=aT.out.1.1;have hT:=aT.out.1.2.1;have ad:i<K.n:=by have:=Int.emod_lt_of_pos v (b:=(K.n:Int)) t7;omega
    have gG:j<64:=t7;have hQ:v.tmod (K.n:Int)=(i:Int):=by rw[A1 v0,fm]
    have hR:v.tmod 64=(j:Int):=by rw[A1 v0,fn]
    have c0:=aT.out.2.1 i ad;have o:Hid (R=(⟨K.n,upd K.S i ((K.S i).set j (bits .xor .u8 ((K.S i).getD j 0) 1)),K.m,K.At,K.D⟩,(G,P,U,a7),J)):=by show R= _;rw[I.out,fJ,B2 rfl,flK,fm,fn];rfl
    have gp:=bDr f;have z:Hid _:=m.out.below gp;clear m gp fm fn;have cX:=z.out.od.safe.byte i ad j;have dk:=IG cX.1 cX.2;have c2:d.sN i=64:=by have:=(z.out.od.safe.data i ad).len;rw[<-this];exact c0
    have aA:=z.out.od.safe.data i ad;rw[c2]at aA;obtain⟨b,cW⟩:∃b,d.sA i=some ⟨b,0,none⟩:=by
     obtain⟨b,e,_⟩:=mM aA t7;exact⟨b,e⟩
    have N:Hid _:=z.out.flip H.out E.out (b:=b) (i:=i) (j:=j) ad cW dk.1 dk.2 rfl;have bB:=aA.bs (z.out.od.safe.byte i ad);have T:f.drew.cell? ⟨b,j,none⟩=some (.int .u8 ((K.S i).getD j 0)):=by
     obtain⟨hq,ft,cL,_,fl⟩:=bB.at_ t7;rw[cW]at cL;cases cL;have:=fl j gG;rwa [wB]at this
    have ic:f.drew.frozen? ⟨b,j,none⟩=false:=by
     rw[cW]at aA;exact World.ownsRow.frozenAt aA j
    obtain⟨am,aB⟩:∃y,d.sa=some ⟨y,0,none⟩:=by
     obtain⟨y,e,_⟩:=lW z.out.od.safe t7;exact⟨y,e⟩
    have ae:f.drew.cell? ⟨am,i,none⟩=some (.slice (some ⟨b,0,none⟩) 64 (d.sC i)):=by
     obtain⟨hq,ft,cL,_,fl⟩:=z.out.od.reads.safe.at_ t7;rw[aB]at cL;cases cL;have:=(fl i ad).2;rw[cW,c2]at this;simpa using this
    have X:f.drew.cell? ⟨O,0,none⟩=some (.slice (some ⟨am,0,none⟩) K.n d.sc):=by rw[<-aB];exact z.out.dk.cell 0
    clear z cX dk aA bB c2 c0 cW aB;generalize (K.S i).getD j 0=hr at*;have hH:(0:Int)<=(i:Int):=t7;have hI:(i:Int)< (K.n:Int):=t7;have hK:(0:Int)<=(j:Int):=t7;have hL:(j:Int)<64:=t7;have cg:(K.n:Int)≠0:=t7;have hv:¬K.n=0:=t7;have d9:(K.n:Int)≠ -1:=t7;have hY:IntKind.i64.wrap (i:Int)=(i:Int):=by simp[IntKind.wrap,IntKind.bits,IntKind.signed];omega
    have hZ:IntKind.i64.wrap (j:Int)=(j:Int):=by simp[IntKind.wrap,IntKind.bits,IntKind.signed];omega
    go_wp2_with fail;refine az (fun v=>v.cell? ⟨O,0,none⟩=some (.slice (some ⟨am,0,none⟩) K.n d.sc)/\v.cell? ⟨am,i,none⟩=some (.slice (some ⟨b,0,none⟩) 64 (d.sC i))/\v.cell? ⟨b,j,none⟩=some (.int .u8 hr)) (fun k=>decide (15<=k)) uA ?_;generalize f.drew=h8 at*;refine au 0 ⟨X,ae,T⟩ ?_;refine au 1 ⟨X,ae,T⟩ ?_;refine au 2 ⟨X,ae,T⟩ ?_;refine au 3 ⟨X,ae,T⟩ ?_;refine au 4 ⟨X,ae,T⟩ ?_;refine au 5 ⟨X,ae,T⟩ ?_;refine au 6 ⟨X,ae,T⟩ ?_;refine au 7 ⟨X,ae,T⟩ ?_;refine au 8 ⟨X,ae,T⟩ ?_;refine au 9 ⟨X,ae,T⟩ ?_;refine au 10 ⟨X,ae,T⟩ ?_;refine au 11 ⟨X,ae,T⟩ ?_;refine au 12 ⟨X,ae,T⟩ ?_;refine au 13 ⟨X,ae,T⟩ ?_;refine au 14 ⟨X,ae,T⟩ ?_;refine ah 15 fun an s=> ?_;go_wp2_with fail;refine aU s ?_;clear s an;go_wp2_with fail
    go_meet
    exact⟨d,_,by rw[o.out];exact N.out⟩
   ·obtain⟨L,Y⟩:=cO (v%(U+1));have af:v.tmod (U+1)=L:=by rw[A1 v0,Y]
    have cg:(U+1)≠0:=t7;have d9:(U+1)≠ -1:=t7;have em:0<=L/\L<U+1:=by rw[<-Y];exact⟨Int.emod_nonneg _ cg,Int.emod_lt_of_pos _ t7⟩
    have g0:IntKind.i64.wrap L=L:=by simp[IntKind.wrap,IntKind.bits,IntKind.signed];omega
    have e8:f.cell? ⟨sb,2,none⟩=some (.int .i64 U):=m.out.su.cell 2;have e0:=m.out.su.cell 1;have fc:=m.out.su.free 1;have bR:=m.out.putS H.out E.out (ax f sb 1 (.int .i64 L)) (G,L,U,a7) (m.out.su.set 1 (.int .i64 L));have N:Hid _:=bR;clear bR;have o:Hid (R=(K,(G,L,U,a7),J)):=by show R= _;rw[I.out,fJ,Ct uv,B2 rfl,Y]
    clear Y;go_wp2_with fail
    go_meet
    exact⟨d,K,by rw[o.out];exact N.out⟩
   ·obtain⟨L,Y⟩:=cO (v%(U+1));have af:v.tmod (U+1)=L:=by rw[A1 v0,Y]
    have cg:(U+1)≠0:=t7;have d9:(U+1)≠ -1:=t7;have em:0<=L/\L<U+1:=by rw[<-Y];exact⟨Int.emod_nonneg _ cg,Int.emod_lt_of_pos _ t7⟩
    have g0:IntKind.i64.wrap L=L:=by simp[IntKind.wrap,IntKind.bits,IntKind.signed];omega
    have e8:f.cell? ⟨sb,2,none⟩=some (.int .i64 U):=m.out.su.cell 2;have e0:=m.out.su.cell 3;have fc:=m.out.su.free 3;have bR:=m.out.putS H.out E.out (ax f sb 3 (.int .i64 L)) (G,P,U,L) (m.out.su.set 3 (.int .i64 L));have N:Hid _:=bR;clear bR;have o:Hid (R=(K,(G,P,U,L),J)):=by show R= _;rw[I.out,fJ,Ct uv,Ct uv,B2 rfl,Y]
    clear Y;go_wp2_with fail
    go_meet
    exact⟨d,K,by rw[o.out];exact N.out⟩
   ·obtain⟨L,Y⟩:=cO (U+(v%3-1));have af:v.tmod 3=v%3:=A1 v0;obtain⟨y,cp⟩:=cO (v%3);rw[cp]at af Y;have a5:0<=y/\y<=2:=t7;obtain⟨hD,W⟩:=a5;have e8:f.cell? ⟨sb,2,none⟩=some (.int .i64 U):=m.out.su.cell 2;have e0:=m.out.su.cell 2;have fc:=m.out.su.free 2;have bR:=m.out.putS H.out E.out (ax f sb 2 (.int .i64 L)) (G,P,L,a7) (m.out.su.set 2 (.int .i64 L));have N:Hid _:=bR;clear bR;have o:Hid (R=(K,(G,P,L,a7),J)):=by show R= _;rw[I.out,fJ,Ct uv,Ct uv,Ct uv,B2 rfl,cp,Y]
    clear cp;go_wp2_with fail
    go_meet
    exact⟨d,K,by rw[o.out];exact N.out⟩
   ·have af:v.tmod 3=v%3:=A1 v0;have db:=bAl f (.cells #[.int .i64 0,.int .i64 1000000000000,.int .i64 1000000000001] 3);have aS:=D3 f (.cells #[.int .i64 0,.int .i64 1000000000000,.int .i64 1000000000001] 3);have fD:=C8 _ _ 0 _ _ _ aS;have dl:=C8 _ _ 1 _ _ _ aS;have ab:=C8 _ _ 2 _ _ _ aS;have z:Hid _:=m.out.below db;have e0:=z.out.su.cell 0;have fc:=z.out.su.free 0;clear m db aS;rcases(show v%3=0\/v%3=1\/v%3=2 by omega)with h3|h3|h3
    ·rw[h3]at af;have N:Hid _:=z.out.putS H.out E.out (ax _ sb 0 (.int .i64 0)) (0,P,U,a7) (z.out.su.set 0 (.int .i64 0));have o:Hid (R=(K,(0,P,U,a7),J)):=by show R= _;rw[I.out,fJ,Ct uv,Ct uv,Ct uv,Ct uv,B2 rfl,h3];rfl
     go_wp2_with fail
     go_meet
     exact⟨d,K,by rw[o.out];exact N.out⟩
    ·rw[h3]at af;have N:Hid _:=z.out.putS H.out E.out (ax _ sb 0 (.int .i64 1000000000000)) (1000000000000,P,U,a7) (z.out.su.set 0 (.int .i64 1000000000000));have o:Hid (R=(K,(1000000000000,P,U,a7),J)):=by show R= _;rw[I.out,fJ,Ct uv,Ct uv,Ct uv,Ct uv,B2 rfl,h3];rfl
     go_wp2_with fail
     go_meet
     exact⟨d,K,by rw[o.out];exact N.out⟩
    ·rw[h3]at af;have N:Hid _:=z.out.putS H.out E.out (ax _ sb 0 (.int .i64 1000000000001)) (1000000000001,P,U,a7) (z.out.su.set 0 (.int .i64 1000000000001));have o:Hid (R=(K,(1000000000001,P,U,a7),J)):=by show R= _;rw[I.out,fJ,Ct uv,Ct uv,Ct uv,Ct uv,B2 rfl,h3];rfl
     go_wp2_with fail
     go_meet
     exact⟨d,K,by rw[o.out];exact N.out⟩
   ·have ak:v.tmod 6=v%6:=A1 v0;obtain⟨bS,bl⟩:=aa (f.alloc (.cells #[] 5));have ha:Below f.1.size f bS:=by rw[bl];exact bAl _ _
    have fM:bS.1.size=f.1.size+1:=by rw[bl];simp
    obtain⟨bT,bm⟩:=aa (bS.alloc (.cells #[.int .u8 1,.int .u8 97,.int .u8 0] 5));have b5:Below bS.1.size bS bT:=by rw[bm];exact bAl _ _
    have b7:bT.1.size=f.1.size+1+1:=by rw[bm];simp[fM]
    obtain⟨bW,bn⟩:=aa (bT.alloc (.cells #[.int .u8 1,.int .u8 97,.int .u8 0,.int .u8 1,.int .u8 97,.int .u8 0] 5));have J:Below bT.1.size bT bW:=by rw[bn];exact bAl _ _
    have dp:bW.1.size=f.1.size+1+1+1:=by rw[bn];simp[b7]
    obtain⟨bX,br⟩:=aa (bW.alloc (.cells #[.int .u8 2,.int .u8 0,.int .u8 0,.int .u8 0] 5));have da:Below bW.1.size bW bX:=by rw[br];exact bAl _ _
    have fP:bX.1.size=f.1.size+1+1+1+1:=by rw[br];simp[dp]
    obtain⟨bY,bs⟩:=aa (bX.alloc (.cells #[.int .u8 3,.int .u8 0,.int .u8 0,.int .u8 0,.int .u8 1,.int .u8 98,.int .u8 4,.int .u8 0,.int .u8 0,.int .u8 0] 5));have cq:Below bX.1.size bX bY:=by rw[bs];exact bAl _ _
    have fV:bY.1.size=f.1.size+1+1+1+1+1:=by rw[bs];simp[fP]
    obtain⟨bZ,bu⟩:=aa (bY.alloc (.cells #[.int .u8 0,.int .u8 0,.int .u8 0,.int .u8 0,.int .u8 2,.int .u8 0,.int .u8 0,.int .u8 0] 5));have b6:Below bY.1.size bY bZ:=by rw[bu];exact bAl _ _
    have fZ:bZ.1.size=f.1.size+1+1+1+1+1+1:=by rw[bu];simp[fV]
    obtain⟨e2,bv⟩:=aa (bZ.alloc (.cells #[.slice (some ⟨f.1.size,0,none⟩) 0 0,.slice (some ⟨f.1.size+1,0,none⟩) 3 3,.slice (some ⟨f.1.size+1+1,0,none⟩) 6 6,.slice (some ⟨f.1.size+1+1+1,0,none⟩) 4 4,.slice (some ⟨f.1.size+1+1+1+1,0,none⟩) 10 10,.slice (some ⟨f.1.size+1+1+1+1+1,0,none⟩) 8 8] 56));have bP:Below bZ.1.size bZ e2:=by rw[bv];exact bAl _ _
    have hE:e2.1.size=f.1.size+1+1+1+1+1+1+1:=by rw[bv];simp[fZ]
    have B0:Bs bS (some ⟨f.1.size,0,none⟩) 0 0 []:=by rw[bl];exact iI f [] (fun x hx=>by simp at hx;first|done|omega) uv
    have f6:=((((((B0.below b5).below J).below da).below cq).below b6).below bP);have f0:Bs bT (some ⟨f.1.size+1,0,none⟩) 3 3 [1,97,0]:=by rw[bm,<-fM];exact iI bS [1,97,0] (fun x hx=>by simp at hx;first|done|omega) uv
    have f7:=(((((f0.below J).below da).below cq).below b6).below bP);have f2:Bs bW (some ⟨f.1.size+1+1,0,none⟩) 6 6 [1,97,0,1,97,0]:=by rw[bn,<-b7];exact iI bT [1,97,0,1,97,0] (fun x hx=>by simp at hx;first|done|omega) uv
    have f8:=((((f2.below da).below cq).below b6).below bP);have f3:Bs bX (some ⟨f.1.size+1+1+1,0,none⟩) 4 4 [2,0,0,0]:=by rw[br,<-dp];exact iI bW [2,0,0,0] (fun x hx=>by simp at hx;first|done|omega) uv
    have f9:=(((f3.below cq).below b6).below bP);have f4:Bs bY (some ⟨f.1.size+1+1+1+1,0,none⟩) 10 10 [3,0,0,0,1,98,4,0,0,0]:=by rw[bs,<-fP];exact iI bX [3,0,0,0,1,98,4,0,0,0] (fun x hx=>by simp at hx;first|done|omega) uv
    have ga:=((f4.below b6).below bP);have f5:Bs bZ (some ⟨f.1.size+1+1+1+1+1,0,none⟩) 8 8 [0,0,0,0,2,0,0,0]:=by rw[bu,<-fV];exact iI bY [0,0,0,0,2,0,0,0] (fun x hx=>by simp at hx;first|done|omega) uv
    have gb:=(f5.below bP);have aS:=D3 bZ (.cells #[.slice (some ⟨f.1.size,0,none⟩) 0 0,.slice (some ⟨f.1.size+1,0,none⟩) 3 3,.slice (some ⟨f.1.size+1+1,0,none⟩) 6 6,.slice (some ⟨f.1.size+1+1+1,0,none⟩) 4 4,.slice (some ⟨f.1.size+1+1+1+1,0,none⟩) 10 10,.slice (some ⟨f.1.size+1+1+1+1+1,0,none⟩) 8 8] 56);rw[<-bv,fZ]at aS;have C:Hid _:=(((((((m.out.below ha).below b5).below J).below da).below cq).below b6).below bP);have fD:=C8 _ _ 0 _ _ _ aS;have dl:=C8 _ _ 1 _ _ _ aS;have ab:=C8 _ _ 2 _ _ _ aS;have hg:=C8 _ _ 3 _ _ _ aS;have hh:=C8 _ _ 4 _ _ _ aS;have hi:=C8 _ _ 5 _ _ _ aS;have a0:=t6 f6 (vk f7 (vk f8 (vk f9 (vk ga gb))));clear m aS f6 f7 f8 f9 ga gb B0 f0 f2 f3 f4 f5 ha b5 J da cq b6 bP;have cR:e2=(((((((f.alloc (.cells #[] 5)).alloc (.cells #[.int .u8 1,.int .u8 97,.int .u8 0] 5)).alloc (.cells #[.int .u8 1,.int .u8 97,.int .u8 0,.int .u8 1,.int .u8 97,.int .u8 0] 5)).alloc (.cells #[.int .u8 2,.int .u8 0,.int .u8 0,.int .u8 0] 5)).alloc (.cells #[.int .u8 3,.int .u8 0,.int .u8 0,.int .u8 0,.int .u8 1,.int .u8 98,.int .u8 4,.int .u8 0,.int .u8 0,.int .u8 0] 5)).alloc (.cells #[.int .u8 0,.int .u8 0,.int .u8 0,.int .u8 0,.int .u8 2,.int .u8 0,.int .u8 0,.int .u8 0] 5)).alloc (.cells #[.slice (some ⟨f.1.size,0,none⟩) 0 0,.slice (some ⟨f.1.size+1,0,none⟩) 3 3,.slice (some ⟨f.1.size+1+1,0,none⟩) 6 6,.slice (some ⟨f.1.size+1+1+1,0,none⟩) 4 4,.slice (some ⟨f.1.size+1+1+1+1,0,none⟩) 10 10,.slice (some ⟨f.1.size+1+1+1+1+1,0,none⟩) 8 8] 56)):=by rw[bv,bu,bs,br,bn,bm,bl]
    clear bv bu bs br bn bm bl fM b7 dp fP fV fZ hE;have a1:Hid _:=cR;rw[cR]at fD dl ab hg hh hi;clear cR;go_upto_region 18 with fail
    go_cut [9] (fun hz dF=> ∃ds dD,hz= .slice ds (dB v).length dD/\Bs dF ds (dB v).length dD (dB v)/\AnV g a n c l w O sb Z Q (K,(G,P,U,a7),J) d K dF)
    case first=>
     rcases(show v%6=0\/v%6=1\/v%6=2\/v%6=3\/v%6=4\/v%6=5 by omega)with h6|h6|h6|h6|h6|h6
     ·rw[h6]at ak;have A:dB v=[]:=by rw[dB,B2 h6]
      have S:Hid _:=A;clear A;go_wp2_with fail
      go_meet
      rw[S.out,<-a1.out];exact⟨_,_,rfl,a0.out.1,C.out⟩
     ·rw[h6]at ak;have A:dB v=[1,97,0]:=by rw[dB,Ct t7,B2 h6]
      have S:Hid _:=A;clear A;go_wp2_with fail
      go_meet
      rw[S.out,<-a1.out];exact⟨_,_,rfl,a0.out.2.1,C.out⟩
     ·rw[h6]at ak;have A:dB v=[1,97,0,1,97,0]:=by rw[dB,Ct t7,Ct t7,B2 h6]
      have S:Hid _:=A;clear A;go_wp2_with fail
      go_meet
      rw[S.out,<-a1.out];exact⟨_,_,rfl,a0.out.2.2.1,C.out⟩
     ·rw[h6]at ak;have A:dB v=[2,0,0,0]:=by rw[dB,Ct t7,Ct t7,Ct t7,B2 h6]
      have S:Hid _:=A;clear A;go_wp2_with fail
      go_meet
      rw[S.out,<-a1.out];exact⟨_,_,rfl,a0.out.2.2.2.1,C.out⟩
     ·rw[h6]at ak;have A:dB v=[3,0,0,0,1,98,4,0,0,0]:=by rw[dB,Ct t7,Ct t7,Ct t7,Ct t7,B2 h6]
      have S:Hid _:=A;clear A;go_wp2_with fail
      go_meet
      rw[S.out,<-a1.out];exact⟨_,_,rfl,a0.out.2.2.2.2.1,C.out⟩
     ·rw[h6]at ak;have A:dB v=[0,0,0,0,2,0,0,0]:=by rw[dB,Ct t7,Ct t7,Ct t7,Ct t7,Ct t7]
      have S:Hid _:=A;clear A;go_wp2_with fail
      go_meet
      rw[S.out,<-a1.out];exact⟨_,_,rfl,a0.out.2.2.2.2.2,C.out⟩
    case rest=>
    clear a0 C a1 fD dl ab hg hh hi ak;obtain⟨ds,dD,rfl,bB,gv⟩:=hcut;obtain⟨hn,bE⟩:=aa wc;subst bE;have m:Hid _:=gv;clear gv;have hV:v.tdiv 6=v/6:=zW v0;have gS:(v/6).tmod 3=v/6%3:=A1 t7;have hy:v.tdiv 18=v/18:=zW v0;have fo:(v/18).tmod 3=v/18%3:=A1 t7;have ap:=ly (2+v/6%3) (2+v/18%3) ds dD (dB v) hn bB (IJ v);have o:Hid (R=(cu K (pwO (2+v/6%3) (2+v/18%3) (dB v)) 4,(G,P,U,a7),J)):=by show R= _;rw[I.out,fJ,Ct uv,Ct uv,Ct uv,Ct uv,Ct uv,B2 rfl]
    generalize pwO (2+v/6%3) (2+v/18%3) (dB v)=xs at*;obtain⟨W,V⟩:=cO (v/6%3);obtain⟨ac,D⟩:=cO (v/18%3);have a5:(0<=W/\W<=2)/\0<=ac/\ac<=2:=t7;obtain⟨⟨hj,hk⟩,hl,hm⟩:=a5;rw[V]at gS ap;rw[D]at fo ap;generalize (dB v).length=ia at*;clear V D bB;go_wp2_with fail;refine ap.mono ?_;rintro e aX ⟨c8,c9,g9,rfl,b2,a6⟩;clear ap;have ca:Hid _:=m.out.below b2;have kd:=ca.out.dk;have bk:=mH d K c8 c9 xs 4 aX ca.out.od.reads aT.out a6.reads;obtain⟨b0,bd⟩:=aa (cu K xs 4);rw[<-bd]at bk o;clear m b2 a6;unfold av at bk;go_wp2_with (refine B3 rfl 35 _ rfl O rfl 35 (dkC d K).toArray (0,0) _ kd underlying35 rfl (eH _ _) ?_);refine bk.mono ?_;rintro e bg ⟨fa,i1,rfl,cm,eN⟩;clear bk kd;have dS:Hid _:=ca.out.below cm;have g3:=dS.out.dk;have gf:Hid (ODisk w.1.size bg fa b0):=eN.mono ca.out.fr.size;clear eN cm bd;go_wp2_with (refine DI rfl fun _ s=>bK (k:=O) (cs:=dkC fa b0) g3 rfl (gH _ _) (eH _ _) rfl rfl rfl (fun hC B r=>s _ _ ?_);have N:Hid _:=dS.out.putD H.out E.out r B gf.out rfl t1;clear B r)
    go_meet
    exact⟨fa,b0,by rw[o.out];exact N.out⟩
   ·have cf:v.tmod 4=v%4:=A1 v0;have d4:v.tdiv 4=v/4:=zW v0;have d7:(v/4).tmod 4=v/4%4:=A1 t7;have o:Hid (R=(cu K (sO v) 12,(1,2,5,0),J)):=by show R= _;rw[I.out,fJ,Ct uv,Ct uv,Ct uv,Ct uv,Ct uv,Ct uv,B2 rfl]
    unfold sO at o;obtain⟨W,V⟩:=cO (v%4);obtain⟨ac,D⟩:=cO (v/4%4);have a5:(0<=W/\W<=3)/\0<=ac/\ac<=3:=t7;obtain⟨⟨hj,hk⟩,hl,hm⟩:=a5;rw[V]at cf o;rw[D]at d7 o;clear V D;have hW:IntKind.u8.wrap (97+W)=97+W:=by simp[IntKind.wrap,IntKind.bits,IntKind.signed];omega
    have hX:IntKind.u8.wrap (98+ac)=98+ac:=by simp[IntKind.wrap,IntKind.bits,IntKind.signed];omega
    have db:=bAl f (.cells #[.int .u8 3,.int .u8 0,.int .u8 0,.int .u8 0,.int .u8 1,.int .u8 99,.int .u8 4,.int .u8 0,.int .u8 0,.int .u8 0] 5);have ap:=ly 2 3 (some ⟨f.1.size,0,none⟩) 10 [3,0,0,0,1,99,4,0,0,0] _ (iI f [3,0,0,0,1,99,4,0,0,0] (fun x hx=>by simp at hx;omega) uv) uv;have C:Hid _:=m.out.below db;have hN:=jK 2 3 [3,0,0,0,1,99,4,0,0,0];clear m db I;generalize pwO 2 3 [3,0,0,0,1,99,4,0,0,0]=bf at*;go_wp2_with fail;refine ap.mono ?_;rintro e aX ⟨c8,c9,g9,rfl,b2,a6⟩;clear ap;change Below (f.alloc (.cells #[.int .u8 3,.int .u8 0,.int .u8 0,.int .u8 0,.int .u8 1,.int .u8 99,.int .u8 4,.int .u8 0,.int .u8 0,.int .u8 0] 5)).1.size (f.alloc (.cells #[.int .u8 3,.int .u8 0,.int .u8 0,.int .u8 0,.int .u8 1,.int .u8 99,.int .u8 4,.int .u8 0,.int .u8 0,.int .u8 0] 5)) aX at b2;change OOp (f.alloc (.cells #[.int .u8 3,.int .u8 0,.int .u8 0,.int .u8 0,.int .u8 1,.int .u8 99,.int .u8 4,.int .u8 0,.int .u8 0,.int .u8 0] 5)).1.size aX c8 c9 bf at a6;generalize f.alloc (.cells #[.int .u8 3,.int .u8 0,.int .u8 0,.int .u8 0,.int .u8 1,.int .u8 99,.int .u8 4,.int .u8 0,.int .u8 0,.int .u8 0] 5)=ag at*;have cv:Hid _:=a6.lt;have dE:=bAl aX (.cells #[.int .u8 1,.int .u8 (97+W),.int .u8 0] 5);have ap:=ly 3 2 (some ⟨aX.1.size,0,none⟩) 3 [1,97+W,0] _ (iI aX [1,97+W,0] (fun x hx=>by simp at hx;omega) (by show 3<=1000;decide)) (by show 3<=1048576;decide);have cr:Hid (Below ag.1.size ag (aX.alloc (.cells #[.int .u8 1,.int .u8 (97+W),.int .u8 0] 5))/\OOp ag.1.size (aX.alloc (.cells #[.int .u8 1,.int .u8 (97+W),.int .u8 0] 5)) c8 c9 bf/\aX.1.size<=(aX.alloc (.cells #[.int .u8 1,.int .u8 (97+W),.int .u8 0] 5)).1.size):=⟨b2.trans (dE.mono b2.size),a6.below dE,dE.size⟩;have hO:=jK 3 2 [1,97+W,0];generalize pwO 3 2 [1,97+W,0]=cj at*;clear b2 a6 dE;go_wp2_with fail;refine ap.mono ?_;rintro e bg ⟨g7,g8,h5,rfl,cm,eU⟩;clear ap;have fz:=bAl bg (.cells #[.int .u8 1,.int .u8 (98+ac),.int .u8 1,.int .u8 120] 5);have ap:=ly 4 2 (some ⟨bg.1.size,0,none⟩) 4 [1,98+ac,1,120] _ (iI bg [1,98+ac,1,120] (fun x hx=>by simp at hx;omega) (by show 4<=1000;decide)) (by show 4<=1048576;decide);have a4:=cm.trans (fz.mono cm.size);have cl:Hid (Below ag.1.size ag (bg.alloc (.cells #[.int .u8 1,.int .u8 (98+ac),.int .u8 1,.int .u8 120] 5))/\OOp ag.1.size (bg.alloc (.cells #[.int .u8 1,.int .u8 (98+ac),.int .u8 1,.int .u8 120] 5)) c8 c9 bf/\ROp (bg.alloc (.cells #[.int .u8 1,.int .u8 (98+ac),.int .u8 1,.int .u8 120] 5)) g7 g8 cj/\aX.1.size<=(bg.alloc (.cells #[.int .u8 1,.int .u8 (98+ac),.int .u8 1,.int .u8 120] 5)).1.size):=⟨cr.out.1.trans (a4.mono cr.out.1.size),cr.out.2.1.below a4,(eU.below fz).reads,wa cr.out.2.2 a4.size⟩;have hP:=jK 4 2 [1,98+ac,1,120];generalize pwO 4 2 [1,98+ac,1,120]=e1 at*;clear cm eU fz cr a4;go_wp2_with fail;refine ap.mono ?_;rintro e fB ⟨h2,h4,h7,rfl,e7,eV⟩;clear ap;have bc:=bDr fB;have cb:=e7.trans (bc.mono e7.size);have dr:Below ag.1.size ag fB.drew:=cl.out.1.trans (cb.mono cl.out.1.size);have cS:=cl.out.2.1.below cb;have d1:=cl.out.2.2.1.below cb;have d2:=eV.below bc;have g2:=cl.out.2.2.2;clear e7 eV bc cb cl cf d4 d7;go_wp2_with fail;refine l7 (fun u=>(Instr.loadAt 35 (.pointer (some ⟨O,0,none⟩))).run prog u= .ok (.agg (dkC d K).toArray) u) 6 uA ?_;generalize fB.drew=i3 at*;have bb:=aL (C.out.dk.below dr);refine l8 0 (.agg (dkC d K).toArray) bb ?hza0 ?_
    case hza0=>exact fun u bx=>bo (p:= .pointer (some ⟨O,0,none⟩)) rfl rfl bx
    refine cK 1 ?_;refine cK 2 ?_;refine cK 4 ?_;refine eO 3 fun an s=> ?_;refine jc (so:= .tmp 146) (xo:= .tmp 147) cS d1 t7 dr.size rfl rfl rfl ?_;intro h9 ib hB g5 gr gj;have cc:Below ag.1.size ag hB:=dr.trans gj;have cT:=d2.grown cS gr (fun k cn=>wE (cv.out k cn) g2);refine s.out _ _ (fun _=>aL (C.out.dk.below cc)) ?_;clear s an bb cS d1 d2 gr gj dr;refine eO 5 fun an s=> ?_;refine jc (so:= .tmp 148) (xo:= .tmp 149) (xs:=bf++cj) g5 cT.reads (by rw[v7];omega) cc.size rfl (by rw[v7];rfl) rfl ?_;intro hp T he g6 hs gm;have ba:Below ag.1.size ag he:=cc.trans gm;refine s.out _ _ (fun _=>aL (C.out.dk.below ba)) ?_;clear s an g5 cT hs gm cc;have bk:=mH d K hp T ((bf++cj)++e1) 12 he ((C.out.od.below ba).reads) aT.out g6.reads;obtain⟨b0,bd⟩:=aa (cu K ((bf++cj)++e1) 12);rw[<-bd,v7,v7]at bk;rw[<-bd]at o;refine eO 6 fun an s=> ?_;go_wp2_with fail;refine bk.mono ?_;rintro e hf ⟨e9,hF,rfl,gn,eR⟩;have cD:Below ag.1.size ag hf:=ba.trans (gn.mono ba.size);have en:=C.out.dk.below cD;have dI:Hid (ODisk w.1.size hf e9 b0):=eR.mono (wa C.out.fr.size ba.size);have dV:Hid _:=C.out.below cD;clear bk g6 gn eR ba cD bd cv;unfold av;go_wp2_with fail;refine goR s ?_;clear s an;refine cK 7 ?_;refine cK 8 ?_;refine cK 9 ?_;refine eO 10 fun an s=> ?_;refine bK (k:=O) (cs:=dkC e9 b0) en rfl (gH _ _) (eH _ _) rfl rfl rfl (fun hC B r=> ?_);refine goR s ?_;clear s an;refine l9 ?_;have dU:Hid _:=dV.out.putD H.out E.out r B dI.out rfl t1;clear B r en dV dI C;have g4:=dU.out.su;have hG:=IK;go_wp2_with (refine DI rfl fun _ s=>bK (k:=sb) (cs:=al 1 2 5 0) g4 rfl (fe _ _ _ _) bj rfl rfl rfl (fun i4 B r=>s _ _ ?_);have N:Hid _:=dU.out.putS H.out E.out r (1,2,5,0) B;clear B r)
    go_meet
    exact⟨e9,b0,by rw[o.out];exact N.out⟩
   ·have ak:v.tmod 6=v%6:=A1 v0;obtain⟨y,cp⟩:=cO (v%6);have o:Hid (R=(trK K (4*(U-1)+v%6),(G,P,U,a7),J)):=by show R= _;rw[I.out,fJ,Ct uv,Ct uv,Ct uv,Ct uv,Ct uv,Ct uv,Ct uv]
    have a5:0<=y/\y<=5:=t7;obtain⟨hD,W⟩:=a5;rw[cp]at ak o;clear cp I;obtain⟨L,Y⟩:∃L:Nat,4*(U-1)+y=(L:Int):=⟨(4*(U-1)+y).toNat,t7⟩;rw[Y]at o;have em:L<=5000:=t7;have e8:f.cell? ⟨sb,2,none⟩=some (.int .i64 U):=m.out.su.cell 2;obtain⟨am,aB⟩:∃y,d.sa=some ⟨y,0,none⟩:=by
     obtain⟨y,e,_⟩:=lW m.out.od.safe (by have:=aT.out.1.1;omega);exact⟨y,e⟩
    have X:f.cell? ⟨O,0,none⟩=some (.slice (some ⟨am,0,none⟩) K.n d.sc):=by rw[<-aB];exact m.out.dk.cell 0
    have i0:=m.out.dk.free 0;have ht:=m.out.od.reads.safe.le;have gA:=m.out.od.reads.safe.le';unfold maxLen at gA;have hM:=aT.out.1.2.1;go_upto_region 28 with fail
    by_cases ad:(L:Int)< (K.n:Int)
    ·have s:trK K (L:Int)=lG K L:=by rw[trK,B2 ad];rfl
     have d6:(dkC d K).set 0 (.slice (some ⟨am,0,none⟩) L d.sc)=dkC d (lG K L):=by rw[<-aB];rfl
     have N:Hid (AnV g a n c l w O sb Z Q (lG K L,(G,P,U,a7),J) d K (f.setCell ⟨O,0,none⟩ (.slice (some ⟨am,0,none⟩) L d.sc))):=m.out.putD H.out E.out (ax f O 0 (.slice (some ⟨am,0,none⟩) L d.sc)) (by rw[<-d6];exact m.out.dk.set 0 _) m.out.od rfl (by show L<=K.n;omega);have e5:Hid _:=s;have h0:L<=d.sc:=t7;clear s d6 Y;go_wp2_with fail
     go_meet
     exact⟨d,K,by rw[o.out,e5.out];exact N.out⟩
    ·have e5:Hid (trK K (L:Int)=K):=by show trK K (L:Int)=K;rw[trK,Ct ad]
     clear Y;go_wp2_with fail
     go_meet
     exact⟨d,K,by rw[o.out,e5.out];exact m.out⟩
  case' rest=>
   clear m I;obtain⟨d,gi,gt⟩:=hcut;obtain⟨dq,bE⟩:=aa wc;subst bE;have e4:Hid _:=gt;clear gt
 case' neg=>
  have hU:(k%4 !=3)=true:=by simp[ce]
  have dP:Hid (R=(K,(G,P,U,a7),q)):=by show R= _;rw[b9.out,mJ,Ct ce]
  obtain⟨dq,bE⟩:=aa ab;subst bE;have e4:Hid (AnV g a n c l w O sb Z Q R d K dq):=by rw[dP.out];exact m.out
  clear m b9 dP
 all_goals
  go_wp2_with fail;have bc:=bDr dq;have F:Hid _:=e4.out.below bc;clear e4 bc;refine az (fun u=>(Instr.loadAt 35 (.pointer (some ⟨O,0,none⟩))).run prog u= .ok (.agg (dkC d R.1).toArray) u/\(Instr.loadAt 36 (.pointer (some ⟨sb,0,none⟩))).run prog u= .ok (.agg (al R.2.1.1 R.2.1.2.1 R.2.1.2.2.1 R.2.1.2.2.2).toArray) u) (fun _=>false) uA ?_;generalize dq.drew=ho at*;have bb:=vk (aL F.out.dk) (aN F.out.su);refine aM 0 (.agg (dkC d R.1).toArray) bb ?ha0 ?_
  case ha0=>exact fun u bx=>bo (p:= .pointer (some ⟨O,0,none⟩)) rfl rfl bx.1
  refine aM 1 (.agg (al R.2.1.1 R.2.1.2.1 R.2.1.2.2.1 R.2.1.2.2.2).toArray) bb ?ha1 ?_
  case ha1=>exact fun u bx=>bo (p:= .pointer (some ⟨sb,0,none⟩)) rfl rfl bx.2
  have b3:=F.out.r1;refine ah 2 fun an s=> ?_;refine bK (k:=Z) (cs:=dkC d R.1) b3 rfl (gH _ _) (eH _ _) rfl rfl rfl (fun dl B r=> ?_);have c4:=F.out.dk.only r (by have:=E.out;omega);have c5:=F.out.su.only r (by have:=E.out;omega);have c3:=F.out.r2.only r (by have:=E.out;omega);have eM:=yX F.out.od r b3;refine ao s ?_ (fun _=>⟨aL c4,aN c5⟩);clear s an bb;refine ah 3 fun an s=> ?_;refine bK (k:=Q) (cs:=al R.2.1.1 R.2.1.2.1 R.2.1.2.2.1 R.2.1.2.2.2) c3 rfl (fe _ _ _ _) bj rfl rfl rfl (fun ab V D=> ?_);have eq:=c4.only D (by have:=E.out;omega);have eB:=c5.only D (by have:=E.out;omega);have ev:=B.only D (by have:=E.out;omega);have cB:Below w.1.size ho ab:=(r.below E.out.1 F.out.fr.size).trans (D.below (by have:=E.out;omega) (wa F.out.fr.size r.size));have cM:=F.out.fr.thenB cB t1;have hcut:=F.out.cut;have eW:Firm w.1.size ab d R.1:=fun i2 hw=>by
   have:=((sZ eM D c3).low hw (fun k cn e=>by omega)).reads.cut F.out.le;rw[<-hcut]at this;exact this
  have e3:Hid (Blk ab 35 Z (dkC d R.1)/\Blk ab 36 Q (al R.2.1.1 R.2.1.2.1 R.2.1.2.2.1 R.2.1.2.2.2)/\OnlyB g w ab/\IsRd ab g a n c l R.2.2/\Firm w.1.size ab d R.1):=⟨ev,V,cM,H.out.only cM (by rw[cB.block g E.out.2.2.2.2];exact F.out.rdr.box) F.out.rdr.at_,eW⟩;refine aU s ?_ (fun _=>⟨aL eq,aN eB⟩);clear s an c4 c5 c3 eq eB ev cB cM B r V D b3 F eM hcut eW;go_wp2_with fail;refine B1 (v:= .tuple #[.agg (dkC d R.1).toArray,.agg (al R.2.1.1 R.2.1.2.1 R.2.1.2.2.1 R.2.1.2.2.2).toArray]) ?_ rfl ?_
  ·exact yV results55 _ _ Z Q 35 36 (dkC d R.1).toArray (al R.2.1.1 R.2.1.2.1 R.2.1.2.2.1 R.2.1.2.2.2).toArray _ _ rfl e3.out.1 underlying35 rfl (eH _ _) rfl e3.out.2.1 underlying36 rfl bj
  ·exact⟨d,rfl,e3.out.2.2⟩
