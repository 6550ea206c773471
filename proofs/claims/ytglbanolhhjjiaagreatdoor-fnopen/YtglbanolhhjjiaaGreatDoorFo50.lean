import Derived.Test.YtglbanolhhjjiaaGreatDoorFo49
namespace Go.Proofs.YtglbanolhhjjiaaGreatDoor
open Go.Proofs.Tryz
open Go.RowKit
set_option linter.unusedVariables false
set_option maxRecDepth 100000
set_option maxHeartbeats 32000000
theorem IL(g a n c l p w)(h:IsRd w g a n c l p)(R)(cV:R=lE l n p):
 Calls prog 55 #[.pointer (some ⟨g,0,none⟩)] w fun e w'=> ∃d,e= .returned (.tuple #[av d R.1,.agg (al R.2.1.1 R.2.1.2.1 R.2.1.2.2.1 R.2.1.2.2.2).toArray])/\OnlyB g w w'/\IsRd w' g a n c l R.2.2/\Firm w.1.size w' d R.1:=by
 have gt:=h.bs.byte p;have gf:Hid (∀i,0<=l.getD i 0/\l.getD i 0<256):=h.bs.byte;have hw:=h.lt;have H:Hid (IsRd w g a n c l p):=h;obtain⟨b1,bz⟩:=aa (w.alloc (.cells #[.slice none 0 0,.slice none 0 0] 35));obtain⟨a2,bA⟩:=aa (b1.alloc (.cells (al 0 0 0 0).toArray 36));have b5:Below w.1.size w b1:=by rw[bz];exact bAl _ _
 have J:Below b1.1.size b1 a2:=by rw[bA];exact bAl _ _
 have b7:b1.1.size=w.1.size+1:=by rw[bz];simp
 have dp:a2.1.size=w.1.size+1+1:=by rw[bA];simp[b7]
 have ch:Below w.1.size w a2:=b5.trans (J.mono b5.size);have b3:Blk a2 35 w.1.size [.slice none 0 0,.slice none 0 0]:=(by rw[bz];exact aq w _ _:Blk b1 35 w.1.size [.slice none 0 0,.slice none 0 0]).below J;have ft:Blk a2 36 (w.1.size+1) (al 0 0 0 0):=by rw[bA,<-b7];exact aq b1 _ _
 have hd:=h.below ch;go_enter func55,ntmps55;go_upto_region 1 with fail
 change Code.wp _ _ _ _ ((w.alloc (.cells #[.slice none 0 0,.slice none 0 0] 35)).alloc (.cells (al 0 0 0 0).toArray 36));rw[<-bz,<-bA];obtain⟨Q,ef⟩:=aa (w.1.size+1);obtain⟨Z,eb⟩:=aa w.1.size;rw[<-ef]at ft ⊢;rw[<-eb]at b3 ⊢;have cz:Hid (w.1.size<=Z/\Z<Q/\Q<a2.1.size/\w.1.size<=a2.1.size):=⟨uA,uA,uA,ch.size⟩;have b8:Hid (OnlyB g w a2/\Blk a2 35 Z [.slice none 0 0,.slice none 0 0]/\Blk a2 36 Q (al 0 0 0 0)):=⟨Below.onlyB ch g,b3,ft⟩;clear bz bA b5 J b7 dp ch b3 ft ef eb h;have cA:=cZ g a n c l p a2 hd;clear hd;go_wp2_with fail;refine cA.mono ?_;rintro e dd ⟨rfl,c6,he⟩;clear cA;obtain⟨k,cn⟩:=aa (l.getD p 0);unfold lE at cV;rw[<-cn]at gt cV ⊢;clear cn;obtain⟨ev,h2⟩:=gt;obtain⟨M,fl⟩:=aa (mdR l n (rdP n p));have c1:=sL l n (rdP n p);have ek:=Ip l n (rdP n p);rw[<-fl]at cV c1 ek;have e7:=ID g a n c l (rdP n p) dd he M fl;obtain⟨K,⟨G,P,U,a7⟩,q⟩:=M;have aT:Hid (dOk K):=c1;have b9:Hid (R=mJ l n k (K,(G,P,U,a7),q)):=cV;have bC:g≠Z/\g≠Q:=by have:=cz.out;omega
 have ck:Hid (OnlyB g w dd/\Blk dd 35 Z [.slice none 0 0,.slice none 0 0]/\Blk dd 36 Q (al 0 0 0 0)/\Q<dd.1.size):=⟨b8.out.1.trans c6,b8.out.2.1.only c6 (ED bC.1),b8.out.2.2.only c6 (ED bC.2),wQ cz.out.2.2.1 c6.size⟩;obtain⟨g0,g1⟩:=ek;clear cV fl c6 he c1 b8;simp only at e7 g0 g1;go_wp2_with fail;refine e7.mono ?_;rintro e t ⟨d,rfl,c7,dc,bF⟩;clear e7;have a3:Below t.1.size t ((t.alloc (.cells #[.slice none 0 0,.slice none 0 0] 35)).alloc (.cells #[.int .i64 0,.int .i64 0,.int .i64 0,.int .i64 0] 36)):=(bAl _ _).alloc vo _;have et:Blk ((t.alloc (.cells #[.slice none 0 0,.slice none 0 0] 35)).alloc (.cells #[.int .i64 0,.int .i64 0,.int .i64 0,.int .i64 0] 36)) 35 t.1.size [.slice none 0 0,.slice none 0 0]:=(aq t 35 #[.slice none 0 0,.slice none 0 0]).below (bAl _ _);have eL:Blk ((t.alloc (.cells #[.slice none 0 0,.slice none 0 0] 35)).alloc (.cells #[.int .i64 0,.int .i64 0,.int .i64 0,.int .i64 0] 36)) 36 (t.1.size+1) (al 0 0 0 0):=by
  have:=aq (t.alloc (.cells #[.slice none 0 0,.slice none 0 0] 35)) 36 #[.int .i64 0,.int .i64 0,.int .i64 0,.int .i64 0];rw[World.size_alloc]at this;exact this
 have gi:Hid (OnlyB g t t/\OnlyB g w t/\IsRd t g a n c l q/\ODisk w.1.size t d K/\Blk t 35 Z [.slice none 0 0,.slice none 0 0]/\Blk t 36 Q (al 0 0 0 0)/\Q<t.1.size/\Below t.1.size t ((t.alloc (.cells #[.slice none 0 0,.slice none 0 0] 35)).alloc (.cells #[.int .i64 0,.int .i64 0,.int .i64 0,.int .i64 0] 36))):=⟨Below.onlyB t7 g,ck.out.1.trans c7,dc,bF.mono ck.out.1.size,ck.out.2.1.only c7 (ED bC.1),ck.out.2.2.1.only c7 (ED bC.2),wQ ck.out.2.2.2 c7.size,a3⟩;clear a3 c7 dc bF ck bC;unfold av;go_upto_region 3 with(first
  |(refine DR rfl fun _ s=>bK (k:=t.1.size) (cs:=dkC d K) et rfl (gH _ _) (eH _ _) rfl rfl rfl (fun dl B r=>s _ _ ?_);have eM:=eL.only r uA;have dX:=uv B r;clear B r et)
  |(refine DR rfl fun _ s=>bK (k:=t.1.size+1) (cs:=al G P U a7) eM rfl (fe _ _ _ _) bj rfl rfl rfl (fun ab V D=>s _ _ ?_)))
 obtain⟨B,r⟩:=dX.out;obtain⟨_,cP,dc,bF,eB,eK,g3,a3⟩:=gi.out;have em:=cP.size;have a4:=r.below (vR t.1.size) a3.size;have d1:=D.below (x0 t.1.size) (wg a3.size r.size);have a9:Below t.1.size t ab:=a3.trans (a4.trans d1);have m:Hid (AnV g a n c l w t.1.size (t.1.size+1) Z Q (K,(G,P,U,a7),q) d K ab):=⟨cP.thenB a9 em,dc.below a9,B.only D uA,V,bF.below a9,eB.below a9,eK.below a9,rfl,t6⟩;obtain⟨sb,ej⟩:=aa (t.1.size+1);obtain⟨O,d6⟩:=aa t.1.size;have E:Hid (AnN w g O sb Z Q):=⟨cz.out.1,cz.out.2.1,uA,uA,hw⟩;rw[<-ej]at m ⊢;rw[<-d6]at m ⊢;clear B r cP dc bF eB eK g3 a3 a4 d1 a9 ej d6 em dX gi eL eM V D cz;have cf:k.tmod 4=k%4:=A3 ev;by_cases ce:k%4=3
 case' pos=>
  rw[ce]at cf;have I:Hid (R=fJ K G P U a7 (l.getD q 0) (k/4%8) (rdP n q)):=by show R= _;rw[b9.out,mJ,B4 ce]
  have gA:=gf.out q;have cA:=cZ g a n c l q ab m.out.rdr;have d5:k.tdiv 4=k/4:=z2 ev;have gS:(k/4).tmod 8=k/4%8:=A3 uA;clear b9;go_wp2_with fail;refine cA.mono ?_;rintro e f ⟨rfl,b4,hf⟩;clear cA;generalize l.getD q 0=v at*;obtain⟨v0,v1⟩:=gA;have d4:AnV g a n c l w O sb Z Q (K,(G,P,U,a7),rdP n q) d K f:=⟨m.out.fr.trans b4,hf,m.out.dk.only b4 (by have:=E.out;omega),m.out.su.only b4 (by have:=E.out;omega),m.out.od.low (OnlyS.ofB b4) (fun k cn e=>by omega),m.out.r1.only b4 (by have:=E.out;omega),m.out.r2.only b4 (by have:=E.out;omega),rfl,t6⟩;clear m b4 hf;have m:Hid _:=d4;clear d4;obtain⟨a8,d9⟩:=cO (k/4%8);have hK:0<=a8/\a8<=7:=uA;rw[d9]at gS I;generalize rdP n q=J at*;clear d9;go_upto_if 37 with fail
  go_cut [] (fun dF=> ∃d gj,AnV g a n c l w O sb Z Q R d gj dF)
  case first=>
   rcases(show a8=0\/a8=1\/a8=2\/a8=3\/a8=4\/a8=5\/a8=6\/a8=7 by omega)with rfl|rfl|rfl|rfl|rfl|rfl|rfl|rfl
   ·obtain⟨i,fn⟩:∃i:Nat,v%(K.n:Int)=(i:Int):=⟨(v%(K.n:Int)).toNat,by have:=Int.emod_nonneg v (b:=(K.n:Int)) (by have:=aT.out.1.1;omega);omega⟩;obtain⟨j,fo⟩:∃j:Nat,v%64=(j:Int):=⟨(v%64).toNat,uA⟩;have hT:=aT.out.1.1;have hU:=aT.out.1.2.1;have ad:i<K.n:=by have:=Int.emod_lt_of_pos v (b:=(K.n:Int)) uA;omega
    have gT:j<64:=uA;have hR:v.tmod (K.n:Int)=(i:Int):=by rw[A3 v0,fn]
    have hS:v.tmod 64=(j:Int):=by rw[A3 v0,fo]
    have c0:=aT.out.2.1 i ad;have o:Hid (R=(⟨K.n,upd K.S i ((K.S i).set j (bits .xor .u8 ((K.S i).getD j 0) 1)),K.m,K.At,K.D⟩,(G,P,U,a7),J)):=by show R= _;rw[I.out,fJ,B4 rfl,flK,fn,fo];rfl
    have gr:=bDr f;have z:Hid _:=m.out.below gr;clear m gr fn fo;have cX:=z.out.od.safe.byte i ad j;have dk:=IG cX.1 cX.2;have c2:d.sN i=64:=by have:=(z.out.od.safe.data i ad).len;rw[<-this];exact c0
    have aA:=z.out.od.safe.data i ad;rw[c2]at aA;obtain⟨b,cW⟩:∃b,d.sA i=some ⟨b,0,none⟩:=by
     obtain⟨b,e,_⟩:=mM aA uA;exact⟨b,e⟩
    have N:Hid _:=z.out.flip H.out E.out (b:=b) (i:=i) (j:=j) ad cW dk.1 dk.2 rfl;have bB:=aA.bs (z.out.od.safe.byte i ad);have T:f.drew.cell? ⟨b,j,none⟩=some (.int .u8 ((K.S i).getD j 0)):=by
     obtain⟨hs,fz,cL,_,fm⟩:=bB.at_ uA;rw[cW]at cL;cases cL;have:=fm j gT;rwa [wE]at this
    have i0:f.drew.frozen? ⟨b,j,none⟩=false:=by
     rw[cW]at aA;exact World.ownsRow.frozenAt aA j
    obtain⟨am,aB⟩:∃y,d.sa=some ⟨y,0,none⟩:=by
     obtain⟨y,e,_⟩:=lW z.out.od.safe uA;exact⟨y,e⟩
    have ae:f.drew.cell? ⟨am,i,none⟩=some (.slice (some ⟨b,0,none⟩) 64 (d.sC i)):=by
     obtain⟨hs,fz,cL,_,fm⟩:=z.out.od.reads.safe.at_ uA;rw[aB]at cL;cases cL;have:=(fm i ad).2;rw[cW,c2]at this;simpa using this
    have X:f.drew.cell? ⟨O,0,none⟩=some (.slice (some ⟨am,0,none⟩) K.n d.sc):=by rw[<-aB];exact z.out.dk.cell 0
    clear z cX dk aA bB c2 c0 cW aB;generalize (K.S i).getD j 0=ht at*;have hI:(0:Int)<=(i:Int):=uA;have hJ:(i:Int)< (K.n:Int):=uA;have hL:(0:Int)<=(j:Int):=uA;have hM:(j:Int)<64:=uA;have cg:(K.n:Int)≠0:=uA;have hy:¬K.n=0:=uA;have ea:(K.n:Int)≠ -1:=uA;have hZ:IntKind.i64.wrap (i:Int)=(i:Int):=by simp[IntKind.wrap,IntKind.bits,IntKind.signed];omega
    have h0:IntKind.i64.wrap (j:Int)=(j:Int):=by simp[IntKind.wrap,IntKind.bits,IntKind.signed];omega
    go_wp2_with fail;refine az (fun v=>v.cell? ⟨O,0,none⟩=some (.slice (some ⟨am,0,none⟩) K.n d.sc)/\v.cell? ⟨am,i,none⟩=some (.slice (some ⟨b,0,none⟩) 64 (d.sC i))/\v.cell? ⟨b,j,none⟩=some (.int .u8 ht)) (fun k=>decide (15<=k)) vk ?_;generalize f.drew=h9 at*;refine au 0 ⟨X,ae,T⟩ ?_;refine au 1 ⟨X,ae,T⟩ ?_;refine au 2 ⟨X,ae,T⟩ ?_;refine au 3 ⟨X,ae,T⟩ ?_;refine au 4 ⟨X,ae,T⟩ ?_;refine au 5 ⟨X,ae,T⟩ ?_;refine au 6 ⟨X,ae,T⟩ ?_;refine au 7 ⟨X,ae,T⟩ ?_;refine au 8 ⟨X,ae,T⟩ ?_;refine au 9 ⟨X,ae,T⟩ ?_;refine au 10 ⟨X,ae,T⟩ ?_;refine au 11 ⟨X,ae,T⟩ ?_;refine au 12 ⟨X,ae,T⟩ ?_;refine au 13 ⟨X,ae,T⟩ ?_;refine au 14 ⟨X,ae,T⟩ ?_;refine ah 15 fun an s=> ?_;go_wp2_with fail;refine aU s ?_;clear s an;go_wp2_with fail
    go_meet
    exact⟨d,_,by rw[o.out];exact N.out⟩
   ·obtain⟨L,Y⟩:=cO (v%(U+1));have af:v.tmod (U+1)=L:=by rw[A3 v0,Y]
    have cg:(U+1)≠0:=uA;have ea:(U+1)≠ -1:=uA;have en:0<=L/\L<U+1:=by rw[<-Y];exact⟨Int.emod_nonneg _ cg,Int.emod_lt_of_pos _ uA⟩
    have g2:IntKind.i64.wrap L=L:=by simp[IntKind.wrap,IntKind.bits,IntKind.signed];omega
    have e9:f.cell? ⟨sb,2,none⟩=some (.int .i64 U):=m.out.su.cell 2;have e0:=m.out.su.cell 1;have fd:=m.out.su.free 1;have bR:=m.out.putS H.out E.out (ax f sb 1 (.int .i64 L)) (G,L,U,a7) (m.out.su.set 1 (.int .i64 L));have N:Hid _:=bR;clear bR;have o:Hid (R=(K,(G,L,U,a7),J)):=by show R= _;rw[I.out,fJ,CH uB,B4 rfl,Y]
    clear Y;go_wp2_with fail
    go_meet
    exact⟨d,K,by rw[o.out];exact N.out⟩
   ·obtain⟨L,Y⟩:=cO (v%(U+1));have af:v.tmod (U+1)=L:=by rw[A3 v0,Y]
    have cg:(U+1)≠0:=uA;have ea:(U+1)≠ -1:=uA;have en:0<=L/\L<U+1:=by rw[<-Y];exact⟨Int.emod_nonneg _ cg,Int.emod_lt_of_pos _ uA⟩
    have g2:IntKind.i64.wrap L=L:=by simp[IntKind.wrap,IntKind.bits,IntKind.signed];omega
    have e9:f.cell? ⟨sb,2,none⟩=some (.int .i64 U):=m.out.su.cell 2;have e0:=m.out.su.cell 3;have fd:=m.out.su.free 3;have bR:=m.out.putS H.out E.out (ax f sb 3 (.int .i64 L)) (G,P,U,L) (m.out.su.set 3 (.int .i64 L));have N:Hid _:=bR;clear bR;have o:Hid (R=(K,(G,P,U,L),J)):=by show R= _;rw[I.out,fJ,CH uB,CH uB,B4 rfl,Y]
    clear Y;go_wp2_with fail
    go_meet
    exact⟨d,K,by rw[o.out];exact N.out⟩
   ·obtain⟨L,Y⟩:=cO (U+(v%3-1));have af:v.tmod 3=v%3:=A3 v0;obtain⟨y,cp⟩:=cO (v%3);rw[cp]at af Y;have a5:0<=y/\y<=2:=uA;obtain⟨hF,W⟩:=a5;have e9:f.cell? ⟨sb,2,none⟩=some (.int .i64 U):=m.out.su.cell 2;have e0:=m.out.su.cell 2;have fd:=m.out.su.free 2;have bR:=m.out.putS H.out E.out (ax f sb 2 (.int .i64 L)) (G,P,L,a7) (m.out.su.set 2 (.int .i64 L));have N:Hid _:=bR;clear bR;have o:Hid (R=(K,(G,P,L,a7),J)):=by show R= _;rw[I.out,fJ,CH uB,CH uB,CH uB,B4 rfl,cp,Y]
    clear cp;go_wp2_with fail
    go_meet
    exact⟨d,K,by rw[o.out];exact N.out⟩
   ·have af:v.tmod 3=v%3:=A3 v0;have db:=bAl f (.cells #[.int .i64 0,.int .i64 1000000000000,.int .i64 1000000000001] 3);have aS:=D6 f (.cells #[.int .i64 0,.int .i64 1000000000000,.int .i64 1000000000001] 3);have fM:=DC _ _ 0 _ _ _ aS;have dl:=DC _ _ 1 _ _ _ aS;have ab:=DC _ _ 2 _ _ _ aS;have z:Hid _:=m.out.below db;have e0:=z.out.su.cell 0;have fd:=z.out.su.free 0;clear m db aS;rcases(show v%3=0\/v%3=1\/v%3=2 by omega)with h3|h3|h3
    ·rw[h3]at af;have N:Hid _:=z.out.putS H.out E.out (ax _ sb 0 (.int .i64 0)) (0,P,U,a7) (z.out.su.set 0 (.int .i64 0));have o:Hid (R=(K,(0,P,U,a7),J)):=by show R= _;rw[I.out,fJ,CH uB,CH uB,CH uB,CH uB,B4 rfl,h3];rfl
     go_wp2_with fail
     go_meet
     exact⟨d,K,by rw[o.out];exact N.out⟩
    ·rw[h3]at af;have N:Hid _:=z.out.putS H.out E.out (ax _ sb 0 (.int .i64 1000000000000)) (1000000000000,P,U,a7) (z.out.su.set 0 (.int .i64 1000000000000));have o:Hid (R=(K,(1000000000000,P,U,a7),J)):=by show R= _;rw[I.out,fJ,CH uB,CH uB,CH uB,CH uB,B4 rfl,h3];rfl
     go_wp2_with fail
     go_meet
     exact⟨d,K,by rw[o.out];exact N.out⟩
    ·rw[h3]at af;have N:Hid _:=z.out.putS H.out E.out (ax _ sb 0 (.int .i64 1000000000001)) (1000000000001,P,U,a7) (z.out.su.set 0 (.int .i64 1000000000001));have o:Hid (R=(K,(1000000000001,P,U,a7),J)):=by show R= _;rw[I.out,fJ,CH uB,CH uB,CH uB,CH uB,B4 rfl,h3];rfl
     go_wp2_with fail
     go_meet
     exact⟨d,K,by rw[o.out];exact N.out⟩
   ·have ak:v.tmod 6=v%6:=A3 v0;obtain⟨bS,bl⟩:=aa (f.alloc (.cells #[] 5));have hc:Below f.1.size f bS:=by rw[bl];exact bAl _ _
    have fP:bS.1.size=f.1.size+1:=by rw[bl];simp
    obtain⟨bT,bm⟩:=aa (bS.alloc (.cells #[.int .u8 1,.int .u8 97,.int .u8 0] 5));have b5:Below bS.1.size bS bT:=by rw[bm];exact bAl _ _
    have b7:bT.1.size=f.1.size+1+1:=by rw[bm];simp[fP]
    obtain⟨bW,bn⟩:=aa (bT.alloc (.cells #[.int .u8 1,.int .u8 97,.int .u8 0,.int .u8 1,.int .u8 97,.int .u8 0] 5));have J:Below bT.1.size bT bW:=by rw[bn];exact bAl _ _
    have dp:bW.1.size=f.1.size+1+1+1:=by rw[bn];simp[b7]
    obtain⟨bX,br⟩:=aa (bW.alloc (.cells #[.int .u8 2,.int .u8 0,.int .u8 0,.int .u8 0] 5));have da:Below bW.1.size bW bX:=by rw[br];exact bAl _ _
    have fV:bX.1.size=f.1.size+1+1+1+1:=by rw[br];simp[dp]
    obtain⟨bY,bs⟩:=aa (bX.alloc (.cells #[.int .u8 3,.int .u8 0,.int .u8 0,.int .u8 0,.int .u8 1,.int .u8 98,.int .u8 4,.int .u8 0,.int .u8 0,.int .u8 0] 5));have cq:Below bX.1.size bX bY:=by rw[bs];exact bAl _ _
    have fZ:bY.1.size=f.1.size+1+1+1+1+1:=by rw[bs];simp[fV]
    obtain⟨bZ,bu⟩:=aa (bY.alloc (.cells #[.int .u8 0,.int .u8 0,.int .u8 0,.int .u8 0,.int .u8 2,.int .u8 0,.int .u8 0,.int .u8 0] 5));have b6:Below bY.1.size bY bZ:=by rw[bu];exact bAl _ _
    have f0:bZ.1.size=f.1.size+1+1+1+1+1+1:=by rw[bu];simp[fZ]
    obtain⟨e3,bv⟩:=aa (bZ.alloc (.cells #[.slice (some ⟨f.1.size,0,none⟩) 0 0,.slice (some ⟨f.1.size+1,0,none⟩) 3 3,.slice (some ⟨f.1.size+1+1,0,none⟩) 6 6,.slice (some ⟨f.1.size+1+1+1,0,none⟩) 4 4,.slice (some ⟨f.1.size+1+1+1+1,0,none⟩) 10 10,.slice (some ⟨f.1.size+1+1+1+1+1,0,none⟩) 8 8] 56));have bP:Below bZ.1.size bZ e3:=by rw[bv];exact bAl _ _
    have hG:e3.1.size=f.1.size+1+1+1+1+1+1+1:=by rw[bv];simp[f0]
    have B0:Bs bS (some ⟨f.1.size,0,none⟩) 0 0 []:=by rw[bl];exact iI f [] (fun x hx=>by simp at hx;first|done|omega) uB
    have f7:=((((((B0.below b5).below J).below da).below cq).below b6).below bP);have f2:Bs bT (some ⟨f.1.size+1,0,none⟩) 3 3 [1,97,0]:=by rw[bm,<-fP];exact iI bS [1,97,0] (fun x hx=>by simp at hx;first|done|omega) uB
    have f8:=(((((f2.below J).below da).below cq).below b6).below bP);have f3:Bs bW (some ⟨f.1.size+1+1,0,none⟩) 6 6 [1,97,0,1,97,0]:=by rw[bn,<-b7];exact iI bT [1,97,0,1,97,0] (fun x hx=>by simp at hx;first|done|omega) uB
    have f9:=((((f3.below da).below cq).below b6).below bP);have f4:Bs bX (some ⟨f.1.size+1+1+1,0,none⟩) 4 4 [2,0,0,0]:=by rw[br,<-dp];exact iI bW [2,0,0,0] (fun x hx=>by simp at hx;first|done|omega) uB
    have ga:=(((f4.below cq).below b6).below bP);have f5:Bs bY (some ⟨f.1.size+1+1+1+1,0,none⟩) 10 10 [3,0,0,0,1,98,4,0,0,0]:=by rw[bs,<-fV];exact iI bX [3,0,0,0,1,98,4,0,0,0] (fun x hx=>by simp at hx;first|done|omega) uB
    have gb:=((f5.below b6).below bP);have f6:Bs bZ (some ⟨f.1.size+1+1+1+1+1,0,none⟩) 8 8 [0,0,0,0,2,0,0,0]:=by rw[bu,<-fZ];exact iI bY [0,0,0,0,2,0,0,0] (fun x hx=>by simp at hx;first|done|omega) uB
    have gc:=(f6.below bP);have aS:=D6 bZ (.cells #[.slice (some ⟨f.1.size,0,none⟩) 0 0,.slice (some ⟨f.1.size+1,0,none⟩) 3 3,.slice (some ⟨f.1.size+1+1,0,none⟩) 6 6,.slice (some ⟨f.1.size+1+1+1,0,none⟩) 4 4,.slice (some ⟨f.1.size+1+1+1+1,0,none⟩) 10 10,.slice (some ⟨f.1.size+1+1+1+1+1,0,none⟩) 8 8] 56);rw[<-bv,f0]at aS;have C:Hid _:=(((((((m.out.below hc).below b5).below J).below da).below cq).below b6).below bP);have fM:=DC _ _ 0 _ _ _ aS;have dl:=DC _ _ 1 _ _ _ aS;have ab:=DC _ _ 2 _ _ _ aS;have hi:=DC _ _ 3 _ _ _ aS;have hj:=DC _ _ 4 _ _ _ aS;have hk:=DC _ _ 5 _ _ _ aS;have a0:=uv f7 (vJ f8 (vJ f9 (vJ ga (vJ gb gc))));clear m aS f7 f8 f9 ga gb gc B0 f2 f3 f4 f5 f6 hc b5 J da cq b6 bP;have cR:e3=(((((((f.alloc (.cells #[] 5)).alloc (.cells #[.int .u8 1,.int .u8 97,.int .u8 0] 5)).alloc (.cells #[.int .u8 1,.int .u8 97,.int .u8 0,.int .u8 1,.int .u8 97,.int .u8 0] 5)).alloc (.cells #[.int .u8 2,.int .u8 0,.int .u8 0,.int .u8 0] 5)).alloc (.cells #[.int .u8 3,.int .u8 0,.int .u8 0,.int .u8 0,.int .u8 1,.int .u8 98,.int .u8 4,.int .u8 0,.int .u8 0,.int .u8 0] 5)).alloc (.cells #[.int .u8 0,.int .u8 0,.int .u8 0,.int .u8 0,.int .u8 2,.int .u8 0,.int .u8 0,.int .u8 0] 5)).alloc (.cells #[.slice (some ⟨f.1.size,0,none⟩) 0 0,.slice (some ⟨f.1.size+1,0,none⟩) 3 3,.slice (some ⟨f.1.size+1+1,0,none⟩) 6 6,.slice (some ⟨f.1.size+1+1+1,0,none⟩) 4 4,.slice (some ⟨f.1.size+1+1+1+1,0,none⟩) 10 10,.slice (some ⟨f.1.size+1+1+1+1+1,0,none⟩) 8 8] 56)):=by rw[bv,bu,bs,br,bn,bm,bl]
    clear bv bu bs br bn bm bl fP b7 dp fV fZ f0 hG;have a1:Hid _:=cR;rw[cR]at fM dl ab hi hj hk;clear cR;go_upto_region 18 with fail
    go_cut [9] (fun hC dF=> ∃ds dD,hC= .slice ds (dB v).length dD/\Bs dF ds (dB v).length dD (dB v)/\AnV g a n c l w O sb Z Q (K,(G,P,U,a7),J) d K dF)
    case first=>
     rcases(show v%6=0\/v%6=1\/v%6=2\/v%6=3\/v%6=4\/v%6=5 by omega)with h6|h6|h6|h6|h6|h6
     ·rw[h6]at ak;have A:dB v=[]:=by rw[dB,B4 h6]
      have S:Hid _:=A;clear A;go_wp2_with fail
      go_meet
      rw[S.out,<-a1.out];exact⟨_,_,rfl,a0.out.1,C.out⟩
     ·rw[h6]at ak;have A:dB v=[1,97,0]:=by rw[dB,CH uA,B4 h6]
      have S:Hid _:=A;clear A;go_wp2_with fail
      go_meet
      rw[S.out,<-a1.out];exact⟨_,_,rfl,a0.out.2.1,C.out⟩
     ·rw[h6]at ak;have A:dB v=[1,97,0,1,97,0]:=by rw[dB,CH uA,CH uA,B4 h6]
      have S:Hid _:=A;clear A;go_wp2_with fail
      go_meet
      rw[S.out,<-a1.out];exact⟨_,_,rfl,a0.out.2.2.1,C.out⟩
     ·rw[h6]at ak;have A:dB v=[2,0,0,0]:=by rw[dB,CH uA,CH uA,CH uA,B4 h6]
      have S:Hid _:=A;clear A;go_wp2_with fail
      go_meet
      rw[S.out,<-a1.out];exact⟨_,_,rfl,a0.out.2.2.2.1,C.out⟩
     ·rw[h6]at ak;have A:dB v=[3,0,0,0,1,98,4,0,0,0]:=by rw[dB,CH uA,CH uA,CH uA,CH uA,B4 h6]
      have S:Hid _:=A;clear A;go_wp2_with fail
      go_meet
      rw[S.out,<-a1.out];exact⟨_,_,rfl,a0.out.2.2.2.2.1,C.out⟩
     ·rw[h6]at ak;have A:dB v=[0,0,0,0,2,0,0,0]:=by rw[dB,CH uA,CH uA,CH uA,CH uA,CH uA]
      have S:Hid _:=A;clear A;go_wp2_with fail
      go_meet
      rw[S.out,<-a1.out];exact⟨_,_,rfl,a0.out.2.2.2.2.2,C.out⟩
    case rest=>
    clear a0 C a1 fM dl ab hi hj hk ak;obtain⟨ds,dD,rfl,bB,gw⟩:=hcut;obtain⟨hp,bE⟩:=aa wc;subst bE;have m:Hid _:=gw;clear gw;have hW:v.tdiv 6=v/6:=z2 v0;have gY:(v/6).tmod 3=v/6%3:=A3 uA;have hB:v.tdiv 18=v/18:=z2 v0;have fs:(v/18).tmod 3=v/18%3:=A3 uA;have ap:=ly (2+v/6%3) (2+v/18%3) ds dD (dB v) hp bB (IJ v);have o:Hid (R=(cu K (pwO (2+v/6%3) (2+v/18%3) (dB v)) 4,(G,P,U,a7),J)):=by show R= _;rw[I.out,fJ,CH uB,CH uB,CH uB,CH uB,CH uB,B4 rfl]
    generalize pwO (2+v/6%3) (2+v/18%3) (dB v)=xs at*;obtain⟨W,V⟩:=cO (v/6%3);obtain⟨ac,D⟩:=cO (v/18%3);have a5:(0<=W/\W<=2)/\0<=ac/\ac<=2:=uA;obtain⟨⟨hl,hm⟩,hn,ho⟩:=a5;rw[V]at gY ap;rw[D]at fs ap;generalize (dB v).length=ib at*;clear V D bB;go_wp2_with fail;refine ap.mono ?_;rintro e aX ⟨c8,c9,hb,rfl,b2,a6⟩;clear ap;have ca:Hid _:=m.out.below b2;have kd:=ca.out.dk;have bk:=mH d K c8 c9 xs 4 aX ca.out.od.reads aT.out a6.reads;obtain⟨b0,bd⟩:=aa (cu K xs 4);rw[<-bd]at bk o;clear m b2 a6;unfold av at bk;go_wp2_with (refine B5 rfl 35 _ rfl O rfl 35 (dkC d K).toArray (0,0) _ kd underlying35 rfl (eH _ _) ?_);refine bk.mono ?_;rintro e bg ⟨fc,i2,rfl,cm,eR⟩;clear bk kd;have dS:Hid _:=ca.out.below cm;have g5:=dS.out.dk;have gg:Hid (ODisk w.1.size bg fc b0):=eR.mono ca.out.fr.size;clear eR cm bd;go_wp2_with (refine DR rfl fun _ s=>bK (k:=O) (cs:=dkC fc b0) g5 rfl (gH _ _) (eH _ _) rfl rfl rfl (fun hE B r=>s _ _ ?_);have N:Hid _:=dS.out.putD H.out E.out r B gg.out rfl t6;clear B r)
    go_meet
    exact⟨fc,b0,by rw[o.out];exact N.out⟩
   ·have cf:v.tmod 4=v%4:=A3 v0;have d5:v.tdiv 4=v/4:=z2 v0;have d8:(v/4).tmod 4=v/4%4:=A3 uA;have o:Hid (R=(cu K (sO v) 12,(1,2,5,0),J)):=by show R= _;rw[I.out,fJ,CH uB,CH uB,CH uB,CH uB,CH uB,CH uB,B4 rfl]
    unfold sO at o;obtain⟨W,V⟩:=cO (v%4);obtain⟨ac,D⟩:=cO (v/4%4);have a5:(0<=W/\W<=3)/\0<=ac/\ac<=3:=uA;obtain⟨⟨hl,hm⟩,hn,ho⟩:=a5;rw[V]at cf o;rw[D]at d8 o;clear V D;have hX:IntKind.u8.wrap (97+W)=97+W:=by simp[IntKind.wrap,IntKind.bits,IntKind.signed];omega
    have hY:IntKind.u8.wrap (98+ac)=98+ac:=by simp[IntKind.wrap,IntKind.bits,IntKind.signed];omega
    have db:=bAl f (.cells #[.int .u8 3,.int .u8 0,.int .u8 0,.int .u8 0,.int .u8 1,.int .u8 99,.int .u8 4,.int .u8 0,.int .u8 0,.int .u8 0] 5);have ap:=ly 2 3 (some ⟨f.1.size,0,none⟩) 10 [3,0,0,0,1,99,4,0,0,0] _ (iI f [3,0,0,0,1,99,4,0,0,0] (fun x hx=>by simp at hx;omega) uB) uB;have C:Hid _:=m.out.below db;have hO:=jK 2 3 [3,0,0,0,1,99,4,0,0,0];clear m db I;generalize pwO 2 3 [3,0,0,0,1,99,4,0,0,0]=bf at*;go_wp2_with fail;refine ap.mono ?_;rintro e aX ⟨c8,c9,hb,rfl,b2,a6⟩;clear ap;change Below (f.alloc (.cells #[.int .u8 3,.int .u8 0,.int .u8 0,.int .u8 0,.int .u8 1,.int .u8 99,.int .u8 4,.int .u8 0,.int .u8 0,.int .u8 0] 5)).1.size (f.alloc (.cells #[.int .u8 3,.int .u8 0,.int .u8 0,.int .u8 0,.int .u8 1,.int .u8 99,.int .u8 4,.int .u8 0,.int .u8 0,.int .u8 0] 5)) aX at b2;change OOp (f.alloc (.cells #[.int .u8 3,.int .u8 0,.int .u8 0,.int .u8 0,.int .u8 1,.int .u8 99,.int .u8 4,.int .u8 0,.int .u8 0,.int .u8 0] 5)).1.size aX c8 c9 bf at a6;generalize f.alloc (.cells #[.int .u8 3,.int .u8 0,.int .u8 0,.int .u8 0,.int .u8 1,.int .u8 99,.int .u8 4,.int .u8 0,.int .u8 0,.int .u8 0] 5)=ag at*;have cv:Hid _:=a6.lt;have dE:=bAl aX (.cells #[.int .u8 1,.int .u8 (97+W),.int .u8 0] 5);have ap:=ly 3 2 (some ⟨aX.1.size,0,none⟩) 3 [1,97+W,0] _ (iI aX [1,97+W,0] (fun x hx=>by simp at hx;omega) (by show 3<=1000;decide)) (by show 3<=1048576;decide);have cr:Hid (Below ag.1.size ag (aX.alloc (.cells #[.int .u8 1,.int .u8 (97+W),.int .u8 0] 5))/\OOp ag.1.size (aX.alloc (.cells #[.int .u8 1,.int .u8 (97+W),.int .u8 0] 5)) c8 c9 bf/\aX.1.size<=(aX.alloc (.cells #[.int .u8 1,.int .u8 (97+W),.int .u8 0] 5)).1.size):=⟨b2.trans (dE.mono b2.size),a6.below dE,dE.size⟩;have hP:=jK 3 2 [1,97+W,0];generalize pwO 3 2 [1,97+W,0]=cj at*;clear b2 a6 dE;go_wp2_with fail;refine ap.mono ?_;rintro e bg ⟨g9,ha,h7,rfl,cm,eV⟩;clear ap;have fB:=bAl bg (.cells #[.int .u8 1,.int .u8 (98+ac),.int .u8 1,.int .u8 120] 5);have ap:=ly 4 2 (some ⟨bg.1.size,0,none⟩) 4 [1,98+ac,1,120] _ (iI bg [1,98+ac,1,120] (fun x hx=>by simp at hx;omega) (by show 4<=1000;decide)) (by show 4<=1048576;decide);have a4:=cm.trans (fB.mono cm.size);have cl:Hid (Below ag.1.size ag (bg.alloc (.cells #[.int .u8 1,.int .u8 (98+ac),.int .u8 1,.int .u8 120] 5))/\OOp ag.1.size (bg.alloc (.cells #[.int .u8 1,.int .u8 (98+ac),.int .u8 1,.int .u8 120] 5)) c8 c9 bf/\ROp (bg.alloc (.cells #[.int .u8 1,.int .u8 (98+ac),.int .u8 1,.int .u8 120] 5)) g9 ha cj/\aX.1.size<=(bg.alloc (.cells #[.int .u8 1,.int .u8 (98+ac),.int .u8 1,.int .u8 120] 5)).1.size):=⟨cr.out.1.trans (a4.mono cr.out.1.size),cr.out.2.1.below a4,(eV.below fB).reads,wg cr.out.2.2 a4.size⟩;have hQ:=jK 4 2 [1,98+ac,1,120];generalize pwO 4 2 [1,98+ac,1,120]=e2 at*;clear cm eV fB cr a4;go_wp2_with fail;refine ap.mono ?_;rintro e fD ⟨h4,h5,h8,rfl,e8,eW⟩;clear ap;have bc:=bDr fD;have cb:=e8.trans (bc.mono e8.size);have dr:Below ag.1.size ag fD.drew:=cl.out.1.trans (cb.mono cl.out.1.size);have cS:=cl.out.2.1.below cb;have d2:=cl.out.2.2.1.below cb;have d3:=eW.below bc;have g4:=cl.out.2.2.2;clear e8 eW bc cb cl cf d5 d8;go_wp2_with fail;refine l7 (fun u=>(Instr.loadAt 35 (.pointer (some ⟨O,0,none⟩))).run prog u= .ok (.agg (dkC d K).toArray) u) 6 vk ?_;generalize fD.drew=i4 at*;have bb:=aL (C.out.dk.below dr);refine l8 0 (.agg (dkC d K).toArray) bb ?hza0 ?_
    case hza0=>exact fun u bx=>bo (p:= .pointer (some ⟨O,0,none⟩)) rfl rfl bx
    refine cK 1 ?_;refine cK 2 ?_;refine cK 4 ?_;refine eO 3 fun an s=> ?_;refine jc (so:= .tmp 146) (xo:= .tmp 147) cS d2 uA dr.size rfl rfl rfl ?_;intro ia ic hD g7 gs gm;have cc:Below ag.1.size ag hD:=dr.trans gm;have cT:=d3.grown cS gs (fun k cn=>wQ (cv.out k cn) g4);refine s.out _ _ (fun _=>aL (C.out.dk.below cc)) ?_;clear s an bb cS d2 d3 gs gm dr;refine eO 5 fun an s=> ?_;refine jc (so:= .tmp 148) (xo:= .tmp 149) (xs:=bf++cj) g7 cT.reads (by rw[wb];omega) cc.size rfl (by rw[wb];rfl) rfl ?_;intro hr T hg g8 hu gn;have ba:Below ag.1.size ag hg:=cc.trans gn;refine s.out _ _ (fun _=>aL (C.out.dk.below ba)) ?_;clear s an g7 cT hu gn cc;have bk:=mH d K hr T ((bf++cj)++e2) 12 hg ((C.out.od.below ba).reads) aT.out g8.reads;obtain⟨b0,bd⟩:=aa (cu K ((bf++cj)++e2) 12);rw[<-bd,wb,wb]at bk;rw[<-bd]at o;refine eO 6 fun an s=> ?_;go_wp2_with fail;refine bk.mono ?_;rintro e hh ⟨fa,cnt,rfl,gp,eU⟩;have cD:Below ag.1.size ag hh:=ba.trans (gp.mono ba.size);have eq:=C.out.dk.below cD;have dI:Hid (ODisk w.1.size hh fa b0):=eU.mono (wg C.out.fr.size ba.size);have dW:Hid _:=C.out.below cD;clear bk g8 gp eU ba cD bd cv;unfold av;go_wp2_with fail;refine goR s ?_;clear s an;refine cK 7 ?_;refine cK 8 ?_;refine cK 9 ?_;refine eO 10 fun an s=> ?_;refine bK (k:=O) (cs:=dkC fa b0) eq rfl (gH _ _) (eH _ _) rfl rfl rfl (fun hE B r=> ?_);refine goR s ?_;clear s an;refine l9 ?_;have dV:Hid _:=dW.out.putD H.out E.out r B dI.out rfl t6;clear B r eq dW dI C;have g6:=dV.out.su;have hH:=IK;go_wp2_with (refine DR rfl fun _ s=>bK (k:=sb) (cs:=al 1 2 5 0) g6 rfl (fe _ _ _ _) bj rfl rfl rfl (fun i5 B r=>s _ _ ?_);have N:Hid _:=dV.out.putS H.out E.out r (1,2,5,0) B;clear B r)
    go_meet
    exact⟨fa,b0,by rw[o.out];exact N.out⟩
   ·have ak:v.tmod 6=v%6:=A3 v0;obtain⟨y,cp⟩:=cO (v%6);have o:Hid (R=(trK K (4*(U-1)+v%6),(G,P,U,a7),J)):=by show R= _;rw[I.out,fJ,CH uB,CH uB,CH uB,CH uB,CH uB,CH uB,CH uB]
    have a5:0<=y/\y<=5:=uA;obtain⟨hF,W⟩:=a5;rw[cp]at ak o;clear cp I;obtain⟨L,Y⟩:∃L:Nat,4*(U-1)+y=(L:Int):=⟨(4*(U-1)+y).toNat,uA⟩;rw[Y]at o;have en:L<=5000:=uA;have e9:f.cell? ⟨sb,2,none⟩=some (.int .i64 U):=m.out.su.cell 2;obtain⟨am,aB⟩:∃y,d.sa=some ⟨y,0,none⟩:=by
     obtain⟨y,e,_⟩:=lW m.out.od.safe (by have:=aT.out.1.1;omega);exact⟨y,e⟩
    have X:f.cell? ⟨O,0,none⟩=some (.slice (some ⟨am,0,none⟩) K.n d.sc):=by rw[<-aB];exact m.out.dk.cell 0
    have i1:=m.out.dk.free 0;have hv:=m.out.od.reads.safe.le;have gB:=m.out.od.reads.safe.le';unfold maxLen at gB;have hN:=aT.out.1.2.1;go_upto_region 28 with fail
    by_cases ad:(L:Int)< (K.n:Int)
    ·have s:trK K (L:Int)=lG K L:=by rw[trK,B4 ad];rfl
     have d7:(dkC d K).set 0 (.slice (some ⟨am,0,none⟩) L d.sc)=dkC d (lG K L):=by rw[<-aB];rfl
     have N:Hid (AnV g a n c l w O sb Z Q (lG K L,(G,P,U,a7),J) d K (f.setCell ⟨O,0,none⟩ (.slice (some ⟨am,0,none⟩) L d.sc))):=m.out.putD H.out E.out (ax f O 0 (.slice (some ⟨am,0,none⟩) L d.sc)) (by rw[<-d7];exact m.out.dk.set 0 _) m.out.od rfl (by show L<=K.n;omega);have e6:Hid _:=s;have h1:L<=d.sc:=uA;clear s d7 Y;go_wp2_with fail
     go_meet
     exact⟨d,K,by rw[o.out,e6.out];exact N.out⟩
    ·have e6:Hid (trK K (L:Int)=K):=by show trK K (L:Int)=K;rw[trK,CH ad]
     clear Y;go_wp2_with fail
     go_meet
     exact⟨d,K,by rw[o.out,e6.out];exact m.out⟩
  case' rest=>
   clear m I;obtain⟨d,gj,gv⟩:=hcut;obtain⟨dq,bE⟩:=aa wc;subst bE;have e5:Hid _:=gv;clear gv
 case' neg=>
  have hV:(k%4 !=3)=true:=by simp[ce]
  have dP:Hid (R=(K,(G,P,U,a7),q)):=by show R= _;rw[b9.out,mJ,CH ce]
  obtain⟨dq,bE⟩:=aa ab;subst bE;have e5:Hid (AnV g a n c l w O sb Z Q R d K dq):=by rw[dP.out];exact m.out
  clear m b9 dP
 all_goals
  go_wp2_with fail;have bc:=bDr dq;have F:Hid _:=e5.out.below bc;clear e5 bc;refine az (fun u=>(Instr.loadAt 35 (.pointer (some ⟨O,0,none⟩))).run prog u= .ok (.agg (dkC d R.1).toArray) u/\(Instr.loadAt 36 (.pointer (some ⟨sb,0,none⟩))).run prog u= .ok (.agg (al R.2.1.1 R.2.1.2.1 R.2.1.2.2.1 R.2.1.2.2.2).toArray) u) (fun _=>false) vk ?_;generalize dq.drew=hq at*;have bb:=vJ (aL F.out.dk) (aN F.out.su);refine aM 0 (.agg (dkC d R.1).toArray) bb ?ha0 ?_
  case ha0=>exact fun u bx=>bo (p:= .pointer (some ⟨O,0,none⟩)) rfl rfl bx.1
  refine aM 1 (.agg (al R.2.1.1 R.2.1.2.1 R.2.1.2.2.1 R.2.1.2.2.2).toArray) bb ?ha1 ?_
  case ha1=>exact fun u bx=>bo (p:= .pointer (some ⟨sb,0,none⟩)) rfl rfl bx.2
  have b3:=F.out.r1;refine ah 2 fun an s=> ?_;refine bK (k:=Z) (cs:=dkC d R.1) b3 rfl (gH _ _) (eH _ _) rfl rfl rfl (fun dl B r=> ?_);have c4:=F.out.dk.only r (by have:=E.out;omega);have c5:=F.out.su.only r (by have:=E.out;omega);have c3:=F.out.r2.only r (by have:=E.out;omega);have eN:=yX F.out.od r b3;refine ao s ?_ (fun _=>⟨aL c4,aN c5⟩);clear s an bb;refine ah 3 fun an s=> ?_;refine bK (k:=Q) (cs:=al R.2.1.1 R.2.1.2.1 R.2.1.2.2.1 R.2.1.2.2.2) c3 rfl (fe _ _ _ _) bj rfl rfl rfl (fun ab V D=> ?_);have es:=c4.only D (by have:=E.out;omega);have eC:=c5.only D (by have:=E.out;omega);have ex:=B.only D (by have:=E.out;omega);have cB:Below w.1.size hq ab:=(r.below E.out.1 F.out.fr.size).trans (D.below (by have:=E.out;omega) (wg F.out.fr.size r.size));have cM:=F.out.fr.thenB cB t6;have hcut:=F.out.cut;have e1:Firm w.1.size ab d R.1:=fun i3 hz=>by
   have:=((sZ eN D c3).low hz (fun k cn e=>by omega)).reads.cut F.out.le;rw[<-hcut]at this;exact this
  have e4:Hid (Blk ab 35 Z (dkC d R.1)/\Blk ab 36 Q (al R.2.1.1 R.2.1.2.1 R.2.1.2.2.1 R.2.1.2.2.2)/\OnlyB g w ab/\IsRd ab g a n c l R.2.2/\Firm w.1.size ab d R.1):=⟨ex,V,cM,H.out.only cM (by rw[cB.block g E.out.2.2.2.2];exact F.out.rdr.box) F.out.rdr.at_,e1⟩;refine aU s ?_ (fun _=>⟨aL es,aN eC⟩);clear s an c4 c5 c3 es eC ex cB cM B r V D b3 F eN hcut e1;go_wp2_with fail;refine B3 (v:= .tuple #[.agg (dkC d R.1).toArray,.agg (al R.2.1.1 R.2.1.2.1 R.2.1.2.2.1 R.2.1.2.2.2).toArray]) ?_ rfl ?_
  ·exact yV results55 _ _ Z Q 35 36 (dkC d R.1).toArray (al R.2.1.1 R.2.1.2.1 R.2.1.2.2.1 R.2.1.2.2.2).toArray _ _ rfl e4.out.1 underlying35 rfl (eH _ _) rfl e4.out.2.1 underlying36 rfl bj
  ·exact⟨d,rfl,e4.out.2.2⟩
