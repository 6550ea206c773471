import Derived.Test.YtglbanolhhjjiaaGreatDoorFo6
import Derived.Test.YtglbanolhhjjiaaGreatDoorFo9
namespace Go.Proofs.YtglbanolhhjjiaaGreatDoor
open Go.Proofs.Tryz
open Go.RowKit
set_option linter.unusedVariables false
set_option maxRecDepth 100000
set_option maxHeartbeats 32000000
theorem CI(b id a n c l w)(h:Bs w a n c l)(f:n≠256)(i:w.cell? ⟨0,0,none⟩=some (errV b)):
 Calls prog 153 #[.int .i64 id,.slice a n c] w fun e w'=>Below w.1.size w w'/\e= .returned (.tuple #[.int .i64 0,.slice none 0 0,errV b]):=by
 have d:=wg h.le h.le';unfold maxLen at d;have g:((n:Int) !=256)=true:=by simp;omega
 clear h f;go_enter func153,ntmps153;go_wp2_with fail
 go_quiet (fail)
 go_wp2;refine B3 (v:= .tuple #[.int .i64 0,.slice none 0 0,errV b]) (by simp[results,results153,go_sem]) rfl ⟨D1 t7 _,rfl⟩
theorem CJ(z id b o f l w)(h:Bs w (some ⟨b,o,none⟩) 256 f l)(a5:w.cell? ⟨0,0,none⟩=some (errV z)):
 Calls prog 153 #[.int .i64 id,.slice (some ⟨b,o,none⟩) 256 f] w fun e w'=>Below w.1.size w w'/\((cC id l/\∃a c,e= .returned (.tuple #[.int .i64 (kd l),.slice a (aY l).length c,.nilIface])/\Own w.1.size w' a (aY l).length c (aY l))\/(¬cC id l/\e= .returned (.tuple #[.int .i64 0,.slice none 0 0,errV z]))):=by
 have bC:256<=f:=h.le;have bm:f<=maxLen:=h.le';have a9:=h.len_eq;have I:Hid _:=A9 (id:=id) h.byte;have ba:=qq h.byte;obtain⟨N,ap⟩:=x2 ba;have aX:Hid (sz l=(N:Int)):=ap;have a7:0<w.1.size:=World.block_lt_of_cell? w ⟨0,0,none⟩ a5;have bv:Hid (Bs w (some ⟨b,o+4,none⟩) 252 (f-4) (l.drop 4)):=by
  have:=h.piece 4 252 uA (f-4) uA uA;rw[w5 (by rw[wi];omega)]at this;exact this
 have a0:Hid (Bs w (some ⟨b,o+4,none⟩) 12 (f-4) (aJ l 4 12)):=h.piece 4 12 uA (f-4) uA uA;have af:Hid (N<=240->Bs w (some ⟨b,o+16,none⟩) N (f-16) (aY l)):=fun G=>by
  have:=h.piece 16 N uA (f-16) uA uA;have e:aY l=(l.drop 16).take N:=by unfold aY aJ;rw[aX.out];simp
  rw[e];exact this
 have PZ:Hid (N<=240->Bs w (some ⟨b,o+(16+N),none⟩) (256-(16+N)) (f-(16+N)) (l.drop (16+N))):=fun G=>by
  have:=h.piece (16+N) (256-(16+N)) uA (f-(16+N)) uA uA;rw[w5 (by rw[wi];omega)]at this;exact this
 have B:Hid (nD id l↔low (aJ l 4 4)=id/\bL id (kd l) (N:Int)=true/\low (aJ l 0 4)=(crc (l.drop 4):Int)/\ed id (kd l) (N:Int)=aJ l 4 12/\iP (l.drop (16+N))=true):=by
  show nD id l↔_;unfold nD;rw[aX.out];simp only[Int.toNat_natCast];exact⟨fun h=>h.2,fun h=>⟨a9,h⟩⟩
 have aB:=A8 b o f l w h;rw[show l.getD 8 0=kd l from rfl,show low (aJ l 10 2)=(N:Int)from ap]at aB;have aS:Hid _:=fun a n c v bB G=>zt a n c (l.drop 4) v bB G;have bW:Hid _:=h;generalize low (aJ l 4 4)=j at*;generalize low (aJ l 0 4)=u at*;generalize crc (l.drop 4)=am at*;generalize kd l=r at*;have bx:Hid (Calls prog 172 #[.slice (some ⟨b,o,none⟩) 256 f] w fun e w'=>e= .returned (.agg #[.int .i64 j,.int .i64 r,.int .i64 (N:Int),.int .i64 u])/\Below w.1.size w w'):=aB;clear aB ap ba h;go_enter func153,ntmps153;go_wp2_with fail;refine CC bx.out ?_;rintro e w1 ⟨rfl,U⟩;have bg:=(B2 w1.1.size w1).alloc t6 (.cells #[.int .i64 j,.int .i64 r,.int .i64 (N:Int),.int .i64 u] 272);have F:=U.trans (bg.mono U.size);have bF:=D6 w1 (.cells #[.int .i64 j,.int .i64 r,.int .i64 (N:Int),.int .i64 u] 272);have ce:(w1.alloc (.cells #[.int .i64 j,.int .i64 r,.int .i64 (N:Int),.int .i64 u] 272)).1.size=w1.1.size+1:=by simp
 have cf:=U.size;clear bg U;go_wp2_with fail;generalize a6:w1.alloc (.cells #[.int .i64 j,.int .i64 r,.int .i64 (N:Int),.int .i64 u] 272)=L at*;clear a6;have y:Hid (∀v,Below L.1.size L v->v.cell? ⟨w1.1.size,0,none⟩=some (.int .i64 j)/\v.cell? ⟨w1.1.size,1,none⟩=some (.int .i64 r)/\v.cell? ⟨w1.1.size,2,none⟩=some (.int .i64 (N:Int))/\v.cell? ⟨w1.1.size,3,none⟩=some (.int .i64 u)/\v.cell? ⟨0,0,none⟩=some (errV z)):=fun v O=>by
  have ac:=(O.block w1.1.size uA).trans bF;exact⟨DC _ _ 0 _ _ _ ac,DC _ _ 1 _ _ _ ac,DC _ _ 2 _ _ _ ac,DC _ _ 3 _ _ _ ac,by
   rw[O.cell (p:=⟨0,0,none⟩) (by show 0<_;omega),F.cell (p:=⟨0,0,none⟩) a7];exact a5⟩
 obtain⟨k0,bZ,b0,b1,b2⟩:=y.out L t7;by_cases hA:j=id
 case neg=>
  have hx:(j !=id)=true:=by simp[hA]
  have k:¬cC id l:=fun D=>hA (B.out.1 (I.out.1 D)).1;have bn:Hid _:=F;have s:Hid _:=k;clear k hA
  go_quiet (fail)
  go_wp2_with fail
  go_quiet (fail)
  go_wp2;refine B3 (v:= .tuple #[.int .i64 0,.slice none 0 0,errV z]) (by simp[results,results153,go_sem]) rfl ?_;exact⟨D1 (D1 bn.out _) _,v6 ⟨s.out,rfl⟩⟩
 subst hA;have hx:(j !=j)=false:=by simp
 have cc:¬f=4:=uA;have bS:¬f=16:=uA;have cb:(4:Int)<=(f:Int):=uA;have bR:(16:Int)<=(f:Int):=uA;cases t:bL j r (N:Int)with
 |false=>
  have k:¬cC j l:=fun D=>by have:=(B.out.1 (I.out.1 D)).2.1;rw[t]at this;cases this
  have s:Hid _:=k;have J:Hid _:=t;clear k t;refine az (fun v=>v.cell? ⟨w1.1.size,0,none⟩=some (.int .i64 j)/\v.cell? ⟨w1.1.size,1,none⟩=some (.int .i64 r)/\v.cell? ⟨w1.1.size,2,none⟩=some (.int .i64 (N:Int))/\v.cell? ⟨w1.1.size,3,none⟩=some (.int .i64 u)/\v.cell? ⟨0,0,none⟩=some (errV z)) (fun _=>false) vk ?_;have d:=y.out L.drew t7.drew;refine ai 0 d ?_;refine ai 1 d ?_;refine ai 2 d ?_;refine ai 3 d ?_;refine ai 4 d ?_;refine ai 5 d ?_;refine ai 6 d ?_;refine ai 7 d ?_;refine ah 8 fun x q=> ?_;go_wp2_with fail;refine(zn j r (N:Int) _ J.out).mono ?_;rintro e wf ⟨rfl,m⟩;simp only[EB]at m;replace m:=kh m;go_wp2_with fail;refine q.out _ _ (fun _=>y.out wf m) ?_;clear q x;have g:=y.out wf m;refine ai 9 g ?_;refine ai 10 g ?_;refine ai 11 g ?_;refine aE 12 g ?_;refine aE 13 g ?_;refine aE 14 g ?_;refine aE 15 g ?_;refine aE 16 g ?_;refine aE 17 g ?_;refine ai 18 g ?_;refine bi ?_;obtain⟨W,X,Y,Z,ab⟩:=g;have H:Hid _:=F.trans (m.mono F.size);clear m d;go_wp2_with fail
  go_quiet (fail)
  go_wp2;refine B3 (v:= .tuple #[.int .i64 0,.slice none 0 0,errV z]) (by simp[results,results153,go_sem]) rfl ?_;exact⟨D1 H.out _,v6 ⟨s.out,rfl⟩⟩
 |true=>
  have G:N<=240:=by have:=ja t;omega
  have J:Hid _:=t;clear t;refine az (fun v=>v.cell? ⟨w1.1.size,0,none⟩=some (.int .i64 j)/\v.cell? ⟨w1.1.size,1,none⟩=some (.int .i64 r)/\v.cell? ⟨w1.1.size,2,none⟩=some (.int .i64 (N:Int))/\v.cell? ⟨w1.1.size,3,none⟩=some (.int .i64 u)/\v.cell? ⟨0,0,none⟩=some (errV z)) (fun _=>false) vk ?_;have d:=y.out L.drew t7.drew;refine ai 0 d ?_;refine ai 1 d ?_;refine ai 2 d ?_;refine ai 3 d ?_;refine ai 4 d ?_;refine ai 5 d ?_;refine ai 6 d ?_;refine ai 7 d ?_;refine ah 8 fun x q=> ?_;go_wp2_with fail;refine(zm j r (N:Int) _ J.out).mono ?_;rintro e wf ⟨rfl,m⟩;simp only[EB]at m;replace m:=kh m;go_wp2_with fail;refine q.out _ _ (fun _=>y.out wf m) ?_;clear q x;have g:=y.out wf m;have a4:=F.trans (m.mono F.size);refine ai 9 g ?_;refine ai 10 g ?_;refine ai 11 g ?_;refine ai 12 g ?_;refine ai 13 g ?_;refine ai 14 g ?_;refine ai 15 g ?_;refine ah 16 fun x q=> ?_;go_wp2_with fail;refine(aS.out _ _ _ _ (bv.out.below a4) uA).mono ?_;rintro e w' ⟨rfl,rfl⟩;go_wp2_with fail;refine ao q ?_;clear q x;refine ai 17 g ?_;refine ai 18 g ?_;refine bi ?_;obtain⟨bE,bb⟩:=aa w';subst bb;obtain⟨W,X,Y,Z,ab⟩:=g;by_cases P:u=(am:Int)
  case neg=>
   have k:¬cC j l:=fun D=>P (B.out.1 (I.out.1 D)).2.2.1;have s:Hid _:=k;have bc:(u !=(am:Int))=true:=by simp[P]
   have H:Hid _:=a4;clear k P d;go_wp2_with fail
   go_quiet (fail)
   go_wp2;refine B3 (v:= .tuple #[.int .i64 0,.slice none 0 0,errV z]) (by simp[results,results153,go_sem]) rfl ?_;exact⟨D1 H.out _,v6 ⟨s.out,rfl⟩⟩
  have bc:(u !=(am:Int))=false:=by simp[P]
  obtain⟨M,an⟩:=aa (16+N);have bP:IntKind.i64.wrap (16+(N:Int))=(M:Int):=by simp[IntKind.wrap,IntKind.bits,IntKind.signed];omega
  have b8:(16:Int)<=(M:Int):=uA;have b9:(M:Int)<=256:=uA;have ca:(M:Int)<=(f:Int):=uA;have b7:(0:Int)<=(M:Int):=uA;have a1:Hid (f=M->∀v,Below w.1.size w v->Bs v (some ⟨b,o,none⟩) (256-M) 0 (l.drop (16+N))):=fun R v O=>by
   have a8:l.drop (16+N)=[]:=by rw[zW];omega
   rw[a8,show 256-M=0 by omega];exact⟨rfl,t6,wa _,fun e=>(by cases e),fun h=>absurd h (Nat.lt_irrefl 0),eX⟩
  have a2:Hid (∀v,Below w.1.size w v->Bs v (some ⟨b,o+M,none⟩) (256-M) (f-M) (l.drop (16+N))):=fun v O=>by
   have bd:=(PZ.out G).below O;rw[<-an]at bd ⊢;exact bd
  have ad:Hid (M=16+N):=an;clear d an;go_wp2_with fail;refine az (fun v=>v.cell? ⟨w1.1.size,0,none⟩=some (.int .i64 j)/\v.cell? ⟨w1.1.size,1,none⟩=some (.int .i64 r)/\v.cell? ⟨w1.1.size,2,none⟩=some (.int .i64 (N:Int))/\v.cell? ⟨w1.1.size,3,none⟩=some (.int .i64 u)/\v.cell? ⟨0,0,none⟩=some (errV z)) (fun _=>false) vk ?_;have d:=y.out bE.drew m.drew;refine ai 0 d ?_;refine ai 1 d ?_;refine ai 3 d ?_;refine ai 4 d ?_;refine ah 2 fun x q=> ?_;go_wp2_with fail;refine(zo j r (N:Int) _ J.out uA).mono ?_;rintro e bl ⟨bX,bY,rfl,E,T⟩;simp only[EB]at E T;replace E:=kh E;go_wp2_with fail;refine q.out _ _ (fun _=>y.out bl (m.trans (E.mono m.size))) ?_;clear q x;have C:=m.trans (E.mono m.size);have i:=y.out bl C;have A:=F.trans (C.mono F.size);refine ah 5 fun x q=> ?_;go_wp2_with fail;refine(A7 _ _ _ _ _ _ (ed j r (N:Int)) (aJ l 4 12) _ (T.bs (tA J.out)) (a0.out.below A) uA uA).mono ?_;rintro e bT ⟨rfl,rfl⟩;go_wp2_with fail;refine ao q ?_;clear q x;by_cases Q:ed j r (N:Int)=aJ l 4 12
  case neg=>
   rw[CP Q];have k:¬cC j l:=fun D=>Q (B.out.1 (I.out.1 D)).2.2.2.1;have s:Hid _:=k;have H:Hid _:=A;clear k Q;refine ai 6 i ?_;refine ai 7 i ?_;refine aE 8 i ?_;refine aE 9 i ?_;refine aE 10 i ?_;refine aE 11 i ?_;refine aE 12 i ?_;refine ai 13 i ?_;refine bi ?_;obtain⟨W,X,Y,Z,ab⟩:=i;clear E T C d;go_wp2_with fail
   go_quiet (fail)
   go_wp2;refine B3 (v:= .tuple #[.int .i64 0,.slice none 0 0,errV z]) (by simp[results,results153,go_sem]) rfl ?_;exact⟨D1 H.out _,v6 ⟨s.out,rfl⟩⟩
  rw[CR Q];refine ai 6 i ?_;refine ai 7 i ?_;refine ai 8 i ?_;refine ai 9 i ?_;refine ai 10 i ?_;refine ah 11 fun x q=> ?_;go_wp2_with fail
  rotate_left
  all_goals
   first
   |(have R:f=M:=(by assumption);refine(tZ (some ⟨b,o,none⟩) (256-M) 0 (l.drop (16+N)) _ (a1.out R _ A)).mono ?_)
   |(have R:¬f=M:=(by assumption);refine(tZ (some ⟨b,o+M,none⟩) (256-M) (f-M) (l.drop (16+N)) _ (a2.out _ A)).mono ?_)
   rintro e ae ⟨rfl,rfl⟩;go_wp2_with fail;refine ao q ?_;clear q x;cases V:iP (l.drop (16+N))with
   |false=>
    have k:¬cC j l:=fun D=>by have:=(B.out.1 (I.out.1 D)).2.2.2.2;rw[V]at this;cases this
    have s:Hid _:=k;have H:Hid _:=A;clear k V;refine ai 12 i ?_;refine ai 13 i ?_;refine bi ?_;obtain⟨W,X,Y,Z,ab⟩:=i;clear E T C d;go_wp2_with fail
    go_quiet (fail)
    go_wp2;refine B3 (v:= .tuple #[.int .i64 0,.slice none 0 0,errV z]) (by simp[results,results153,go_sem]) rfl ?_;exact⟨D1 H.out _,v6 ⟨s.out,rfl⟩⟩
   |true=>
    have S:cC j l:=I.out.2 (B.out.2 (by refine⟨?_,J.out,P,Q,V⟩;trivial));have bs:Hid _:=S;clear S V;refine ai 12 i ?_;refine ai 13 i ?_;refine bi ?_;obtain⟨W,X,Y,Z,ab⟩:=i;have aT:Hid ((aY l).length=N):=(af.out G).len_eq;clear E T d;go_wp2_with fail;go_region_with (first|(go_at_call 83;(try rw[show M-16=N from by have bA:=ad.out;omega]);refine(pF _ _ _ (aY l) _ ?_ ?_).mono ?_;(first|exact(af.out G).below A.drew|(have bf:=(af.out G).below A.drew;rw[show f-16=N from by have bA:=ad.out;omega]at bf;exact bf));omega;rintro e bk ⟨ag,ak,rfl,K,aA⟩;simp only[EB]at K aA;replace K:=kh K;have a3:=A.trans (K.mono A.size);obtain⟨b3,b4,b5,b6,n4⟩:=y.out bk (C.trans (K.mono C.size))))
    all_goals
     have br:Hid _:=a3;have bu:Hid (Own ae.1.size bk ag N ak (aY l)):=aA;have bz:Hid (w.1.size<=ae.1.size):=A.size;clear a3 aA K;go_wp2;refine B3 (v:= .tuple #[.int .i64 r,.slice ag N ak,.nilIface]) (by simp[results,results153,go_sem]) rfl ?_;refine⟨br.out,v7 ⟨bs.out,ag,ak,?_,?_⟩⟩
     ·rw[aT.out]
     ·rw[aT.out];exact bu.out.mono bz.out
