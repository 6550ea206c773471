import Derived.Test.YtglbanolhhjjiaaGreatDoorFo6
import Derived.Test.YtglbanolhhjjiaaGreatDoorFo9
namespace Go.Proofs.YtglbanolhhjjiaaGreatDoor
open Go.Proofs.Tryz
open Go.RowKit
set_option linter.unusedVariables false
set_option maxRecDepth 100000
set_option maxHeartbeats 32000000
theorem CI(b id a n c l w)(h:Bs w a n c l)(f:n≠256)(i:w.cell? ⟨0,0,none⟩=some (errV b)):
 Calls prog 153 #[.int .i64 id,.slice a n c] w fun e w'=>Below w.1.size w w'/\e= .returned (.tuple #[.int .i64 0,.slice none 0 0,errV b]):=by
 have d:=wa h.le h.le';unfold maxLen at d;have g:((n:Int) !=256)=true:=by simp;omega
 clear h f;go_enter func153,ntmps153;go_wp2_with fail
 go_quiet (fail)
 go_wp2;refine B1 (v:= .tuple #[.int .i64 0,.slice none 0 0,errV b]) (by simp[results,results153,go_sem]) rfl ⟨DX t2 _,rfl⟩
theorem CJ(z id b o f l w)(h:Bs w (some ⟨b,o,none⟩) 256 f l)(a6:w.cell? ⟨0,0,none⟩=some (errV z)):
 Calls prog 153 #[.int .i64 id,.slice (some ⟨b,o,none⟩) 256 f] w fun e w'=>Below w.1.size w w'/\((cC id l/\∃a c,e= .returned (.tuple #[.int .i64 (kd l),.slice a (aY l).length c,.nilIface])/\Own w.1.size w' a (aY l).length c (aY l))\/(¬cC id l/\e= .returned (.tuple #[.int .i64 0,.slice none 0 0,errV z]))):=by
 have bF:256<=f:=h.le;have bn:f<=maxLen:=h.le';have ba:=h.len_eq;have I:Hid _:=A9 (id:=id) h.byte;have bb:=qq h.byte;obtain⟨N,aA⟩:=xP bb;have a0:Hid (sz l=(N:Int)):=aA;have a8:0<w.1.size:=World.block_lt_of_cell? w ⟨0,0,none⟩ a6;have bx:Hid (Bs w (some ⟨b,o+4,none⟩) 252 (f-4) (l.drop 4)):=by
  have:=h.piece 4 252 t7 (f-4) t7 t7;rw[w3 (by rw[wb];omega)]at this;exact this
 have a1:Hid (Bs w (some ⟨b,o+4,none⟩) 12 (f-4) (aJ l 4 12)):=h.piece 4 12 t7 (f-4) t7 t7;have ag:Hid (N<=240->Bs w (some ⟨b,o+16,none⟩) N (f-16) (aY l)):=fun G=>by
  have:=h.piece 16 N t7 (f-16) t7 t7;have e:aY l=(l.drop 16).take N:=by unfold aY aJ;rw[a0.out];simp
  rw[e];exact this
 have bz:Hid (N<=240->Bs w (some ⟨b,o+(16+N),none⟩) (256-(16+N)) (f-(16+N)) (l.drop (16+N))):=fun G=>by
  have:=h.piece (16+N) (256-(16+N)) t7 (f-(16+N)) t7 t7;rw[w3 (by rw[wb];omega)]at this;exact this
 have B:Hid (nD id l↔low (aJ l 4 4)=id/\bL id (kd l) (N:Int)=true/\low (aJ l 0 4)=(crc (l.drop 4):Int)/\ed id (kd l) (N:Int)=aJ l 4 12/\iP (l.drop (16+N))=true):=by
  show nD id l↔_;unfold nD;rw[a0.out];simp only[Int.toNat_natCast];exact⟨fun h=>h.2,fun h=>⟨ba,h⟩⟩
 have aS:=A8 b o f l w h;rw[show l.getD 8 0=kd l from rfl,show low (aJ l 10 2)=(N:Int)from aA]at aS;have aT:Hid _:=fun a n c v bE G=>zt a n c (l.drop 4) v bE G;have bY:Hid _:=h;generalize low (aJ l 4 4)=j at*;generalize low (aJ l 0 4)=u at*;generalize crc (l.drop 4)=an at*;generalize kd l=r at*;have bA:Hid (Calls prog 172 #[.slice (some ⟨b,o,none⟩) 256 f] w fun e w'=>e= .returned (.agg #[.int .i64 j,.int .i64 r,.int .i64 (N:Int),.int .i64 u])/\Below w.1.size w w'):=aS;clear aS aA bb h;go_enter func153,ntmps153;go_wp2_with fail;refine B8 bA.out ?_;rintro e w1 ⟨rfl,V⟩;have bk:=(BX w1.1.size w1).alloc t1 (.cells #[.int .i64 j,.int .i64 r,.int .i64 (N:Int),.int .i64 u] 272);have F:=V.trans (bk.mono V.size);have bR:=D3 w1 (.cells #[.int .i64 j,.int .i64 r,.int .i64 (N:Int),.int .i64 u] 272);have ch:(w1.alloc (.cells #[.int .i64 j,.int .i64 r,.int .i64 (N:Int),.int .i64 u] 272)).1.size=w1.1.size+1:=by simp
 have cj:=V.size;clear bk V;go_wp2_with fail;generalize a7:w1.alloc (.cells #[.int .i64 j,.int .i64 r,.int .i64 (N:Int),.int .i64 u] 272)=L at*;clear a7;have y:Hid (∀v,Below L.1.size L v->v.cell? ⟨w1.1.size,0,none⟩=some (.int .i64 j)/\v.cell? ⟨w1.1.size,1,none⟩=some (.int .i64 r)/\v.cell? ⟨w1.1.size,2,none⟩=some (.int .i64 (N:Int))/\v.cell? ⟨w1.1.size,3,none⟩=some (.int .i64 u)/\v.cell? ⟨0,0,none⟩=some (errV z)):=fun v O=>by
  have ad:=(O.block w1.1.size t7).trans bR;exact⟨C8 _ _ 0 _ _ _ ad,C8 _ _ 1 _ _ _ ad,C8 _ _ 2 _ _ _ ad,C8 _ _ 3 _ _ _ ad,by
   rw[O.cell (p:=⟨0,0,none⟩) (by show 0<_;omega),F.cell (p:=⟨0,0,none⟩) a8];exact a6⟩
 obtain⟨k0,b1,b2,b3,b4⟩:=y.out L t2;by_cases hA:j=id
 case neg=>
  have hx:(j !=id)=true:=by simp[hA]
  have k:¬cC id l:=fun D=>hA (B.out.1 (I.out.1 D)).1;have br:Hid _:=F;have s:Hid _:=k;clear k hA
  go_quiet (fail)
  go_wp2_with fail
  go_quiet (fail)
  go_wp2;refine B1 (v:= .tuple #[.int .i64 0,.slice none 0 0,errV z]) (by simp[results,results153,go_sem]) rfl ?_;exact⟨DX (DX br.out _) _,vJ ⟨s.out,rfl⟩⟩
 subst hA;have hx:(j !=j)=false:=by simp
 have cg:¬f=4:=t7;have bW:¬f=16:=t7;have cf:(4:Int)<=(f:Int):=t7;have bT:(16:Int)<=(f:Int):=t7;cases t:bL j r (N:Int)with
 |false=>
  have k:¬cC j l:=fun D=>by have:=(B.out.1 (I.out.1 D)).2.1;rw[t]at this;cases this
  have s:Hid _:=k;have J:Hid _:=t;clear k t;refine az (fun v=>v.cell? ⟨w1.1.size,0,none⟩=some (.int .i64 j)/\v.cell? ⟨w1.1.size,1,none⟩=some (.int .i64 r)/\v.cell? ⟨w1.1.size,2,none⟩=some (.int .i64 (N:Int))/\v.cell? ⟨w1.1.size,3,none⟩=some (.int .i64 u)/\v.cell? ⟨0,0,none⟩=some (errV z)) (fun _=>false) uA ?_;have d:=y.out L.drew t2.drew;refine ai 0 d ?_;refine ai 1 d ?_;refine ai 2 d ?_;refine ai 3 d ?_;refine ai 4 d ?_;refine ai 5 d ?_;refine ai 6 d ?_;refine ai 7 d ?_;refine ah 8 fun x q=> ?_;go_wp2_with fail;refine(zn j r (N:Int) _ J.out).mono ?_;rintro e U ⟨rfl,m⟩;simp only[D6]at m;replace m:=kh m;go_wp2_with fail;refine q.out _ _ (fun _=>y.out U m) ?_;clear q x;have g:=y.out U m;refine ai 9 g ?_;refine ai 10 g ?_;refine ai 11 g ?_;refine aE 12 g ?_;refine aE 13 g ?_;refine aE 14 g ?_;refine aE 15 g ?_;refine aE 16 g ?_;refine aE 17 g ?_;refine ai 18 g ?_;refine bi ?_;obtain⟨X,Y,Z,ab,ac⟩:=g;have H:Hid _:=F.trans (m.mono F.size);clear m d;go_wp2_with fail
  go_quiet (fail)
  go_wp2;refine B1 (v:= .tuple #[.int .i64 0,.slice none 0 0,errV z]) (by simp[results,results153,go_sem]) rfl ?_;exact⟨DX H.out _,vJ ⟨s.out,rfl⟩⟩
 |true=>
  have G:N<=240:=by have:=ja t;omega
  have J:Hid _:=t;clear t;refine az (fun v=>v.cell? ⟨w1.1.size,0,none⟩=some (.int .i64 j)/\v.cell? ⟨w1.1.size,1,none⟩=some (.int .i64 r)/\v.cell? ⟨w1.1.size,2,none⟩=some (.int .i64 (N:Int))/\v.cell? ⟨w1.1.size,3,none⟩=some (.int .i64 u)/\v.cell? ⟨0,0,none⟩=some (errV z)) (fun _=>false) uA ?_;have d:=y.out L.drew t2.drew;refine ai 0 d ?_;refine ai 1 d ?_;refine ai 2 d ?_;refine ai 3 d ?_;refine ai 4 d ?_;refine ai 5 d ?_;refine ai 6 d ?_;refine ai 7 d ?_;refine ah 8 fun x q=> ?_;go_wp2_with fail;refine(zm j r (N:Int) _ J.out).mono ?_;rintro e U ⟨rfl,m⟩;simp only[D6]at m;replace m:=kh m;go_wp2_with fail;refine q.out _ _ (fun _=>y.out U m) ?_;clear q x;have g:=y.out U m;have a5:=F.trans (m.mono F.size);refine ai 9 g ?_;refine ai 10 g ?_;refine ai 11 g ?_;refine ai 12 g ?_;refine ai 13 g ?_;refine ai 14 g ?_;refine ai 15 g ?_;refine ah 16 fun x q=> ?_;go_wp2_with fail;refine(aT.out _ _ _ _ (bx.out.below a5) t7).mono ?_;rintro e w' ⟨rfl,rfl⟩;go_wp2_with fail;refine ao q ?_;clear q x;refine ai 17 g ?_;refine ai 18 g ?_;refine bi ?_;obtain⟨bP,bc⟩:=aa w';subst bc;obtain⟨X,Y,Z,ab,ac⟩:=g;by_cases P:u=(an:Int)
  case neg=>
   have k:¬cC j l:=fun D=>P (B.out.1 (I.out.1 D)).2.2.1;have s:Hid _:=k;have bd:(u !=(an:Int))=true:=by simp[P]
   have H:Hid _:=a5;clear k P d;go_wp2_with fail
   go_quiet (fail)
   go_wp2;refine B1 (v:= .tuple #[.int .i64 0,.slice none 0 0,errV z]) (by simp[results,results153,go_sem]) rfl ?_;exact⟨DX H.out _,vJ ⟨s.out,rfl⟩⟩
  have bd:(u !=(an:Int))=false:=by simp[P]
  obtain⟨M,ap⟩:=aa (16+N);have bS:IntKind.i64.wrap (16+(N:Int))=(M:Int):=by simp[IntKind.wrap,IntKind.bits,IntKind.signed];omega
  have cb:(16:Int)<=(M:Int):=t7;have cc:(M:Int)<=256:=t7;have ce:(M:Int)<=(f:Int):=t7;have ca:(0:Int)<=(M:Int):=t7;have a2:Hid (f=M->∀v,Below w.1.size w v->Bs v (some ⟨b,o,none⟩) (256-M) 0 (l.drop (16+N))):=fun R v O=>by
   have a9:l.drop (16+N)=[]:=by rw[zz];omega
   rw[a9,show 256-M=0 by omega];exact⟨rfl,t1,v6 _,fun e=>(by cases e),fun h=>absurd h (Nat.lt_irrefl 0),eX⟩
  have a3:Hid (∀v,Below w.1.size w v->Bs v (some ⟨b,o+M,none⟩) (256-M) (f-M) (l.drop (16+N))):=fun v O=>by
   have bf:=(bz.out G).below O;rw[<-ap]at bf ⊢;exact bf
  have ae:Hid (M=16+N):=ap;clear d ap;go_wp2_with fail;refine az (fun v=>v.cell? ⟨w1.1.size,0,none⟩=some (.int .i64 j)/\v.cell? ⟨w1.1.size,1,none⟩=some (.int .i64 r)/\v.cell? ⟨w1.1.size,2,none⟩=some (.int .i64 (N:Int))/\v.cell? ⟨w1.1.size,3,none⟩=some (.int .i64 u)/\v.cell? ⟨0,0,none⟩=some (errV z)) (fun _=>false) uA ?_;have d:=y.out bP.drew m.drew;refine ai 0 d ?_;refine ai 1 d ?_;refine ai 3 d ?_;refine ai 4 d ?_;refine ah 2 fun x q=> ?_;go_wp2_with fail;refine(zo j r (N:Int) _ J.out t7).mono ?_;rintro e bm ⟨bZ,b0,rfl,E,T⟩;simp only[D6]at E T;replace E:=kh E;go_wp2_with fail;refine q.out _ _ (fun _=>y.out bm (m.trans (E.mono m.size))) ?_;clear q x;have C:=m.trans (E.mono m.size);have i:=y.out bm C;have A:=F.trans (C.mono F.size);refine ah 5 fun x q=> ?_;go_wp2_with fail;refine(A7 _ _ _ _ _ _ (ed j r (N:Int)) (aJ l 4 12) _ (T.bs (tA J.out)) (a1.out.below A) t7 t7).mono ?_;rintro e bX ⟨rfl,rfl⟩;go_wp2_with fail;refine ao q ?_;clear q x;by_cases Q:ed j r (N:Int)=aJ l 4 12
  case neg=>
   rw[CC Q];have k:¬cC j l:=fun D=>Q (B.out.1 (I.out.1 D)).2.2.2.1;have s:Hid _:=k;have H:Hid _:=A;clear k Q;refine ai 6 i ?_;refine ai 7 i ?_;refine aE 8 i ?_;refine aE 9 i ?_;refine aE 10 i ?_;refine aE 11 i ?_;refine aE 12 i ?_;refine ai 13 i ?_;refine bi ?_;obtain⟨X,Y,Z,ab,ac⟩:=i;clear E T C d;go_wp2_with fail
   go_quiet (fail)
   go_wp2;refine B1 (v:= .tuple #[.int .i64 0,.slice none 0 0,errV z]) (by simp[results,results153,go_sem]) rfl ?_;exact⟨DX H.out _,vJ ⟨s.out,rfl⟩⟩
  rw[CH Q];refine ai 6 i ?_;refine ai 7 i ?_;refine ai 8 i ?_;refine ai 9 i ?_;refine ai 10 i ?_;refine ah 11 fun x q=> ?_;go_wp2_with fail
  rotate_left
  all_goals
   first
   |(have R:f=M:=(by assumption);refine(tZ (some ⟨b,o,none⟩) (256-M) 0 (l.drop (16+N)) _ (a2.out R _ A)).mono ?_)
   |(have R:¬f=M:=(by assumption);refine(tZ (some ⟨b,o+M,none⟩) (256-M) (f-M) (l.drop (16+N)) _ (a3.out _ A)).mono ?_)
   rintro e af ⟨rfl,rfl⟩;go_wp2_with fail;refine ao q ?_;clear q x;cases W:iP (l.drop (16+N))with
   |false=>
    have k:¬cC j l:=fun D=>by have:=(B.out.1 (I.out.1 D)).2.2.2.2;rw[W]at this;cases this
    have s:Hid _:=k;have H:Hid _:=A;clear k W;refine ai 12 i ?_;refine ai 13 i ?_;refine bi ?_;obtain⟨X,Y,Z,ab,ac⟩:=i;clear E T C d;go_wp2_with fail
    go_quiet (fail)
    go_wp2;refine B1 (v:= .tuple #[.int .i64 0,.slice none 0 0,errV z]) (by simp[results,results153,go_sem]) rfl ?_;exact⟨DX H.out _,vJ ⟨s.out,rfl⟩⟩
   |true=>
    have S:cC j l:=I.out.2 (B.out.2 (by refine⟨?_,J.out,P,Q,W⟩;trivial));have bu:Hid _:=S;clear S W;refine ai 12 i ?_;refine ai 13 i ?_;refine bi ?_;obtain⟨X,Y,Z,ab,ac⟩:=i;have aX:Hid ((aY l).length=N):=(ag.out G).len_eq;clear E T d;go_wp2_with fail;go_region_with (first|(go_at_call 83;(try rw[show M-16=N from by have bC:=ae.out;omega]);refine(pF _ _ _ (aY l) _ ?_ ?_).mono ?_;(first|exact(ag.out G).below A.drew|(have bg:=(ag.out G).below A.drew;rw[show f-16=N from by have bC:=ae.out;omega]at bg;exact bg));omega;rintro e bl ⟨ak,am,rfl,K,aB⟩;simp only[D6]at K aB;replace K:=kh K;have a4:=A.trans (K.mono A.size);obtain⟨b5,b6,b7,b8,b9⟩:=y.out bl (C.trans (K.mono C.size))))
    all_goals
     have bs:Hid _:=a4;have bv:Hid (Own af.1.size bl ak N am (aY l)):=aB;have bB:Hid (w.1.size<=af.1.size):=A.size;clear a4 aB K;go_wp2;refine B1 (v:= .tuple #[.int .i64 r,.slice ak N am,.nilIface]) (by simp[results,results153,go_sem]) rfl ?_;refine⟨bs.out,vR ⟨bu.out,ak,am,?_,?_⟩⟩
     ·rw[aX.out]
     ·rw[aX.out];exact bv.out.mono bB.out
