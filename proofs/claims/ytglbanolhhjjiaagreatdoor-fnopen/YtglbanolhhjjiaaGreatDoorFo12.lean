import Derived.Test.YtglbanolhhjjiaaGreatDoorFo6
import Derived.Test.YtglbanolhhjjiaaGreatDoorFo9
namespace Go.Proofs.YtglbanolhhjjiaaGreatDoor
open Go.Proofs.Tryz
open Go.RowKit
set_option linter.unusedVariables false
set_option maxRecDepth 100000
set_option maxHeartbeats 32000000
theorem CI(b id a n c l w)(f:Bs w a n c l)(g:n≠256)(i:w.cell? ⟨0,0,none⟩=some (errV b)):
 Calls prog 153 #[.int .i64 id,.slice a n c] w fun e w'=>Below w.1.size w w'/\e= .returned (.tuple #[.int .i64 0,.slice none 0 0,errV b]):=by
 have d:=u9 f.le f.le';unfold maxLen at d;have h:((n:Int) !=256)=true:=by simp;omega
 clear f g;go_enter func153,ntmps153;go_wp2_with fail
 go_quiet (fail)
 go_wp2;refine BB (v:= .tuple #[.int .i64 0,.slice none 0 0,errV b]) (by simp[results,results153,go_sem]) rfl ⟨C5 t2 _,rfl⟩
theorem CJ(y id b m f l w)(D:Bs w (some ⟨b,m,none⟩) 256 f l)(a6:w.cell? ⟨0,0,none⟩=some (errV y)):
 Calls prog 153 #[.int .i64 id,.slice (some ⟨b,m,none⟩) 256 f] w fun e w'=>Below w.1.size w w'/\((cC id l/\∃a c,e= .returned (.tuple #[.int .i64 (kd l),.slice a (aY l).length c,.nilIface])/\Own w.1.size w' a (aY l).length c (aY l))\/(¬cC id l/\e= .returned (.tuple #[.int .i64 0,.slice none 0 0,errV y]))):=by
 have bF:256<=f:=D.le;have bn:f<=maxLen:=D.le';have ba:=D.len_eq;have I:Hid _:=A9 (id:=id) D.byte;have bb:=qq D.byte;obtain⟨N,aA⟩:=xb bb;have a0:Hid (sz l=(N:Int)):=aA;have a8:0<w.1.size:=World.block_lt_of_cell? w ⟨0,0,none⟩ a6;have bx:Hid (Bs w (some ⟨b,m+4,none⟩) 252 (f-4) (l.drop 4)):=by
  have:=D.piece 4 252 t7 (f-4) t7 t7;rw[wC (by rw[vk];omega)]at this;exact this
 have a1:Hid (Bs w (some ⟨b,m+4,none⟩) 12 (f-4) (aJ l 4 12)):=D.piece 4 12 t7 (f-4) t7 t7;have ag:Hid (N<=240->Bs w (some ⟨b,m+16,none⟩) N (f-16) (aY l)):=fun G=>by
  have:=D.piece 16 N t7 (f-16) t7 t7;have e:aY l=(l.drop 16).take N:=by unfold aY aJ;rw[a0.out];simp
  rw[e];exact this
 have bz:Hid (N<=240->Bs w (some ⟨b,m+(16+N),none⟩) (256-(16+N)) (f-(16+N)) (l.drop (16+N))):=fun G=>by
  have:=D.piece (16+N) (256-(16+N)) t7 (f-(16+N)) t7 t7;rw[wC (by rw[vk];omega)]at this;exact this
 have A:Hid (nD id l↔low (aJ l 4 4)=id/\bL id (kd l) (N:Int)=true/\low (aJ l 0 4)=(crc (l.drop 4):Int)/\ed id (kd l) (N:Int)=aJ l 4 12/\iP (l.drop (16+N))=true):=by
  show nD id l↔_;unfold nD;rw[a0.out];simp only[Int.toNat_natCast];exact⟨fun D=>D.2,fun D=>⟨ba,D⟩⟩
 have aS:=A8 b m f l w D;rw[show l.getD 8 0=kd l from rfl,show low (aJ l 10 2)=(N:Int)from aA]at aS;have aT:Hid _:=fun a n c v bE G=>zt a n c (l.drop 4) v bE G;have bY:Hid _:=D;generalize low (aJ l 4 4)=i at*;generalize low (aJ l 0 4)=t at*;generalize crc (l.drop 4)=an at*;generalize kd l=q at*;have bA:Hid (Calls prog 172 #[.slice (some ⟨b,m,none⟩) 256 f] w fun e w'=>e= .returned (.agg #[.int .i64 i,.int .i64 q,.int .i64 (N:Int),.int .i64 t])/\Below w.1.size w w'):=aS;clear aS aA bb D;go_enter func153,ntmps153;go_wp2_with fail;refine BV bA.out ?_;rintro e w1 ⟨rfl,V⟩;have bk:=(Bn w1.1.size w1).alloc t1 (.cells #[.int .i64 i,.int .i64 q,.int .i64 (N:Int),.int .i64 t] 272);have F:=V.trans (bk.mono V.size);have bR:=DI w1 (.cells #[.int .i64 i,.int .i64 q,.int .i64 (N:Int),.int .i64 t] 272);have ch:(w1.alloc (.cells #[.int .i64 i,.int .i64 q,.int .i64 (N:Int),.int .i64 t] 272)).1.size=w1.1.size+1:=by simp
 have cj:=V.size;clear bk V;go_wp2_with fail;generalize a7:w1.alloc (.cells #[.int .i64 i,.int .i64 q,.int .i64 (N:Int),.int .i64 t] 272)=L at*;clear a7;have x:Hid (∀v,Below L.1.size L v->v.cell? ⟨w1.1.size,0,none⟩=some (.int .i64 i)/\v.cell? ⟨w1.1.size,1,none⟩=some (.int .i64 q)/\v.cell? ⟨w1.1.size,2,none⟩=some (.int .i64 (N:Int))/\v.cell? ⟨w1.1.size,3,none⟩=some (.int .i64 t)/\v.cell? ⟨0,0,none⟩=some (errV y)):=fun v O=>by
  have ad:=(O.block w1.1.size t7).trans bR;exact⟨CV _ _ 0 _ _ _ ad,CV _ _ 1 _ _ _ ad,CV _ _ 2 _ _ _ ad,CV _ _ 3 _ _ _ ad,by
   rw[O.cell (p:=⟨0,0,none⟩) (by show 0<_;omega),F.cell (p:=⟨0,0,none⟩) a8];exact a6⟩
 obtain⟨k0,b1,b2,b3,b4⟩:=x.out L t2;by_cases hA:i=id
 case neg=>
  have hx:(i !=id)=true:=by simp[hA]
  have j:¬cC id l:=fun C=>hA (A.out.1 (I.out.1 C)).1;have br:Hid _:=F;have r:Hid _:=j;clear j hA
  go_quiet (fail)
  go_wp2_with fail
  go_quiet (fail)
  go_wp2;refine BB (v:= .tuple #[.int .i64 0,.slice none 0 0,errV y]) (by simp[results,results153,go_sem]) rfl ?_;exact⟨C5 (C5 br.out _) _,u4 ⟨r.out,rfl⟩⟩
 subst hA;have hx:(i !=i)=false:=by simp
 have cg:¬f=4:=t7;have bW:¬f=16:=t7;have cf:(4:Int)<=(f:Int):=t7;have bT:(16:Int)<=(f:Int):=t7;cases s:bL i q (N:Int)with
 |false=>
  have j:¬cC i l:=fun C=>by have:=(A.out.1 (I.out.1 C)).2.1;rw[s]at this;cases this
  have r:Hid _:=j;have J:Hid _:=s;clear j s;refine az (fun v=>v.cell? ⟨w1.1.size,0,none⟩=some (.int .i64 i)/\v.cell? ⟨w1.1.size,1,none⟩=some (.int .i64 q)/\v.cell? ⟨w1.1.size,2,none⟩=some (.int .i64 (N:Int))/\v.cell? ⟨w1.1.size,3,none⟩=some (.int .i64 t)/\v.cell? ⟨0,0,none⟩=some (errV y)) (fun _=>false) uA ?_;have d:=x.out L.drew t2.drew;refine ai 0 d ?_;refine ai 1 d ?_;refine ai 2 d ?_;refine ai 3 d ?_;refine ai 4 d ?_;refine ai 5 d ?_;refine ai 6 d ?_;refine ai 7 d ?_;refine ah 8 fun u o=> ?_;go_wp2_with fail;refine(zn i q (N:Int) _ J.out).mono ?_;rintro e U ⟨rfl,k⟩;simp only[DR]at k;replace k:=kh k;go_wp2_with fail;refine o.out _ _ (fun _=>x.out U k) ?_;clear o u;have g:=x.out U k;refine ai 9 g ?_;refine ai 10 g ?_;refine ai 11 g ?_;refine aE 12 g ?_;refine aE 13 g ?_;refine aE 14 g ?_;refine aE 15 g ?_;refine aE 16 g ?_;refine aE 17 g ?_;refine ai 18 g ?_;refine bi ?_;obtain⟨X,Y,Z,ab,ac⟩:=g;have H:Hid _:=F.trans (k.mono F.size);clear k d;go_wp2_with fail
  go_quiet (fail)
  go_wp2;refine BB (v:= .tuple #[.int .i64 0,.slice none 0 0,errV y]) (by simp[results,results153,go_sem]) rfl ?_;exact⟨C5 H.out _,u4 ⟨r.out,rfl⟩⟩
 |true=>
  have G:N<=240:=by have:=ja s;omega
  have J:Hid _:=s;clear s;refine az (fun v=>v.cell? ⟨w1.1.size,0,none⟩=some (.int .i64 i)/\v.cell? ⟨w1.1.size,1,none⟩=some (.int .i64 q)/\v.cell? ⟨w1.1.size,2,none⟩=some (.int .i64 (N:Int))/\v.cell? ⟨w1.1.size,3,none⟩=some (.int .i64 t)/\v.cell? ⟨0,0,none⟩=some (errV y)) (fun _=>false) uA ?_;have d:=x.out L.drew t2.drew;refine ai 0 d ?_;refine ai 1 d ?_;refine ai 2 d ?_;refine ai 3 d ?_;refine ai 4 d ?_;refine ai 5 d ?_;refine ai 6 d ?_;refine ai 7 d ?_;refine ah 8 fun u o=> ?_;go_wp2_with fail;refine(zm i q (N:Int) _ J.out).mono ?_;rintro e U ⟨rfl,k⟩;simp only[DR]at k;replace k:=kh k;go_wp2_with fail;refine o.out _ _ (fun _=>x.out U k) ?_;clear o u;have g:=x.out U k;have a5:=F.trans (k.mono F.size);refine ai 9 g ?_;refine ai 10 g ?_;refine ai 11 g ?_;refine ai 12 g ?_;refine ai 13 g ?_;refine ai 14 g ?_;refine ai 15 g ?_;refine ah 16 fun u o=> ?_;go_wp2_with fail;refine(aT.out _ _ _ _ (bx.out.below a5) t7).mono ?_;rintro e w' ⟨rfl,rfl⟩;go_wp2_with fail;refine ao o ?_;clear o u;refine ai 17 g ?_;refine ai 18 g ?_;refine bi ?_;obtain⟨bP,bc⟩:=aa w';subst bc;obtain⟨X,Y,Z,ab,ac⟩:=g;by_cases P:t=(an:Int)
  case neg=>
   have j:¬cC i l:=fun C=>P (A.out.1 (I.out.1 C)).2.2.1;have r:Hid _:=j;have bd:(t !=(an:Int))=true:=by simp[P]
   have H:Hid _:=a5;clear j P d;go_wp2_with fail
   go_quiet (fail)
   go_wp2;refine BB (v:= .tuple #[.int .i64 0,.slice none 0 0,errV y]) (by simp[results,results153,go_sem]) rfl ?_;exact⟨C5 H.out _,u4 ⟨r.out,rfl⟩⟩
  have bd:(t !=(an:Int))=false:=by simp[P]
  obtain⟨M,ap⟩:=aa (16+N);have bS:IntKind.i64.wrap (16+(N:Int))=(M:Int):=by simp[IntKind.wrap,IntKind.bits,IntKind.signed];omega
  have cb:(16:Int)<=(M:Int):=t7;have cc:(M:Int)<=256:=t7;have ce:(M:Int)<=(f:Int):=t7;have ca:(0:Int)<=(M:Int):=t7;have a2:Hid (f=M->∀v,Below w.1.size w v->Bs v (some ⟨b,m,none⟩) (256-M) 0 (l.drop (16+N))):=fun R v O=>by
   have a9:l.drop (16+N)=[]:=by rw[y3];omega
   rw[a9,show 256-M=0 by omega];exact⟨rfl,t1,u6 _,fun e=>(by cases e),fun D=>absurd D (Nat.lt_irrefl 0),eX⟩
  have a3:Hid (∀v,Below w.1.size w v->Bs v (some ⟨b,m+M,none⟩) (256-M) (f-M) (l.drop (16+N))):=fun v O=>by
   have bf:=(bz.out G).below O;rw[<-ap]at bf ⊢;exact bf
  have ae:Hid (M=16+N):=ap;clear d ap;go_wp2_with fail;refine az (fun v=>v.cell? ⟨w1.1.size,0,none⟩=some (.int .i64 i)/\v.cell? ⟨w1.1.size,1,none⟩=some (.int .i64 q)/\v.cell? ⟨w1.1.size,2,none⟩=some (.int .i64 (N:Int))/\v.cell? ⟨w1.1.size,3,none⟩=some (.int .i64 t)/\v.cell? ⟨0,0,none⟩=some (errV y)) (fun _=>false) uA ?_;have d:=x.out bP.drew k.drew;refine ai 0 d ?_;refine ai 1 d ?_;refine ai 3 d ?_;refine ai 4 d ?_;refine ah 2 fun u o=> ?_;go_wp2_with fail;refine(zo i q (N:Int) _ J.out t7).mono ?_;rintro e bm ⟨bZ,b0,rfl,E,T⟩;simp only[DR]at E T;replace E:=kh E;go_wp2_with fail;refine o.out _ _ (fun _=>x.out bm (k.trans (E.mono k.size))) ?_;clear o u;have B:=k.trans (E.mono k.size);have h:=x.out bm B;have z:=F.trans (B.mono F.size);refine ah 5 fun u o=> ?_;go_wp2_with fail;refine(A7 _ _ _ _ _ _ (ed i q (N:Int)) (aJ l 4 12) _ (T.bs (tA J.out)) (a1.out.below z) t7 t7).mono ?_;rintro e bX ⟨rfl,rfl⟩;go_wp2_with fail;refine ao o ?_;clear o u;by_cases Q:ed i q (N:Int)=aJ l 4 12
  case neg=>
   rw[B1 Q];have j:¬cC i l:=fun C=>Q (A.out.1 (I.out.1 C)).2.2.2.1;have r:Hid _:=j;have H:Hid _:=z;clear j Q;refine ai 6 h ?_;refine ai 7 h ?_;refine aE 8 h ?_;refine aE 9 h ?_;refine aE 10 h ?_;refine aE 11 h ?_;refine aE 12 h ?_;refine ai 13 h ?_;refine bi ?_;obtain⟨X,Y,Z,ab,ac⟩:=h;clear E T B d;go_wp2_with fail
   go_quiet (fail)
   go_wp2;refine BB (v:= .tuple #[.int .i64 0,.slice none 0 0,errV y]) (by simp[results,results153,go_sem]) rfl ?_;exact⟨C5 H.out _,u4 ⟨r.out,rfl⟩⟩
  rw[B2 Q];refine ai 6 h ?_;refine ai 7 h ?_;refine ai 8 h ?_;refine ai 9 h ?_;refine ai 10 h ?_;refine ah 11 fun u o=> ?_;go_wp2_with fail
  rotate_left
  all_goals
   first
   |(have R:f=M:=(by assumption);refine(tZ (some ⟨b,m,none⟩) (256-M) 0 (l.drop (16+N)) _ (a2.out R _ z)).mono ?_)
   |(have R:¬f=M:=(by assumption);refine(tZ (some ⟨b,m+M,none⟩) (256-M) (f-M) (l.drop (16+N)) _ (a3.out _ z)).mono ?_)
   rintro e af ⟨rfl,rfl⟩;go_wp2_with fail;refine ao o ?_;clear o u;cases W:iP (l.drop (16+N))with
   |false=>
    have j:¬cC i l:=fun C=>by have:=(A.out.1 (I.out.1 C)).2.2.2.2;rw[W]at this;cases this
    have r:Hid _:=j;have H:Hid _:=z;clear j W;refine ai 12 h ?_;refine ai 13 h ?_;refine bi ?_;obtain⟨X,Y,Z,ab,ac⟩:=h;clear E T B d;go_wp2_with fail
    go_quiet (fail)
    go_wp2;refine BB (v:= .tuple #[.int .i64 0,.slice none 0 0,errV y]) (by simp[results,results153,go_sem]) rfl ?_;exact⟨C5 H.out _,u4 ⟨r.out,rfl⟩⟩
   |true=>
    have S:cC i l:=I.out.2 (A.out.2 (by refine⟨?_,J.out,P,Q,W⟩;trivial));have bu:Hid _:=S;clear S W;refine ai 12 h ?_;refine ai 13 h ?_;refine bi ?_;obtain⟨X,Y,Z,ab,ac⟩:=h;have aX:Hid ((aY l).length=N):=(ag.out G).len_eq;clear E T d;go_wp2_with fail;go_region_with (first|(go_at_call 83;(try rw[show M-16=N from by have bC:=ae.out;omega]);refine(pF _ _ _ (aY l) _ ?_ ?_).mono ?_;(first|exact(ag.out G).below z.drew|(have bg:=(ag.out G).below z.drew;rw[show f-16=N from by have bC:=ae.out;omega]at bg;exact bg));omega;rintro e bl ⟨ak,am,rfl,K,aB⟩;simp only[DR]at K aB;replace K:=kh K;have a4:=z.trans (K.mono z.size);obtain⟨b5,b6,b7,b8,b9⟩:=x.out bl (B.trans (K.mono B.size))))
    all_goals
     have bs:Hid _:=a4;have bv:Hid (Own af.1.size bl ak N am (aY l)):=aB;have bB:Hid (w.1.size<=af.1.size):=z.size;clear a4 aB K;go_wp2;refine BB (v:= .tuple #[.int .i64 q,.slice ak N am,.nilIface]) (by simp[results,results153,go_sem]) rfl ?_;refine⟨bs.out,u5 ⟨bu.out,ak,am,?_,?_⟩⟩
     ·rw[aX.out]
     ·rw[aX.out];exact bv.out.mono bB.out
