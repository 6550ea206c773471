import Derived.Test.YtnohmedccbogkaaGreatDoorCo35
namespace Go.Proofs.YtnohmedccbogkaaGreatDoor
open Go.Proofs.Tryz
open Go.RowKit
set_option linter.unusedVariables false
set_option maxRecDepth 100000
set_option maxHeartbeats 32000000
theorem AE(v i k)(a:k<=v.size):nb (v.extract i k)=((nb v).drop i).take (k-i):=by
 unfold nb;rw[<-List.map_drop,<-List.map_take];congr 1;rw[ByteArray.data_extract,Array.toList_extract]
theorem AG(s j)(h:j<s.size):((s[j]'h).toNat:Int)=(nb s).getD j 0:=by
 rw[rh];have h':j<s.data.toList.length:=h;rw[oC,lx h']
 rfl
theorem isD(d:Nat){P:Program}{o:Oper}{a:Act}{w:World}{K:Act->World->Prop}{b:Exit->Act->World->Prop}(h:Oper.wp P o a w K b)(c:o.dst=some d:=by rfl):Oper.wp P o a w K b:=h
theorem LK(s w):
 Calls prog 49 #[.string s] w fun e w'=>e= .returned (.tuple #[.agg (coC s).toArray,.bool (decide (eF s))])/\Below w.1.size w w':=by
 have k0:Blk (w.alloc (.cells #[.int .i64 0,.int .i64 0,.bool false] 48)) 48 w.1.size co0:=ao w 48 co0.toArray;have bh:=bAl w (.cells #[.int .i64 0,.int .i64 0,.bool false] 48);go_enter func49,ntmps49;go_upto_region 1 with fail
 generalize w.alloc (.cells #[.int .i64 0,.int .i64 0,.bool false] 48)=j at*;have a3:Hid (∀z,Below j.1.size j z->CoE w z w.1.size):=fun z b=>ma k0 bh kE b;have bP:w.1.size<j.1.size:=k0.lt;clear k0 bh;have bt:=tO;by_cases l:¬s.size=13
 ·have bc:¬(s.size:Int)=13:=kH;have d:Hid _:=l9 (s:=s) (fun h=>l h.1);have A:=a3.out j kF;have a:Hid _:=A;obtain⟨a5,a6,a7,a8,f1,a9,_⟩:=A;clear l;go_wp2_with fail;refine p6 (v:= .tuple #[.agg co0.toArray,.bool false]) ?_ rfl ⟨by rw[d.out.1,d.out.2],(a.out.fin _ _ _).1⟩;exact bA results49 _ _ w.1.size 48 co0.toArray _ rfl (a.out.fin _ _ _).2 r4 rfl dV rfl
 have l:s.size=13:=kH;have bc:(s.size:Int)=13:=kH;have be:Hid _:=l;have bS:=AG s 7 kH;have bF:=AG s 12 kH;have bv:=jB s 12;have i:Hid (¬((nb s).getD 7 0=0/\(nb s).getD 12 0<=1/\1<=low ((nb s).take 7)/\low ((nb s).take 7)<=1000000000000/\low (((nb s).drop 8).take 4)<=1000000)->coC s=co0/\decide (eF s)=false):=fun h=>l9 (fun bw=>h bw.2);have f:Hid ((nb s).getD 7 0=0/\(nb s).getD 12 0<=1/\1<=low ((nb s).take 7)/\low ((nb s).take 7)<=1000000000000/\low (((nb s).drop 8).take 4)<=1000000->coC s=[.int .i64 (low ((nb s).take 7)),.int .i64 (low (((nb s).drop 8).take 4)),.bool ((nb s).getD 12 0==1)]/\decide (eF s)=true):=fun h=>tM ⟨be.out,h⟩;rw[<-qk s 7 kH,show((nb s).drop 8).take 4=nb (s.extract 8 12)from(AE s 8 12 kH).symm]at i f;have I:Hid ((s.extract 0 7).size=7):=by show(s.extract 0 7).size=7;rw[<-gd,qk s 7 kH,lw,gd,l];rfl
 have H:Hid ((s.extract 8 12).size=4):=by show(s.extract 8 12).size=4;rw[<-gd,AE s 8 12 kH,lw,k3,gd,l];rfl
 generalize (nb s).getD 7 0=bd at*;generalize (nb s).getD 12 0=n at*;by_cases p:bd=0/\n<=1
 case neg=>
  have d:Hid _:=i.out (fun h=>p ⟨h.1,h.2.1⟩);have A:=a3.out j kF;have a:Hid _:=A;obtain⟨a5,a6,a7,a8,f1,a9,_⟩:=A;by_cases ba:bd=0
  ·have J:1<n:=kH;clear l p i f;go_wp2_with fail;refine p6 (v:= .tuple #[.agg co0.toArray,.bool false]) ?_ rfl ⟨by rw[d.out.1,d.out.2],(a.out.fin _ _ _).1⟩;exact bA results49 _ _ w.1.size 48 co0.toArray _ rfl (a.out.fin _ _ _).2 r4 rfl dV rfl
  ·have bH:(bd !=0)=true:=by simp[ba]
   clear l p i f;go_wp2_with fail;refine p6 (v:= .tuple #[.agg co0.toArray,.bool false]) ?_ rfl ⟨by rw[d.out.1,d.out.2],(a.out.fin _ _ _).1⟩;exact bA results49 _ _ w.1.size 48 co0.toArray _ rfl (a.out.fin _ _ _).2 r4 rfl dV rfl
 obtain⟨ba,J⟩:=p;have bu:¬1<n:=kH;clear l;go_upto_region 3 with fail
 rename_i bs bg;have a4:Hid (∀(z:World)(g:Nat){t0 bi bj bk bl bn bp bq K L M N O P Q R S T U V W X Y Z ab ac ad ae af ag ah ai ak am an ap ar aw aH aO aX a0 a1 a2:Value},Below j.1.size j z->Blk z 48 g [.int .i64 (low (nb (s.extract 0 7))),.int .i64 (low (nb (s.extract 8 12))),.bool (n==1)]->j.1.size<=g->bs {tmps:=#[t0,bi,.pointer (some ⟨w.1.size,0,none⟩),bj,.pointer (some ⟨g,0,none⟩),bk,bl,bn,bp,bq,K,L,M,N,O,P,Q,R,S,T,U,V,W,X,Y,Z,ab,ac,ad,ae,af,ag,ah,ai,ak,am,an,ap,ar,aw,aH,aO,aX,a0,a1,a2],defers:=[]} z):=by
  intro z g t0 bi bj bk bl bn bp bq K L M N O P Q R S T U V W X Y Z ab ac ad ae af ag ah ai ak am an ap ar aw aH aO aX a0 a1 a2 bf o bb;have bY:z.cell? ⟨g,0,none⟩=some (.int .i64 (low (nb (s.extract 0 7)))):=o.cell 0;have g1:z.cell? ⟨g,1,none⟩=some (.int .i64 (low (nb (s.extract 8 12)))):=o.cell 1;have g2:z.cell? ⟨g,2,none⟩=some (.bool (n==1)):=o.cell 2;have A:=a3.out z bf;have a:Hid _:=A;obtain⟨a5,a6,a7,a8,f1,a9,_⟩:=A;clear o bf;refine bg _ _ ?_;generalize low (nb (s.extract 0 7))=x at*;generalize low (nb (s.extract 8 12))=y at*;by_cases hx:x<1
  ·have d:Hid _:=i.out (fun h=>by omega);clear i f;go_wp2_with fail;refine p6 (v:= .tuple #[.agg co0.toArray,.bool false]) ?_ rfl ⟨by rw[d.out.1,d.out.2],(a.out.fin _ _ _).1⟩;exact bA results49 _ _ w.1.size 48 co0.toArray _ rfl (a.out.fin _ _ _).2 r4 rfl dV rfl
  by_cases bN:1000000000000<x
  ·have d:Hid _:=i.out (fun h=>by omega);clear i f;go_wp2_with fail;refine p6 (v:= .tuple #[.agg co0.toArray,.bool false]) ?_ rfl ⟨by rw[d.out.1,d.out.2],(a.out.fin _ _ _).1⟩;exact bA results49 _ _ w.1.size 48 co0.toArray _ rfl (a.out.fin _ _ _).2 r4 rfl dV rfl
  by_cases b0:1000000<y
  ·have d:Hid _:=i.out (fun h=>by omega);clear i f;go_wp2_with fail;refine p6 (v:= .tuple #[.agg co0.toArray,.bool false]) ?_ rfl ⟨by rw[d.out.1,d.out.2],(a.out.fin _ _ _).1⟩;exact bA results49 _ _ w.1.size 48 co0.toArray _ rfl (a.out.fin _ _ _).2 r4 rfl dV rfl
  have d:Hid _:=f.out ⟨ba,J,kH,kH,kH⟩;clear i f;go_wp2_with fail;refine p6 (v:= .tuple #[.agg #[.int .i64 x,.int .i64 y,.bool (n==1)],.bool true]) ?_ rfl ⟨by rw[d.out.1,d.out.2],(a.out.fin _ _ _).1⟩;exact bA results49 _ _ w.1.size 48 #[.int .i64 x,.int .i64 y,.bool (n==1)] _ rfl (a.out.fin _ _ _).2 r4 rfl dV rfl
 have bR:=tP (low (nb (s.extract 0 7))) (low (nb (s.extract 8 12))) (n==1);clear i f bt;obtain⟨c,D⟩:∃c,c=j.drew:=⟨_,rfl⟩;have B0:Hid (Below j.1.size j c):=by show Below j.1.size j c;rw[D];exact⟨rfl,rfl,rfl,kE,fun _ _=>rfl⟩
 refine ay (fun _=>True) (fun k=>decide (14<=k)) kO ?_;rw[<-D];clear D;refine aa 0 trivial ?_;refine aa 1 trivial ?_;refine aa 4 trivial ?_;refine aa 5 trivial ?_;refine aa 8 trivial ?_;refine aa 9 trivial ?_;refine aa 10 trivial ?_;generalize s.extract 0 7=G at*;generalize s.extract 8 12=F at*
 iterate 5
  all_goals first|refine vP 2 6 12 (by decide+kernel) rfl rfl rfl ?_ ?_ ?_|refine vP 3 6 12 (by decide+kernel) rfl rfl rfl ?_ ?_ ?_|refine cI 2 12 (by decide+kernel) rfl rfl ?_ ?_|refine cI 3 12 (by decide+kernel) rfl rfl ?_ ?_|refine cI 6 12 (by decide+kernel) rfl rfl ?_ ?_|refine cI 7 12 (by decide+kernel) rfl rfl ?_ ?_|refine cI 2 6 (by decide+kernel) rfl rfl ?_ ?_|refine cI 3 6 (by decide+kernel) rfl rfl ?_ ?_|refine aj 2 ?_ (hr:=by decide+kernel)|refine aj 3 ?_ (hr:=by decide+kernel)|refine aj 6 ?_ (hr:=by decide+kernel)|refine aj 7 ?_ (hr:=by decide+kernel)|refine aj 12 ?_ (hr:=by decide+kernel)
  all_goals
   intro r m
   try rw[qb (show Region.wanted _ _=true from rfl)]
   first
    |(refine isD 21 ?_;have E:=jc G c;have q:=jd G c;have t:=je G c (by rw[I.out];omega);rw[I.out]at E t;generalize grownCap c 7 0 5=bz at*;generalize Go.Lib.bytesWorld c 5 G=c at*;go_wp2_with fail;replace B0:Hid _:=B0.out.trans (q.mono B0.out.size);(try replace u:=u.below q);(try replace o:=o.below q);refine al m ?_;clear m r E q)
    |(refine isD 22 ?_;have B:=rf _ _ _ _ c t kH;go_wp2_with fail;refine B.mono ?_;rintro e bx ⟨rfl,C⟩;obtain rfl:=C.symm;clear C B;go_wp2_with fail;refine al m ?_;clear m r)
    |(refine isD 25 ?_;have E:=jc F c;have q:=jd F c;have u:=je F c (by rw[H.out];omega);rw[H.out]at E u;generalize grownCap c 4 0 5=bE at*;generalize Go.Lib.bytesWorld c 5 F=c at*;go_wp2_with fail;replace B0:Hid _:=B0.out.trans (q.mono B0.out.size);(try replace t:=t.below q);(try replace o:=o.below q);refine al m ?_;clear m r E q)
    |(refine isD 26 ?_;have B:=rf _ _ _ _ c u kH;go_wp2_with fail;refine B.mono ?_;rintro e bx ⟨rfl,C⟩;obtain rfl:=C.symm;clear C B;go_wp2_with fail;refine al m ?_;clear m r;refine aa 11 trivial ?_)
    |(have q:=bAl c (.cells #[.int .i64 0,.int .i64 0,.bool false] 48);have o:Blk (c.alloc (.cells #[.int .i64 0,.int .i64 0,.bool false] 48)) 48 c.1.size co0:=ao c 48 co0.toArray;go_wp2_with fail;have bb:j.1.size<=c.1.size:=B0.out.size;replace B0:Hid _:=B0.out.trans (q.mono B0.out.size);(try replace t:=t.below q);(try replace u:=u.below q);refine al m ?_;clear m r q;generalize c.alloc (.cells #[.int .i64 0,.int .i64 0,.bool false] 48)=c at*)
 all_goals
  refine aj 13 fun r m=> ?_;have A:=ma (w:=j) o B0.out bb kF;have a:Hid _:=A;obtain⟨a5,a6,a7,a8,f1,a9,_⟩:=A;go_wp2_with fail;refine al m ?_;clear m r;refine ax ?_;exact a4.out _ _ (a.out.fin _ _ _).1 (a.out.fin _ _ _).2 bb
