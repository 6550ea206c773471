import Derived.Test.YtnohmedccbogkaaGreatDoorCo23
import Derived.Test.YtnohmedccbogkaaGreatDoorCo25
namespace Go.Proofs.YtnohmedccbogkaaGreatDoor
open Go.Proofs.Tryz
open Go.RowKit
set_option linter.unusedVariables false
set_option maxRecDepth 100000
set_option maxHeartbeats 32000000
section
def RlP(P:Pg)(N:Nat)(S:World->Prop)(X:Nat->Prop)(first:Int)(w:World)(e:Ending)(w':World):Prop:=
 OnlyS X w w'/\((∃free own a c a2 c2,flR P (N+1) first [] []=some (free,own)/\free.length<=65536/\own.length<=1024/\e= .returned (.tuple #[.slice a free.length c,.slice a2 own.length c2])/\Own1 3 w.1.size w' a free.length c (on free)/\Own1 3 w.1.size w' a2 own.length c2 (on own)/\S w'/\(∀g,a2=some ⟨g,0,none⟩->a≠some ⟨g,0,none⟩))\/(flR P (N+1) first [] []=none/\e= .panicked aU))
structure LR(S:World->Prop)(X:Nat->Prop)(w:World)(free own:List Int)(a a2:Option Addr)(c c2:Nat)(wr:World):Prop where
 fr:OnlyS X w wr
 src:S wr
 f:Own1 3 w.1.size wr a free.length c (on free)
 o:Own1 3 w.1.size wr a2 own.length c2 (on own)
 sep:∀g,a2=some ⟨g,0,none⟩->a≠some ⟨g,0,none⟩
structure LI(P:Pg)(N:Nat)(S:World->Prop)(X:Nat->Prop)(first:Int)(w:World)(free own:List Int)(a a2:Option Addr)(c c2:Nat)(id:Int)(wr:World):Prop where
 r:LR S X w free own a a2 c c2 wr
 ok:SeenOk own N
 lf:free.length<=64*own.length
 eq:flR P (N+1) first [] []=flR P (N+1-own.length) id own free
 bd:0<=id/\id<4294967296
variable {S:World->Prop} {X:Nat->Prop} {B0 N ty fn:Nat} {v:Value} {P:Pg} {w wr wr':World} {free own:List Int} {a a2:Option Addr} {c c2:Nat}
theorem LR.below(d:Src P B0 ty fn v S X)(e:B0<=w.1.size)(h:LR S X w free own a a2 c c2 wr)(b:Below wr.1.size wr wr'):LR S X w free own a a2 c c2 wr':=
 ⟨h.fr.trans (OnlyS.ofBelow b),d.keep _ _ h.src ⟨b.os,b.tape,b.output,b.size,fun i f=>b.block i (by have:=h.fr.size;omega)⟩ (aW b),h.f.below b,h.o.below b,h.sep⟩
theorem LR.only(j:Src P B0 ty fn v S X)(m:B0<=w.1.size)(h:LR S X w free own a a2 c c2 wr){g l xs}(d:Blk wr l g xs)(n:w.1.size<=g)(f:l≠3)(i:l≠5)(b:OnlyB g wr wr'):LR S X w free own a a2 c c2 wr':=
 ⟨h.fr.transN (OnlyS.ofB b) (fun k d e=>by subst e;omega),j.keep _ _ h.src (OnlyS.below (OnlyS.ofB b) (by have:=h.fr.size;omega) (fun k e=>by subst e;omega)) (aV b d i),h.f.keep (aV b d f),h.o.keep (aV b d f),h.sep⟩
theorem LR.page(f:Src P B0 ty fn v S X)(i:B0<=w.1.size)(h:LR S X w free own a a2 c c2 wr)(g:S wr')(d:OnlyS X wr wr'):LR S X w free own a a2 c c2 wr':=
 ⟨h.fr.trans d,g,zJ h.f (fun k b=>d.block k (l4 h.f k b).2 (fun e=>by have:=f.low k e;have:=(l4 h.f k b).1;omega)),zJ h.o (fun k b=>d.block k (l4 h.o k b).2 (fun e=>by have:=f.low k e;have:=(l4 h.o k b).1;omega)),h.sep⟩
theorem LR.appF(j:Src P B0 ty fn v S X)(n:B0<=w.1.size)(h:LR S X w free own a a2 c c2 wr){x g l w'}(o:Own1 3 w.1.size w' (some ⟨g,0,none⟩) (free.length+1) l (on free++[.int .i64 x]))(f:(wr.alloc (.cells #[.int .i64 x] 3)).grownBy w' (Value.slice a free.length c).ownBlock)(m:a=some ⟨g,0,none⟩\/wr.1.size<g):LR S X w (free++[x]) own (some ⟨g,0,none⟩) a2 l c2 w':=by
 have q:=bAl wr (.cells #[.int .i64 x] 3);have b:=h.below j n q;have p:=b.fr.size;refine⟨b.fr.transN (OnlyS.ofGrown f) (fun k r e=>by have:=(qX h.f k e).1;omega),j.keep _ _ b.src (kF.grown f kH (fun k e=>by have:=(qX h.f k e).1;omega)) (bJ b.f f kN),?_,?_,?_⟩
 ·rw[kY,<-iU];exact o
 ·exact b.o.grown b.f f (fun g1 d i=>b.sep g1 i d)
 ·intro g1 d i;cases i;rcases m with e|e
  ·exact h.sep g d e
  ·have:=l4 h.o g (by rw[d];simp[rb]);omega
theorem LR.appO(j:Src P B0 ty fn v S X)(n:B0<=w.1.size)(h:LR S X w free own a a2 c c2 wr){x g l w'}(o:Own1 3 w.1.size w' (some ⟨g,0,none⟩) (own.length+1) l (on own++[.int .i64 x]))(f:(wr.alloc (.cells #[.int .i64 x] 3)).grownBy w' (Value.slice a2 own.length c2).ownBlock)(m:a2=some ⟨g,0,none⟩\/wr.1.size<g):LR S X w free (own++[x]) a (some ⟨g,0,none⟩) c l w':=by
 have q:=bAl wr (.cells #[.int .i64 x] 3);have b:=h.below j n q;have p:=b.fr.size;refine⟨b.fr.transN (OnlyS.ofGrown f) (fun k r e=>by have:=(qX h.o k e).1;omega),j.keep _ _ b.src (kF.grown f kH (fun k e=>by have:=(qX h.o k e).1;omega)) (bJ b.o f kN),?_,?_,?_⟩
 ·exact b.f.grown b.o f (fun g1 i d=>b.sep g1 i d)
 ·rw[kY,<-iU];exact o
 ·intro g1 i d;cases i;rcases m with e|e
  ·exact h.sep g e d
  ·have:=l4 h.f g (by rw[d];simp[rb]);omega
theorem SeenOk.snoc{l N}(h:SeenOk l N){id}(d:0<=id)(f:id< (N:Int))(g:id∉l):SeenOk (l++[id]) N:=
 ⟨by
  rw[List.nodup_append];exact⟨h.nodup,kP,by intro a i b c e;simp at c;subst c;subst e;exact g i⟩,fun x hx=>by
  rcases mx.1 hx with hx|hx
  ·exact h.lt x hx
  ·simp at hx;subst hx;exact⟨d,f⟩⟩
theorem Kz{l}(a:IsB l)(h:4<=l.length):0<=eQ l 0/\eQ l 0<4294967296:=by
 have:=gG (dR a 4);have b:(l.take 4).length=4:=by rw[lw];omega
 rw[b]at this;simpa [eQ]using this
theorem KD(l:List Int):l.getLastD 0=l.getD (l.length-1) 0:=by
 rw[List.getLastD_eq_getLast?,List.getLast?_eq_getElem?]
 rfl
theorem KE{w g B l}(h:Cur w g B l):∃xs,Blk w 162 g xs:=by
 obtain⟨a,n,c,h⟩:=h;exact⟨_,h.blk⟩
end
section
def qd:Value->Nat
 | .slice _ n _=>n
 |_=>0
variable {S:World->Prop} {X:Nat->Prop} {B0 N ty fn:Nat} {v:Value} {P:Pg}
theorem KF(bs:PgW P N)(cd:∀cx,(P.bd cx).length<=256)(r:Src P B0 ty fn v S X)(first w)(cc:S w)(F:B0<=w.1.size)(q:0<=first)(bf:first<4294967296):
 Calls prog 152 #[.iface ty v,.int .i64 first] w (RlP P N S X first w):=by
 have cO:=bs.le;have cS:=r.meth;have cP:=r.ent;have cB:Hid (LI P N S X first w [] [] none none 0 0 first w):=⟨⟨OnlyS.refl _ _,cc,ew _ _ _,ew _ _ _,fun g e=>by cases e⟩,⟨o0,kP⟩,kP,rfl,q,bf⟩;clear cc q bf;go_enter func152,ntmps152;go_wp2_with fail;go_loopw [4,5,6] (fun bP bR c2 wr=> ∃(f b:List Int)(a V:Option Addr)(c W:Nat)(id:Int),bP= .slice a f.length c/\bR= .slice V b.length W/\c2= .int .i64 id/\LI P N S X first w f b a V c W id wr) (fun _ bR _ _=>N+1-qd bR)
 case atStart=>exact⟨[],[],none,none,0,0,first,rfl,rfl,rfl,cB.out⟩
 case round=>
  obtain⟨f,b,a,V,c,W,id,rfl,rfl,rfl,ag⟩:=hrel;obtain⟨cA,rfl⟩:∃x,x=wr:=⟨_,rfl⟩;have c9:=ag.ok.le;have c5:=ag.lf;have da:=ag.r.fr.size;have Q:=Ko w.1.size V W b id cA ag.r.o kH;have o:Hid _:=ag;clear ag;by_cases aO:id=0
  ·subst aO;have bE:Hid (flR P (N+1) first [] []=some (f,b)):=by show flR P (N+1) first [] []=some (f,b);rw[o.out.eq,zE]
   clear Q;go_wp2_with fail;refine p6 (v:= .tuple #[.slice a f.length c,.slice V b.length W]) (by simp[results,results152]) rfl ?_;exact⟨o.out.r.fr,kV ⟨f,b,a,c,V,W,bE.out,kH,kH,rfl,o.out.r.f,o.out.r.o,o.out.r.src,o.out.r.sep⟩⟩
  have a5:Hid (flR P (N+1) first [] []=flR P (N-b.length+1) id b f):=by
   show flR P (N+1) first [] []=flR P (N-b.length+1) id b f;rw[o.out.eq];congr 1;omega
  have c4:(id==0)=false:=by simp[aO]
  have s:Hid (∀w',OnlyS X w w'->fX P b id=false->RlP P N S X first w (.panicked aU) w'):=fun w' O G=>⟨O,kT ⟨by rw[a5.out,zF aO G],rfl⟩⟩;cases Y:b.contains id with
  |true=>
   rw[Y]at Q;have G:fX P b id=false:=by
    rw[<-nl,lZ];intro h;exact h.2.2.1 (m9.1 Y)
   clear Y;go_wp2_with fail;refine Q.mono ?_;rintro e c3 ⟨rfl,t⟩;obtain rfl:=t.symm;clear t Q;go_wp2_with fail;refine(f9 _).mono ?_;rintro e w' ⟨rfl,rfl⟩;go_wp2;exact⟨rfl,s.out _ o.out.r.fr G⟩
  |false=>
   rw[Y]at Q;have b8:=r.page cA id o.out.r.src o.out.bd.1 o.out.bd.2;go_wp2_with fail;refine Q.mono ?_;rintro e c3 ⟨rfl,t⟩;obtain rfl:=t.symm;clear t Q;go_wp2_with fail;refine(fl _).mono ?_;rintro e w' ⟨rfl,rfl⟩;go_wp2_with fail;refine b8.mono ?_;rintro e w1 ⟨cw,bH,⟨bi,ar,aw,rfl,aX⟩|⟨co,k,ar,nb,aw,dd,rfl⟩⟩
   rotate_left
   ·have G:fX P b id=false:=by
     rw[<-nl,lZ,co];intro h;exact absurd h.1 kN
    have j:Hid (RlP P N S X first w (.panicked aU) w1):=s.out _ (o.out.r.fr.trans bH) G;go_wp2_with fail;refine(f9 _).mono ?_;rintro e w' ⟨rfl,m⟩;obtain rfl:=m.symm;clear m;go_wp2;exact⟨rfl,j.out⟩
   have bt:=o.out.r.page r F cw bH;have bh:id∉b:=fun h=>by rw[m9.2 h]at Y;cases Y
   obtain⟨c6,ck⟩:=bs.ok id bi;have ce:=cd id;generalize bF:P.bd id=l at aX ce ⊢;generalize bg:P.kd id=kd at ⊢;have ap:Hid (P.bd id=l):=bF;have bp:Hid (IsB l):=by show IsB l;rw[<-bF];exact bs.byte id
   have ba:Hid (P.kd id=kd):=bg;have A:=kG bt aX;have cq:=bt.fr.size;clear bF bg bt aX cw bH Y b8;by_cases a3:kd=4
   rotate_left
   ·have cR:(kd==4)=false:=by simp[a3]
    have G:fX P b id=false:=by
     rw[<-nl,lZ,ba.out];intro h;exact a3 h.2.1
    have j:Hid (RlP P N S X first w (.panicked aU) w1):=s.out _ A.out.1.fr G;go_wp2_with fail;refine(f9 _).mono ?_;rintro e w' ⟨rfl,m⟩;obtain rfl:=m.symm;clear m;go_wp2;exact⟨rfl,j.out⟩
   subst a3;go_wp2_with fail;refine(fl _).mono ?_;rintro e w' ⟨rfl,m⟩;obtain rfl:=m.symm;clear m;go_upto_region 7 with(first|(at_builtin;refine i5 rfl _ _ ig rfl w.1.size V b.length W (on b) rfl A.out.1.o (.int .i64 id) rfl rfl kH kH cq ?_;intro g2 bw a7 ct cC aH bc)|fail)
   have bu:=A.out.1.appO r F ct aH bc;have bN:=bAl w1 (.cells #[.int .i64 id] 3);have cy:=A.out.2.keep ((aW bN).trans (bJ (cj A.out.1.o bN) aH kN));have q3:=bAl a7 (.cells #[.slice ar l.length aw] 162);have b9:=bu.below r F q3;have cs:=ao a7 162 #[.slice ar l.length aw];have E:=JS cy;have ad:=bu.fr.size;have B:Hid (∀w',OnlyS X w w'->(fX P b id=true->frA (dz l 1) f=none)->RlP P N S X first w (.panicked aU) w'):=fun w' O G=>by
    cases a0:fX P b id with
    |false=>exact s.out w' O a0
    |true=>exact⟨O,kT ⟨by rw[a5.out,qc aO a0,ap.out,G a0];rfl,rfl⟩⟩
   have R:Hid (fX P b id=true->4<=l.length/\l.length%4=0):=fun h=>by
    have:=(lZ.1 h).2.2.2;rw[ap.out]at this;exact this
   have b4:Hid (4<=l.length->l.length%4=0->fX P b id=true):=fun cG cH=>lZ.2 ⟨bi,ba.out,bh,by rw[ap.out];exact cG,by rw[ap.out];exact cH⟩;have bl:Hid _:=b9;clear bu b9 cy bN q3 ct aH bc cC A s;go_upto_region 8 with fail
   generalize a7.alloc (.cells #[.slice ar l.length aw] 162)=a8 at*;have a6:Blk a8 162 a7.1.size [.slice ar l.length aw]:=cs;generalize ci:a7.1.size=d at*;clear ci cs;by_cases cL:l.length<4
   ·have bq:=nS d d l a8 E.cur cL;have j:Hid (∀w',OnlyB d a8 w'->RlP P N S X first w (.panicked aU) w'):=fun w' O=>B.out w' (bl.out.only r F a6 ad kN kN O).fr (fun h=>absurd (R.out h).1 kH);clear E;go_wp2_with fail;refine bq.mono ?_;rintro e cz ⟨rfl,ah⟩;go_wp2;exact⟨rfl,j.out _ ah⟩
   have U:=zv d d l a8 E kH;rw[show low (l.take 4)=eQ l 0 by simp[eQ]]at U;clear E;go_upto_region 9 with fail
   refine U.mono ?_;rintro e cz ⟨rfl,ah,bY⟩;have ca:=bl.out.only r F a6 ad kN kN ah;have b1:=kG ca bY;clear U ca bY ah bl a6;go_wp2_with fail;go_loopw [4] (fun bP wr=> ∃(k:Nat)(i:List Int)(J:Option Addr)(D:Nat),bP= .slice J i.length D/\LR S X w i (b++[id]) J (some ⟨g2,0,none⟩) D bw wr/\CurT wr d d (l.drop (4*k))/\1<=k/\4*k<=l.length/\i.length+1=f.length+k/\(l.length%4=0->frA (dz l 1) f=frA (dz l k) i)) (fun _ wr=>gD wr d)
   case atStart=>exact⟨1,f,a,c,rfl,b1.out.1,b1.out.2,kH,kH,kH,fun _=>rfl⟩
   case round=>
    obtain⟨k,i,J,D,rfl,bx,L,cl,cm,ch,a1⟩:=hrel;obtain⟨wI,rfl⟩:∃x,x=wr:=⟨_,rfl⟩;have be:(l.drop (4*k)).length=l.length-4*k:=by rw[k3]
    have b3:Hid _:=jO L.cur;have ae:=nT d d (l.drop (4*k)) wI L.cur;have T:=kG bx a1;have a4:=o.out.ok.snoc kH ck bh;have cp:=a4.le;rw[kY,oB]at cp;have b6:Hid _:=a4;clear a4;by_cases ac:(l.drop (4*k)).length=0
    ·rw[q6 ac]at ae;have cn:4*k=l.length:=kH;have b7:Hid (LI P N S X first w i (b++[id]) J (some ⟨g2,0,none⟩) D bw (eQ l 0) wI):=by
      refine⟨T.out.1,b6.out,by rw[kY,oB];omega,?_,Kz bp.out kH⟩;rw[a5.out,qc aO (b4.out kH kH),ap.out,T.out.2 kH,zC kH,frA];show flR P (N-b.length) _ _ _= _;congr 1;rw[kY,oB];omega
     clear L bx a1 be ac cn ch cl cm;go_wp2_with fail;refine ae.mono ?_;rintro e c3 ⟨rfl,t⟩;obtain rfl:=t.symm;clear t ae;go_wp2_with fail;go_roundw
     case rel=>exact⟨i,b++[id],J,some ⟨g2,0,none⟩,D,bw,eQ l 0,rfl,by rw[kY];rfl,rfl,b7.out⟩
     case measure=>simp only[qd];omega
    rw[q5 ac]at ae;obtain⟨bS,bk⟩:=KE L.cur;have a9:Hid (Blk wI 162 d bS):=bk;clear bk bx a1;go_upto_region 10 with fail
    refine ae.mono ?_;rintro e c3 ⟨rfl,t⟩;obtain rfl:=t.symm;clear t ae;go_upto_region 10 with fail
    by_cases cM:(l.drop (4*k)).length<4
    ·have bq:=nS d d (l.drop (4*k)) wI L.cur cM;have j:Hid (∀w',OnlyB d wI w'->RlP P N S X first w (.panicked aU) w'):=fun w' O=>B.out w' (T.out.1.only r F (show Blk wI 162 d bS from a9.out) ad kN kN O).fr (fun h=>absurd (R.out h).2 kH);clear L;go_wp2_with fail;refine bq.mono ?_;rintro e cz ⟨rfl,ah⟩;go_wp2;exact⟨rfl,j.out _ ah⟩
    have U:=zv d d (l.drop (4*k)) wI L kH;rw[show low ((l.drop (4*k)).take 4)=eQ l k from rfl,m0,show 4*k+4=4*(k+1)by omega]at U;have ab:dz l k=eQ l k::dz l (k+1):=zD kH;have C:Hid _:=ab;clear L ab;generalize hx:eQ l k=x at*;clear hx;go_upto_region 11 with fail
    refine U.mono ?_;rintro e z ⟨rfl,cu,ak⟩;have I:=T.out.1.only r F (show Blk wI 162 d bS from a9.out) ad kN kN cu;have b2:Hid _:=jO ak.cur;have bn:=kG I ak;have bj:=I.fr.size;have bz:(l.drop (4*(k+1))).length=l.length-4*(k+1):=by rw[k3]
    have b5:Hid (gD z d<gD wI d):=by
     show gD z d<gD wI d;rw[b2.out,b3.out];omega
    have a2:i.length<=65536:=kH;have am:Hid (∀(p:World),(z.alloc (.cells #[.int .i64 x] 3)).grownBy p (Value.slice J i.length D).ownBlock->CurT p d d (l.drop (4*(k+1)))/\gD p d=gD z d):=fun p n=>by
     have cv:=bAl z (.cells #[.int .i64 x] 3);have cr:∀cx,3≠cx->KeepT cx z p:=fun cx c0=>(aW cv).trans (bJ (cj I.f cv) n c0);have b0:=ak.keep (cr _ kN) (cr _ kN);exact⟨b0,by rw[jO b0.cur,jO ak.cur]⟩
    have c7:4*(k+1)<=l.length:=kH;clear U cu ak be bz ac;go_upto_region 11 with fail
    rcases o6 i.length with q|q
    ·have cg:=oT q;subst cg;have af:Own1 3 w.1.size z J 0 D (on []):=I.f;clear I q a2;go_wp2_with fail;refine(fl _).mono ?_;rintro e w' ⟨rfl,m⟩;obtain rfl:=m.symm;clear m;go_wp2_with (at_builtin;refine i5 rfl _ _ ig rfl w.1.size J 0 D (on []) rfl af (.int .i64 x) rfl rfl kH kH bj ?_);intro cE cD p ai bv n K;have R8:=bn.out.1.appF r F ai n K;have j:Hid _:=R8;have an:Hid (l.length%4=0->frA (dz l 1) f=frA (dz l (k+1)) ([]++[x])):=fun h=>by
      rw[T.out.2 h,C.out,frA,q4 (fun h=>h.1 rfl)]
     have H:Hid (CurT p d d (l.drop (4*(k+1)))/\gD p d=gD z d):=am.out p n;clear ai bv n K R8 af;go_wp2_with fail;go_roundw
     case rel=>exact⟨k+1,[]++[x],_,_,rfl,j.out,H.out.1,kH,kH,by rw[kY,oB];omega,an.out⟩
     case measure=>rw[H.out.2];exact b5.out
    ·obtain⟨u,M⟩:∃u,i.length=u+1:=⟨i.length-1,kH⟩;obtain⟨cF,rfl,_,_,_,bd⟩:=I.f.at_ q;have cf:=bd u kH;rw[tJ i u kH]at cf;have bb:Hid (i.getLastD 0=i.getD u 0):=by
      show i.getLastD 0=i.getD u 0;rw[KD,M];rfl
     have af:=I.f;rw[M]at af;have Z:Hid (i.length=u+1):=M;simp only[M];have cT:u<=65536:=kH;clear I bd q a2 M;generalize c1:i.getD u 0=y at*;clear c1;have c8:((((u+1:Nat):Int))==0)=false:=by simp;omega
     by_cases dc:y<x
     ·have an:Hid (l.length%4=0->frA (dz l 1) f=frA (dz l (k+1)) (i++[x])):=fun h=>by
       rw[T.out.2 h,C.out,frA,q4 (fun h=>by have:=h.2;rw[bb.out]at this;omega)]
      go_wp2_with fail;refine(fl _).mono ?_;rintro e w' ⟨rfl,m⟩;obtain rfl:=m.symm;clear m;go_wp2_with (at_builtin;refine i5 rfl _ _ ig rfl w.1.size (some ⟨cF,0,none⟩) (u+1) D (on i) rfl af (.int .i64 x) rfl rfl (by have:=Z.out;omega) kH bj ?_);intro cE cD p ai bv n K;rw[<-Z.out]at ai n;have R8:=bn.out.1.appF r F ai n (K.imp (fun e=>by rw[e]) (fun e=>e));have j:Hid _:=R8;have H:Hid (CurT p d d (l.drop (4*(k+1)))/\gD p d=gD z d):=am.out p n;clear ai bv n K R8 af;go_wp2_with fail;go_roundw
      case rel=>exact⟨k+1,i++[x],_,_,by rw[kY,Z.out];rfl,j.out,H.out.1,kH,kH,by rw[kY,oB];omega,an.out⟩
      case measure=>rw[H.out.2];exact b5.out
     ·have j:Hid (RlP P N S X first w (.panicked aU) z):=B.out z bn.out.1.fr (fun h=>by
       have cV:i≠[]/\x<=i.getLastD 0:=⟨fun e=>by have cb:=Z.out;rw[e]at cb;simp at cb,by rw[bb.out];omega⟩;rw[T.out.2 (R.out h).2,C.out,frA,qb cV])
      go_wp2_with fail;refine(f9 _).mono ?_;rintro e w' ⟨rfl,m⟩;obtain rfl:=m.symm;clear m;go_wp2;exact⟨rfl,j.out⟩
end
