import Derived.Test.YtglbanolhhjjiaaGreatDoorFo26
namespace Go.Proofs.YtglbanolhhjjiaaGreatDoor
open Go.Proofs.Tryz
open Go.RowKit
set_option linter.unusedVariables false
set_option maxRecDepth 100000
set_option maxHeartbeats 32000000
theorem F3(b w):(Go.method 428 260 (.pointer (some ⟨b,0,none⟩)) "loop.example/s01906/impl.page").run prog w= .ok (217,.pointer (some ⟨b,0,none⟩)) w:=uA
theorem F5(b w):(Go.method 428 223 (.pointer (some ⟨b,0,none⟩)) "loop.example/s01906/impl.page").run prog w= .ok (217,.pointer (some ⟨b,0,none⟩)) w:=uA
def TopR(w:World)(gt:Nat)(o:Option Tr)(F:List Nat):Prop:= ∃gi a c us G,F=gt::gi::(rb a++G)/\Blk w 230 gt [.pointer (some ⟨gi,0,none⟩)]/\Blk w 228 gi [.int .i64 0,.slice a us.length c]/\ORow 239 2 0 w a us.length c (kdF us)/\
 match o with
 |none=>us=[]/\G=[]
 |some T=> ∃v,us=[(strOfNums [],v)]/\IRep w T G [(strOfNums [],v)]
theorem TopR.keep{w w' f o j}(h:TopR w f o j)(d:∀k∈j,w'.heap[k]?=w.heap[k]?):TopR w' f o j:=by
 obtain⟨g,a,c,us,G,rfl,l,m,n,i⟩:=h;refine⟨g,a,c,us,G,rfl,(d f uB).trans l,(d g uB).trans m,iA n (fun k b=>d k (by simp[b])),?_⟩;cases o with
 |none=>exact i
 |some T=>
  obtain⟨v,e,p⟩:=i;exact⟨v,e,p.keep (fun k b=>d k (by simp[b]))⟩
def cN:Option Tr->List Int
 |none=>[]
 |some T=>pgN T
def okO:Option Tr->Prop
 |none=>True
 |some T=>isT T=true/\full T true
theorem TopR.flt{w f o m}(h:TopR w f o m):∀k∈m,k<w.1.size:=by
 obtain⟨n,a,c,us,G,rfl,g,i,j,d⟩:=h;intro k b;rcases wS.1 b with rfl|b
 ·exact g.lt
 rcases wS.1 b with rfl|b
 ·exact i.lt
 rcases w4.1 b with b|b
 ·exact(cE j k b).2
 ·cases o with
  |none=>rw[d.2]at b;cases b
  |some T=>
   obtain⟨v,e,l⟩:=d;exact l.lt k b
def LO:Option Tr->List (ByteArray×Tr)
 |none=>[]
 |some T=>[(strOfNums [],T)]
theorem F7(o):dO (LO o)=cN o:=by cases o<;>simp[LO,dO,cN]
theorem NsQ.trans0{B w wr f w' a g i k j b c e d}(h:NsQ B w a 0 [] e g k b wr)(q:Below wr.1.size wr f)(l:NsQ B f g b.length b d i j c w'):NsQ B w a 0 [] (e++d) i j (b++c) w':=
 h.trans q (by rw[wB];exact l)
theorem Gb(R o bd w)(h:TopR w R o bd)(C:okO o)(a5:(cN o).length<=1024):
 Calls prog 149 #[.pointer (some ⟨R,0,none⟩)] w fun e w'=> ∃a c b,e= .returned (.slice a b.length c)/\NsQ w.1.size w none 0 [] (cN o) a c b w':=by
 obtain⟨Z,V,Y,us,G,rfl,ab,J,hrow,l⟩:=h;have ag:us.length=(LO o).length:=by
  cases o with
  |none=>rw[l.1];rfl
  |some T=>obtain⟨v,e,_⟩:=l;rw[e];rfl
 have m:∀i,i<us.length->∃A,IRep w ((LO o).getD i t0).2 A [(strOfNums [],(us.getD i k0).2)]:=fun i d=>by
  cases o with
  |none=>rw[l.1]at d;exact absurd d (xA _)
  |some T=>
   obtain⟨v,e,h⟩:=l;subst e;have:i=0:=by simp at d;exact d
   subst this;exact⟨G,h⟩
 have Q:∀i,i< (LO o).length->NsC ((LO o).getD i t0).2:=fun i d=>by
  cases o with
  |none=>exact absurd d (xA _)
  |some T=>
   have:i=0:=by simp[LO]at d;exact d
   subst this;exact(oP T).1 C.1 C.2
 have a8:us.length<=1:=by rw[ag];cases o<;>simp[LO]
 rw[<-F7 o]at a5 ⊢;generalize LO o=L at*;have bf:w.cell? ⟨R,0,none⟩=some (.pointer (some ⟨Z,0,none⟩)):=ab.cell 0;have bg:w.cell? ⟨Z,1,none⟩=some (.slice V us.length Y):=J.cell 1;have ac:NsQ w.1.size w none 0 [] (dO (L.take 0)) none 0 [] w:=⟨cQ _ _ _,OnlyS.refl _ _,fun k a4 _=>a4,fun _ _=>KeepT.refl _ _,rfl,fun i d=>absurd d (xA _)⟩;have aB:Hid _:=ac;have D:∀i,i<us.length->(us.getD i k0).2.oneCell'=true:=fun i d=>by
  obtain⟨A,h⟩:=m i d;obtain⟨n,p,a2,e,_⟩:=Q i t7 _ A w 0 none 0 0 [] h (cQ _ _ _) (v6 _) (by have:=oJ L i t7;have J:=lh L (i+1);rw[this,v7]at J;omega);rw[e]
  rfl
 have x:=t6 hrow (vk m (vk Q D));clear ac ab J hrow m Q D l C;go_enter func149,ntmps149;go_wp2_with fail;go_loopw [3,14] (fun ba ap wr=> ∃(i:Nat)(y:Option Addr)(z:Nat)(b:List Value),ba= .slice y b.length z/\ap= .int .i64 (i:Nat)/\i<=us.length/\NsQ w.1.size w none 0 [] (dO (L.take i)) y z b wr) (fun _ s _=>us.length-(intOf s).toNat)
 case atStart=>exact⟨0,none,0,[],rfl,rfl,v6 _,aB.out⟩
 case round=>
  obtain⟨i,y,z,b,rfl,rfl,d,g⟩:=hrel;obtain⟨f,ak⟩:=aa wr;subst ak;have H:=g.len;have bc:=g.fr.size;by_cases P:i<us.length
  ·have a6:(i:Int)< (us.length:Int):=t7;have E:=oJ L i t7;have af:=lh L (i+1);rw[E,v7]at af;have F:ORow 239 2 0 f V us.length Y (kdF us):=cw x.out.1 (g.keep _ uv);obtain⟨an,rfl,_,bb⟩:=oy F t7;have r:=fun j v a9=>(F.reads (xy us _ x.out.2.2.2)).cells i P j v a9;rw[show kdF us i=[.string (us.getD i k0).1,(us.getD i k0).2]from rfl]at r;obtain⟨A,N⟩:=x.out.2.1 i P;have M:=x.out.2.2.1 i t7;generalize us.getD i k0=a1 at*;obtain⟨sg,u⟩:=a1;have I:=bAl f (.cells #[.string sg,u] 239);have t:Own1 236 w.1.size f y b.length z b:=by have:=g.own;rwa [wB]at this
   obtain⟨n,p,a2,a7,aA,a3,q⟩:=M u A (f.alloc (.cells #[.string sg,u] 239)) w.1.size y b.length z b ((N.keepN g.keep).below I) (t.below I) (by have:=I.size;omega) (by rw[H];omega);subst a7;have W:f.cell? ⟨an,i*2,none⟩=some (.string sg):=by have:=r 0 _ rfl;simpa using this
   have X:f.cell? ⟨an,i*2+1,none⟩=some (.iface n (.pointer p)):=by have:=r 1 _ rfl;simpa using this
   have am:=aq f 239 #[.string sg,.iface n (.pointer p)];have B:=t6 g (vk I E);clear r N M F g I E x H t;go_upto_region 5 with(first|(refine bt rfl 239 _ _ rfl f #[.string (strOfNums []),.nilIface] #[.string sg,.iface n (.pointer p)] 239 rfl rfl xx rfl rfl ?_))
   change Code.wp _ _ _ _ (f.alloc (.cells #[.string sg,.iface n (.pointer p)] 239));generalize f.alloc (.cells #[.string sg,.iface n (.pointer p)] 239)=aS at*;generalize ad:f.1.size=a0 at*;have bk:aS.cell? ⟨a0,1,none⟩=some (.iface n (.pointer p)):=Blk.cell am 1;clear am W X;go_wp2_with fail;refine q.mono ?_;rintro e bl ⟨aT,aX,K,rfl,O⟩;have S:=B.out.1.trans0 (by rw[ad];exact B.out.2.1) O;rw[<-B.out.2.2]at S;have U:Hid _:=S;clear q O S;go_wp2_with fail;go_roundw
   case rel=>exact⟨i+1,aT,aX,b++K,by rw[v7],by go_num,t7,U.out⟩
   case measure=>simp[intOf];omega
  ·have ae:i=L.length:=t7;have B:Hid (NsQ w.1.size w none 0 [] (dO L) y z b f):=by have:=g;rw[ae,x8]at this;exact this
   clear g x H;go_wp2_with fail;go_ret;exact⟨_,_,b,rfl,B.out⟩
section
theorem I5:prog.built 228 []=some #[.int .i64 0,.slice none 0 0]:=uA
theorem I6(p):prog.built 230 [(0,.pointer p)]=some #[.pointer p]:=uA
theorem I7(a:Nat)(v m):prog.built 234 [(0,.iface a v),(1,.map (some m)),(2,.int .i64 (-1))]=some #[.iface a v,.map (some m),.int .i64 (-1),.string (strOfNums []),.string (strOfNums [])]:=uA
theorem Gd(a:Nat)(v):prog.built 239 [(1,.iface a v)]=some #[.string (strOfNums []),.iface a v]:=uA
def x00:LSg:=(strOfNums [],strOfNums [])
def rtO(P:Pg)(N:Nat)(root:Int):Option (Option Tr):=if root=0 then some none else(wkT P (N+1) 0 ⟨[], -1⟩ x00 root).map fun y=>some y.1
def pe(N:Nat):Option Tr->Prop
 |none=>True
 |some T=>isT T=true/\full T true/\(ar T).Nodup/\∀x∈ar T,2<=x/\x< (N:Int)
def RtP(P:Pg)(N:Nat)(S:World->Prop)(X:Nat->Prop)(root:Int)(w:World)(e:Ending)(w':World):Prop:=
 OnlyS X w w'/\((∃o gt F,rtO P N root=some o/\e= .returned (.pointer (some ⟨gt,0,none⟩))/\TopR w' gt o F/\(∀k∈F,w.1.size<=k)/\S w'/\pe N o)\/(rtO P N root=none/\e= .panicked bI))
variable {S:World->Prop} {X:Nat->Prop} {B0 N ty fn:Nat} {v:Value} {P:Pg}
theorem Ge(g:PgW P N){f a T d n}(h:wkT P f 0 ⟨[], -1⟩ x00 a=some (T,d,n))(j:SeenOk d.seen N):pe N (some T):=by
 unfold wkT at h;cases c:rdT P f 0 ⟨[], -1⟩ a with
 |none=>rw[c]at h;cases h
 |some y=>
  rw[c]at h;obtain⟨o,k,e⟩:=x3.1 h;obtain⟨l,m⟩:=y;cases e;have b:=iW g f 0 ⟨[], -1⟩ a _ _ c;refine⟨b.isT,b.full,?_,b.pgs⟩;have i:=b.seen.nodup_iff.1 j.nodup;rwa [wC]at i
theorem Gf(a7:PgW P N)(C:Src P B0 ty fn v S X)(a w)(bu:S w)(aX:B0<=w.1.size)(bb:0<=a)(ba:a<4294967296):
 Calls prog 114 #[.iface ty v,.int .i64 a] w (RtP P N S X a w):=by
 obtain⟨D,q⟩:=aa (w.alloc (.cells #[.int .i64 0,.slice none 0 0] 228));obtain⟨E,r⟩:=aa (D.alloc (.cells #[.pointer (some ⟨w.1.size,0,none⟩)] 230));have Y:Below w.1.size w D:=by rw[q];exact bAl _ _
 have Z:Below D.1.size D E:=by rw[r];exact bAl _ _
 have ac:D.1.size=w.1.size+1:=by rw[q];simp
 have ad:E.1.size=w.1.size+1+1:=by rw[r];simp[ac]
 have kI:=(by rw[q];exact aq w _ _:Blk D 228 w.1.size [.int .i64 0,.slice none 0 0]).below Z;have W:Blk E 230 (w.1.size+1) [.pointer (some ⟨w.1.size,0,none⟩)]:=by rw[r,<-ac];exact aq D _ _
 have o:=Y.trans (Z.mono Y.size);have U:=C.keep _ _ bu (o.mono aX) (aV o);by_cases V:a=0
 ·have L:Hid (rtO P N a=some none):=by show rtO P N a=some none;unfold rtO;rw[B2 V]
  have p:Hid (RtP P N S X a w (.returned (.pointer (some ⟨w.1.size+1,0,none⟩))) E):=⟨OnlyS.ofBelow o,vR ⟨none,w.1.size+1,[w.1.size+1,w.1.size],L.out,rfl,⟨w.1.size,none,0,[],[],rfl,W,kI,lJ _ _ _ _ _,rfl,rfl⟩,fun k b=>by simp at b;omega,U,trivial⟩⟩;clear Y Z ac ad kI W o U L;subst V;go_enter func114,ntmps114;go_wp2_with fail;go_ret;rw[r,q]at p;exact p.out
 have bA:(a==0)=false:=by simp[V]
 have L:Hid (rtO P N a=(wkT P (N+1) 0 ⟨[], -1⟩ x00 a).map fun y=>some y.1):=by show rtO P N a= _;unfold rtO;rw[Ct V]
 obtain⟨F,t⟩:=aa (E.alloc (Obj.map #[] 0));obtain⟨f,z⟩:=aa (F.alloc (.cells #[.iface ty v,.map (some (w.1.size+1+1)),.int .i64 (-1),.string (strOfNums []),.string (strOfNums [])] 234));have a1:Below E.1.size E F:=by rw[t];exact bAl _ _
 have a2:Below F.1.size F f:=by rw[z];exact bAl _ _
 have a4:F.1.size=w.1.size+1+1+1:=by rw[t];simp[ad]
 have bm:f.1.size=w.1.size+1+1+1+1:=by rw[z];simp[a4]
 have s:=a1.trans (a2.mono a1.size);have bd:Blk f 234 (w.1.size+1+1+1) (wkc (.iface ty v) (w.1.size+1+1) (-1) x00):=by rw[z,<-a4];exact aq F _ _
 have bl:SetI f (w.1.size+1+1) []:=by
  have e:SetI F (w.1.size+1+1) []:=⟨.map [],by rw[t,<-ad];exact World.ownsMap_made _ _ _ _,fun i=>by rfl⟩;exact e.same (a2.block _ t7)
 have a8:=C.keep _ _ U (s.mono t7) (aV s);have ak:Wk S B0 (w.1.size+1+1+1) (w.1.size+1+1) N (.iface ty v) f ⟨[], -1⟩ x00:=⟨bd,bl,a8,t7,t7,⟨y3,fun x hx=>by simp at hx⟩⟩;have aB:=o.trans (s.mono o.size);have am:=kI.below s;have O:=W.below s;have a6:=xq (g:=w.1.size+1+1+1) (m:=w.1.size+1+1) a7 C (N+1) 0 a ⟨[], -1⟩ x00 f.drew (ak.below C ⟨rfl,rfl,rfl,t1,fun _ _=>rfl⟩) t7 (v6 _) bb ba;have af:= @run_makeMap prog;have ae:=fun k e=>wE (C.low k e) aX;have J:=t6 aB (vk am ae);have cs:f.drew.cell? ⟨w.1.size+1,0,none⟩=some (.pointer (some ⟨w.1.size,0,none⟩)):=O.cell 0;have a5:Hid (Blk f 230 (w.1.size+1) [.pointer (some ⟨w.1.size,0,none⟩)]):=O;have a9:Hid _:=bm;clear Y Z ac ad a4 bm kI W o U a1 a2 s bd bl a8 ak aB am O ae;go_enter func114,ntmps114;go_upto_region 4 with fail
 change Code.wp _ _ _ _ ((((w.alloc (.cells #[.int .i64 0,.slice none 0 0] 228)).alloc (.cells #[.pointer (some ⟨w.1.size,0,none⟩)] 230)).alloc (Obj.map #[] 0)).alloc (.cells #[.iface ty v,.map (some (w.1.size+1+1)),.int .i64 (-1),.string (strOfNums []),.string (strOfNums [])] 234));rw[<-q,<-r,<-t,<-z];clear q r t z af;obtain⟨bW,bC⟩:=aa w.1.size;obtain⟨bX,bE⟩:=aa (w.1.size+1);obtain⟨bY,af⟩:=aa (w.1.size+1+1);obtain⟨bT,bB⟩:=aa (w.1.size+1+1+1);refine az (fun u=>u.cell? ⟨w.1.size+1,0,none⟩=some (.pointer (some ⟨w.1.size,0,none⟩))) (fun k=>decide (9<=k)) uA ?_;refine ai 0 cs ?_;refine ai 1 cs ?_;refine ai 2 cs ?_;refine ai 3 cs ?_;refine ai 4 cs ?_;refine ai 5 cs ?_;refine ah 6 fun l c=> ?_;go_wp2_with fail;refine B8 a6 ?_;rintro e j ⟨H,⟨T,bP,bZ,G,d,n,M,rfl,bf,bv,bc,a0,ab⟩|⟨ag,rfl⟩⟩
 rotate_left
 ·have ab:=((OnlyS.ofBelow J.out.1:OnlyS X w f).drew).transN H (fun k b e=>by rcases e with e|e|e;exact e;omega;omega);have p:Hid (RtP P N S X a w (.panicked bI) j):=⟨ab,vJ ⟨by rw[L.out,show wkT P (N+1) 0 ⟨[], -1⟩ x00 a=none from ag];rfl,rfl⟩⟩;clear ab H ag;go_wp2;exact⟨rfl,p.out⟩
 clear a6;have aT:=((OnlyS.ofBelow J.out.1:OnlyS X w f).drew).transN H (fun k b e=>by rcases e with e|e|e;exact e;omega;omega);have Q:=Blk.onlyS (show Blk f.drew 230 (w.1.size+1) [.pointer (some ⟨w.1.size,0,none⟩)]from a5.out) H (fun e=>by rcases e with e|e|e;exact absurd (J.out.2.2 _ e) t7;omega;omega);have an:=Blk.onlyS (show Blk f.drew 228 w.1.size [.int .i64 0,.slice none 0 0]from J.out.2.1) H (fun e=>by rcases e with e|e|e;exact absurd (J.out.2.2 _ e) t7;omega;omega);have bx:j.cell? ⟨w.1.size+1,0,none⟩=some (.pointer (some ⟨w.1.size,0,none⟩)):=Q.cell 0;have bF:w.1.size+1+1+1+1<=j.1.size:=by have:=H.size;have br:=a9.out;have bn:f.drew.1.size=f.1.size:=rfl;omega
 have K:∀k∈G,w.1.size+1+1+1+1<=k:=fun k b=>by have:=bc k b;have br:=a9.out;have bn:f.drew.1.size=f.1.size:=rfl;omega
 have B:=bAl j (.cells [.string (strOfNums []),.iface d (.pointer n)].toArray 239);have R:=Q.below B;have A:=an.below B;have bR:=A.cell 1;have bS:=A.free 1;have bz:=R.cell 0;have I:=ax (j.alloc (.cells [.string (strOfNums []),.iface d (.pointer n)].toArray 239)) w.1.size 1 (.slice (some ⟨j.1.size,0,none⟩) 1 1);have aA:=R.only I t7;have ap:=A.set 1 (.slice (some ⟨j.1.size,0,none⟩) 1 1);have a3:ORow 239 2 0 (j.alloc (.cells [.string (strOfNums []),.iface d (.pointer n)].toArray 239)) (some ⟨j.1.size,0,none⟩) 1 1 (kdF [(strOfNums [],.iface d (.pointer n))]):=uX _ _ _ _ (v6 _) _ rfl _ rfl;have bg:=iA a3 (fun k b=>I.block k (by have:=cE a3 k b;exact this.2) (fun e=>by simp[rb]at b;omega));have aS:=(bf.below B).onlyS (OnlyS.ofB I) (fun k b e=>by have:=K k b;omega);have p:Hid (RtP P N S X a w (.returned (.pointer (some ⟨w.1.size+1,0,none⟩))) ((j.alloc (.cells [.string (strOfNums []),.iface d (.pointer n)].toArray 239)).setCell ⟨w.1.size,1,none⟩ (.slice (some ⟨j.1.size,0,none⟩) 1 1))):=by
  refine⟨(aT.trans (OnlyS.ofBelow B)).transN (OnlyS.ofB I) (fun k b e=>by omega),vR ⟨some T,w.1.size+1,_,?_,rfl,⟨w.1.size,some ⟨j.1.size,0,none⟩,1,[(strOfNums [],.iface d (.pointer n))],G,rfl,aA,ap,bg,_,rfl,aS⟩,?_,?_,Ge a7 M a0.ok⟩⟩
  ·rw[L.out,show wkT P (N+1) 0 ⟨[], -1⟩ x00 a= _ from M];rfl
  ·intro k b;rcases wS.1 b with rfl|b
   ·omega
   rcases wS.1 b with rfl|b
   ·omega
   rcases w4.1 b with b|b
   ·simp[rb]at b;omega
   ·have:=K k b;omega
  ·exact C.keep _ _ (C.keep _ _ a0.src (B.mono t7) (aV B)) (I.below aX (by have:=B.size;omega)) (aw I A uv)
 clear aT Q an B R A I aA ap a3 bg aS H bf bv bc a0 ab M K;go_wp2_with fail;refine ao c ?_;clear c l;refine ah 7 fun l c=> ?_;refine jZ _ _ rfl (cs:=#[.string (strOfNums []),.iface d (.pointer n)]) ?bk ?_
 case bk=>
  simp only[wz,wg,wv];exact Gd d (.pointer n)
 refine ao c ?_;clear c l;refine ah 8 fun l c=> ?_;refine bU _ _ _ rfl (v:= .slice (some ⟨j.1.size,0,none⟩) 1 1) (w':=j.alloc (.cells [.string (strOfNums []),.iface d (.pointer n)].toArray 239)) ?bs ?_
 case bs=>
  simp only[wz,wg,wv];exact fq mc t7 (.agg #[.string (strOfNums []),.iface d (.pointer n)]) [.string (strOfNums []),.iface d (.pointer n)] rfl rfl j
 refine ao c ?_;clear c l;refine ah 9 fun l c=> ?_;go_wp2_with fail;refine ao c ?_;clear c l;refine ah 10 fun l c=> ?_;go_wp2_with fail;refine ao c ?_;clear c l;refine ah 11 fun l c=> ?_;go_wp2_with fail;refine ao c ?_;clear c l;refine bi ?_;go_wp2_with fail;go_ret;exact p.out
end
section
def al(gen root used free:Int):List Value:=[.int .i64 gen,.int .i64 root,.int .i64 used,.int .i64 free]
def hoC(t p f o:Value):List Value:=[t,p,f,o]
def hoZ:List Value:=hoC (.pointer none) (.slice none 0 0) (.slice none 0 0) (.slice none 0 0)
structure HoQ(N:Nat)(S:World->Prop)(hb:Nat)(o:Option Tr)(fs own:List Int)(w w':World):Prop where
 ex:∃gt F a c a2 c2,Blk w' 102 hb (hoC (.pointer (some ⟨gt,0,none⟩)) (.slice none 0 0) (.slice a fs.length c) (.slice a2 own.length c2))/\TopR w' gt o F/\(∀k∈F,w.1.size<=k)/\Own1 3 w.1.size w' a fs.length c (on fs)/\Own1 3 w.1.size w' a2 own.length c2 (on own)
 src:S w'
 good:pe N o
 lf:fs.length<=65536
 lo:own.length<=1024
def HoP(P:Pg)(N:Nat)(S:World->Prop)(X:Nat->Prop)(hb:Nat)(root free:Int)(w:World)(e:Ending)(w':World):Prop:=
 OnlyS (fun k=>X k\/k=hb) w w'/\((∃o fs own,rtO P N root=some o/\flR P (N+1) free [] []=some (fs,own)/\e= .returned (.tuple #[])/\HoQ N S hb o fs own w w')\/((rtO P N root=none\/flR P (N+1) free [] []=none)/\e= .panicked bI))
variable {S:World->Prop} {X:Nat->Prop} {B0 N ty fn:Nat} {v:Value} {P:Pg}
theorem Blk.keepX{w w' t g xs}(a:Src P B0 ty fn v S X)(h:Blk w t g xs)(b:OnlyS X w w')(c:B0<=g):Blk w' t g xs:=h.onlyS b (fun e=>by have:=a.low g e;omega)
theorem Gg(an:PgW P N)(a0:∀t,(P.bd t).length<=256)(j:Src P B0 ty fn v S X)(sb C f aT d am b w)(F:Blk w 178 sb [.iface ty v])(E:Blk w 36 C (al aT d am b))(l:Blk w 102 f hoZ)(aX:S w)(a9:B0<=sb)(a7:B0<=C)(y:B0<=f)(a6:0<=d)(a4:d<4294967296)(a1:0<=b)(a2:b<4294967296):
 Calls prog 113 #[.pointer (some ⟨sb,0,none⟩),.pointer (some ⟨C,0,none⟩),.pointer (some ⟨f,0,none⟩)] w (HoP P N S X f d b w):=by
 have bl:=l.lt;have bk:B0<=w.1.size:=t7;have aA:=Gf an j d w aX bk a6 a4;have ac:w.cell? ⟨sb,0,none⟩=some (.iface ty v):=F.cell 0;have n:w.cell? ⟨C,1,none⟩=some (.int .i64 d):=E.cell 1;have af:sb≠f:=fun e=>by subst e;unfold Blk at F l;rw[F]at l;cases l
 have ag:C≠f:=fun e=>by subst e;unfold Blk at E l;rw[E]at l;cases l
 have G:=t6 F (vk E l);clear F E l aX;go_enter func113,ntmps113;go_wp2_with fail;refine aA.mono ?_;clear aA ac n;rintro e w1 ⟨s,⟨o,I,bm,a8,rfl,ad,J,bc,a3⟩|⟨q,rfl⟩⟩
 rotate_left
 ·have m:Hid (HoP P N S X f d b w (.panicked bI) w1):=⟨s.mono (fun k _ e=>vR e),vJ ⟨vR q,rfl⟩⟩;clear s q;go_wp2;exact⟨rfl,m.out⟩
 have W:=Blk.keepX j G.out.1 s a9;have U:=Blk.keepX j G.out.2.1 s a7;have r:=Blk.keepX j G.out.2.2 s y;have bv:=s.size;have u:=ax w1 f 0 (.pointer (some ⟨I,0,none⟩));have Y:=W.only u af;have V:=U.only u ag;have R:=r.set 0 (.pointer (some ⟨I,0,none⟩));have aB:=j.keep _ _ bc (u.below y t7) (aw u r uv);have aS:=ad.keep (fun k p=>u.block k (ad.flt k p) (fun e=>by have:=J k p;omega));have bf:=r.cell 0;have bg:=r.free 0;have bx:=u.size;have L:=(s.mono (fun k _ e=>vR e)).transN (OnlyS.ofB u) (fun k _ e=>vJ e);have B:=t6 aS (vk R L);clear W U u R aS L r ad bc s G;go_upto_region 1 with fail
 generalize w1.setCell ⟨f,0,none⟩ (.pointer (some ⟨I,0,none⟩))=ab at*;clear bf bg;have ap:=Fs an a0 j b ab aB t7 a1 a2;have ac:ab.cell? ⟨sb,0,none⟩=some (.iface ty v):=Y.cell 0;have n:ab.cell? ⟨C,3,none⟩=some (.int .i64 b):=V.cell 3;clear Y V aB;go_wp2_with fail;refine ap.mono ?_;clear ap ac n;rintro e K ⟨x,⟨D,A,a,c,H,n,M,a5,ae,rfl,O,Q,bd,ak⟩|⟨q,rfl⟩⟩
 rotate_left
 ·have m:Hid (HoP P N S X f d b w (.panicked bI) K):=⟨B.out.2.2.transN x (fun k _ e=>vR e),vJ ⟨vJ q,rfl⟩⟩;clear x q;go_wp2;exact⟨rfl,m.out⟩
 have g:=Blk.keepX j B.out.2.1 x y;have Z:=B.out.1.keep (fun k p=>x.block k (B.out.1.flt k p) (fun e=>by have:=j.low k e;have:=J k p;omega));have bz:=x.size;have bn:=g.cell 2;have bs:=g.free 2;have ba:=ax K f 2 (.slice a D.length c);have z:=g.set 2 (.slice a D.length c);have br:=z.cell 3;have bu:=z.free 3;have bb:=ax (K.setCell ⟨f,2,none⟩ (.slice a D.length c)) f 3 (.slice H A.length n);have T:=z.set 3 (.slice H A.length n);have i:=ba.trans bb;have m:Hid (HoP P N S X f d b w (.returned (.tuple #[])) ((K.setCell ⟨f,2,none⟩ (.slice a D.length c)).setCell ⟨f,3,none⟩ (.slice H A.length n))):=by
  refine⟨(B.out.2.2.transN x (fun k _ e=>vR e)).transN (OnlyS.ofB i) (fun k _ e=>vJ e),vR ⟨o,D,A,a8,M,rfl,⟨I,bm,a,c,H,n,T,?_,J,?_,?_⟩,?_,a3,a5,ae⟩⟩
  ·exact Z.keep (fun k p=>i.block k (Z.flt k p) (fun e=>by have:=J k p;omega))
  ·exact(O.keep (aw i g uv)).mono t7
  ·exact(Q.keep (aw i g uv)).mono t7
  ·exact j.keep _ _ bd (i.below y t7) (aw i g uv)
 clear g Z ba z bb T i O Q bd ak x M B;go_wp2_with fail;refine B1 (v:= .tuple #[]) (by simp[results,results113]) rfl m.out
end
theorem Gh(b id w)(a:w.cell? ⟨b,0,none⟩=some (.int .i64 id)):
 Calls prog 217 #[.pointer (some ⟨b,0,none⟩)] w fun e w'=>e= .returned (.int .i64 id)/\w'=w:=by
 go_enter func217,ntmps217;go_wp2;go_ret;exact⟨rfl,rfl⟩
theorem Gj(R o a2 w)(h:TopR w R o a2)(N:okO o)(aS:(cN o).length<=1024)(Z:∀id∈cN o,id≠0):
 Calls prog 116 #[.pointer (some ⟨R,0,none⟩)] w fun e w'=> ∃a c,e= .returned (.slice a (cN o).length c)/\Below w.1.size w w'/\Own1 3 w.1.size w' a (cN o).length c (on (srt (cN o))):=by
 have V:=Gb R o a2 w h N aS;generalize cN o=d at*;have an:Hid _:=Z;clear h Z N;go_enter func116,ntmps116;go_wp2_with fail;refine V.mono ?_;rintro e w1 ⟨ap,aB,f,rfl,n⟩;have O:=n.len;have I:Below w.1.size w w1:=⟨n.fr.os,n.fr.tape,n.fr.output,n.fr.size,fun i ad=>n.fr.block i ad (fun e=>by simp[rb]at e)⟩;have Q:=t6 n I;have aX:f.length<=1024:=t7;have G:Hid (f.length=d.length):=O;clear V n I O;go_wp2_with fail;go_loopw [3,9] (fun a0 a1 wr=> ∃(i:Nat)(u:Option Addr)(x:Nat),a0= .slice u i x/\a1= .int .i64 (i:Nat)/\i<=f.length/\Below w.1.size w wr/\(∀t,t≠3->KeepT t w1 wr)/\Own1 3 w.1.size wr u i x (on (d.take i))) (fun _ s _=>f.length-(intOf s).toNat)
 case atStart=>exact⟨0,none,0,rfl,rfl,v6 _,Q.out.2,fun _ _=>KeepT.refl _ _,cQ _ _ _⟩
 case round=>
  obtain⟨i,u,x,rfl,rfl,ad,q,l,g⟩:=hrel;obtain⟨p,af⟩:=aa wr;subst af;have ag:=q.size;have P:=t6 q l;by_cases L:i<f.length
  ·have aT:(i:Int)< (f.length:Int):=t7;have M:Own1 236 w.1.size p ap f.length aB f:=by have:=Q.out.1.own.keep (l _ uv);rwa [wB]at this
   have ab:=Q.out.1.nv i L;obtain⟨a4,rfl,_,_,_,J⟩:=M.at_ t7;have K:=J i L;have y:i<d.length:=by have:=G.out;omega
   have U:Hid (d.take (i+1)=d.take i++[d.getD i 0]):=by
    show d.take (i+1)=d.take i++[d.getD i 0];rw[x2 y];simp[List.getD,y]
   have S:d.getD i 0≠0:=an.out _ (by rw[List.getD,wQ y];exact y4 _);generalize d.getD i 0=id at*;have am:(id==0)=false:=by simp[S]
   generalize f.getD i undef=v at*;have A:=l 263 uv;have z:=l 228 uv;clear J M q l;obtain⟨b,a5,⟨rfl,m⟩|⟨rfl,m⟩⟩:=ab;have ac:p.cell? ⟨b,0,none⟩=some (.int .i64 id):=(m.keepT A).cell 0;clear m A z;unfold lfI at K;have r:=F3 b
   rotate_left
   have ac:p.cell? ⟨b,0,none⟩=some (.int .i64 id):=(m.keepT z).cell 0;clear m A z;unfold inI at K;have r:=F5 b
   all_goals
    have m:=Gh b id p ac;go_wp2_with fail;refine m.mono ?_;rintro e w' ⟨rfl,B⟩;obtain rfl:=B.symm;clear B;go_wp2_with fail;refine m.mono ?_;rintro e w' ⟨rfl,B⟩;obtain rfl:=B.symm;clear B m r;go_wp2_with (at_builtin;refine iF rfl _ _ co rfl w.1.size u i x (on (d.take i)) rfl g (.int .i64 id) rfl rfl t7 t7 ag ?_);intro E aA D C Y H X;have T:=bAl p (.cells #[.int .i64 id] 3);have ak:∀t,t≠3->KeepT t p D:=fun t F=>(aV T).trans (bD (bQ g T) H (D7 F));have j:Hid (Below w.1.size w D/\(∀t,t≠3->KeepT t w1 D)/\Own1 3 w.1.size D (some ⟨E,0,none⟩) (i+1) aA (on (d.take (i+1)))):=⟨P.out.1.trans Y,fun t F=>(P.out.2 t F).trans (ak t F),by rw[U.out,<-fv];exact C⟩;clear C Y H X T ak g;go_wp2_with fail;go_roundw
    case rel=>exact⟨i+1,_,_,rfl,by go_num,t7,j.out.1,j.out.2.1,j.out.2.2⟩
    case measure=>simp[intOf];omega
  ·have ae:i=d.length:=by have:=G.out;omega
   have a3:¬((i:Int)< (f.length:Int)):=t7;subst ae;rw[x8]at g;have W:=xD w.1.size u x d p g t7;clear g q l;go_wp2_with fail;refine W.mono ?_;rintro e D ⟨rfl,E,C⟩;have j:=t6 E C;clear W E C;go_wp2_with fail;go_ret;exact⟨u,x,rfl,P.out.1.grown j.out.1 t7 (fun k e=>(B5 j.out.2 k e).1),j.out.2⟩
section
theorem Gk{N o}(h:pe N o):okO o/\(cN o).length<=N/\∀x∈cN o,x≠0:=by
 cases o with
 |none=>exact⟨trivial,v6 _,fun x hx=>by simp[cN]at hx⟩
 |some T=>
  obtain⟨b,c,d,a⟩:=h;have e:SeenOk (ar T) N:=⟨d,fun x hx=>by have:=a x hx;omega⟩;refine⟨⟨b,c⟩,by show(pgN T).length<=N;rw[(lg T).length_eq];exact e.le,fun x hx=>by have:=a x ((lg T).mem_iff.1 hx);omega⟩
def hoR(P:Pg)(N:Nat)(root free:Int)(M:Nat):Bool:=match rtO P N root,flR P (N+1) free [] []with
 |some o,some p=>eS (srt (cN o)++(p.1++p.2)) M
 |_,_=>false
def hoB(P:Pg)(N:Nat)(pages gen root used free:Int):Bool:=bG gen root used free&&decide (used<=pages)&&hoR P N root free used.toNat
theorem Gl{P N b a M o d c}(e:rtO P N b=some o)(f:flR P (N+1) a [] []=some (d,c)):hoR P N b a M=eS (srt (cN o)++(d++c)) M:=by unfold hoR;rw[e,f]
theorem Gm{P N a b M}(h:rtO P N a=none\/flR P (N+1) b [] []=none):hoR P N a b M=false:=by
 unfold hoR;rcases h with h|h
 ·rw[h]
 ·rw[h];cases rtO P N a<;>rfl
def HiP(P:Pg)(N:Nat)(S:World->Prop)(X:Nat->Prop)(r:Bool)(w:World)(e:Ending)(w':World):Prop:=
 OnlyS X w w'/\(r=true->S w')/\∃cs:List Value,cs.length=4/\(∀u∈cs,u.oneCell'=true)/\e= .returned (.tuple #[.agg cs.toArray,.bool r])
theorem lp:(prog.info? 102).map (·.size)=some 4:=uA
theorem bj:(prog.info? 36).map (·.size)=some 4:=uA
theorem I9:prog.built 102 []=some hoZ.toArray:=uA
theorem jJ:∀u∈hoZ,u.oneCell'=true:=by intro u a;simp[hoZ,hoC]at a;rcases a with rfl|rfl<;>rfl
theorem yf(p a b c n m k i j l):∀u∈hoC (.pointer p) (.slice a n i) (.slice b m j) (.slice c k l),u.oneCell'=true:=by
 intro u d;simp[hoC]at d;rcases d with rfl|rfl|rfl|rfl<;>rfl
variable {S:World->Prop} {X:Nat->Prop} {B0 N ty fn:Nat} {v:Value} {P:Pg}
theorem Gn(cp:PgW P N)(c7:∀t,(P.bd t).length<=256)(U:Src P B0 ty fn v S X)(j l d f b w)(dD:S w)(c5:B0<=w.1.size):
 Calls prog 72 #[.iface ty v,.int .i64 (j:Nat),.agg (al l d f b).toArray] w (HiP P N S X (hoB P N (j:Nat) l d f b) w):=by
 obtain⟨aB,ae⟩:=aa (w.alloc (.cells #[.iface ty v] 178));obtain⟨aS,af⟩:=aa (aB.alloc (.cells (al l d f b).toArray 36));obtain⟨bc,ag⟩:=aa (aS.alloc (.cells hoZ.toArray 102));have cz:Below w.1.size w aB:=by rw[ae];exact bAl _ _
 have cA:Below aB.1.size aB aS:=by rw[af];exact bAl _ _
 have cB:Below aS.1.size aS bc:=by rw[ag];exact bAl _ _
 have cL:aB.1.size=w.1.size+1:=by rw[ae];simp
 have cM:aS.1.size=w.1.size+1+1:=by rw[af];simp[cL]
 have dW:bc.1.size=w.1.size+1+1+1:=by rw[ag];simp[cM]
 have bC:=cA.trans (cB.mono cA.size);have da:=(by rw[ae];exact aq w _ _:Blk aB 178 w.1.size [.iface ty v]).below bC;have cs:=(by rw[af,<-cL];exact aq aB _ _:Blk aS 36 (w.1.size+1) (al l d f b)).below cB;have c8:Blk bc 102 (w.1.size+1+1) hoZ:=by rw[ag,<-cM];exact aq aS _ _
 have ck:=cz.trans (bC.mono cz.size);have dV:(prog.info? 36).map (·.size)=some (al l d f b).toArray.size:=bj;have a8:(prog.info? 102).map (·.size)=some hoZ.toArray.size:=lp;have c1:=pP l d f b bc;have cR:Hid _:=ck;have d6:w.1.size+1+1<bc.1.size:=t7;clear cz cA cB cL cM bC ck dW;go_enter func72,ntmps72;go_upto_region 1 with fail
 change Code.wp _ _ _ _ (((w.alloc (.cells #[.iface ty v] 178)).alloc (.cells (al l d f b).toArray 36)).alloc (.cells hoZ.toArray 102));rw[<-ae,<-af,<-ag];clear ae af ag;go_wp2_with (refine B3 rfl 36 _ rfl (w.1.size+1) rfl 36 (al l d f b).toArray (0,0) _ cs underlying36 rfl dV ?_);refine c1.mono ?_;rintro e Z ⟨rfl,a7⟩;have ca:=da.below a7;have bx:=cs.below a7;have am:=c8.below a7;have bf:=cR.out.trans (a7.mono cR.out.size);have d7:=a7.size;have cW:=U.keep _ _ dD (bf.mono c5) (aV bf);have dk:Z.cell? ⟨w.1.size+1,2,none⟩=some (.int .i64 f):=bx.cell 2;have bB:=du Z (w.1.size+1+1) hoZ.toArray;have aT:=am.setRow hoZ;have ap:Hid (hoB P N (j:Nat) l d f b=false->HiP P N S X (hoB P N (j:Nat) l d f b) w (.returned (.tuple #[.agg hoZ.toArray,.bool false])) (Z.setRow (w.1.size+1+1) hoZ.toArray)):=fun h=>⟨(OnlyS.ofBelow bf).transN (OnlyS.ofB bB) (fun k bk e=>by omega),(fun E=>by rw[h]at E;cases E),hoZ,rfl,jJ,by rw[h]⟩;have ac:=t6 ca (vk bx (vk bf cW));clear c1 da cs c8 a7 ca bf cW bB;cases K:bG l d f b with
 |false=>
  have ad:Hid (hoB P N (j:Nat) l d f b=false):=by show hoB P N (j:Nat) l d f b=false;unfold hoB;rw[K];rfl
  go_wp2_with (first|(refine B4 rfl 102 _ _ rfl (w.1.size+1+1) hoZ.toArray rfl rfl 102 _ am a8 rfl (df jJ) ?_));refine B1 (v:= .tuple #[.agg hoZ.toArray,.bool false]) ?_ rfl (ap.out ad.out);exact cI results72 _ _ (w.1.size+1+1) 102 hoZ.toArray _ rfl aT underlying102 rfl a8 rfl
 |true=>
  have a4:iK l f=true/\nmB f d=true/\nmB f b=true:=by
   unfold bG at K;rw[wR,wR]at K;exact K
  obtain⟨eb,ef,u1,u2⟩:=C1 a4.1;have dc:=C1 a4.2.1;have db:=C1 a4.2.2;by_cases br:f<=(j:Int)
  rotate_left
  ·have cr:(j:Int)<f:=t7;have ad:Hid (hoB P N (j:Nat) l d f b=false):=by show hoB P N (j:Nat) l d f b=false;unfold hoB;rw[K,CC br];rfl
   clear br;go_wp2_with (first|(refine B4 rfl 102 _ _ rfl (w.1.size+1+1) hoZ.toArray rfl rfl 102 _ am a8 rfl (df jJ) ?_));refine B1 (v:= .tuple #[.agg hoZ.toArray,.bool false]) ?_ rfl (ap.out ad.out);exact cI results72 _ _ (w.1.size+1+1) 102 hoZ.toArray _ rfl aT underlying102 rfl a8 rfl
  have cr:¬(j:Int)<f:=t7;have a1:Hid (hoB P N (j:Nat) l d f b=hoR P N d b f.toNat):=by
   show hoB P N (j:Nat) l d f b= _;unfold hoB;rw[K,CH br];rfl
  obtain⟨M,rfl⟩:∃M:Nat,f=(M:Int):=⟨f.toNat,t7⟩;rw[Int.toNat_natCast]at a1;clear ap K a4 aT;obtain⟨n,bg⟩:=aa Z.1.size;obtain⟨J,a2⟩:=aa (Z.alloc (.cells hoZ.toArray 102));have an:Below Z.1.size Z J:=by rw[a2];exact bAl _ _
  have bu:Blk J 102 n hoZ:=by rw[a2,bg];exact aq Z _ _
  have cb:=ac.out.1.below an;have bz:=ac.out.2.1.below an;have c9:=am.below an;have cX:=U.keep _ _ ac.out.2.2.2 (an.mono t7) (aV an);have c4:=ac.out.2.2.1.trans (an.mono t7);have bR:=Gg cp c7 U w.1.size (w.1.size+1) n l d (M:Nat) b J cb bz bu cX c5 t7 t7 t7 t7 t7 t7;have d8:w.1.size+1+1<n:=t7;have dP:=bu.lt;have aA:=t6 c4 (vk bz (vk c9 an));clear an bu cb bz cX c4 ac;go_upto_region 4 with fail
  change Code.wp _ _ _ _ (Z.alloc (.cells hoZ.toArray 102));rw[<-a2,<-bg];clear a2 bg am dk bx;by_cases W:∃o p,rtO P N d=some o/\flR P (N+1) b [] []=some p
  rotate_left
  ·have b2:rtO P N d=none\/flR P (N+1) b [] []=none:=by
    cases G:rtO P N d with
    |none=>exact vR rfl
    |some o=>
     cases E:flR P (N+1) b [] []with
     |none=>exact vJ rfl
     |some p=>exact absurd ⟨o,p,G,E⟩ W
   have cS:Calls prog 113 #[.pointer (some ⟨w.1.size,0,none⟩),.pointer (some ⟨w.1.size+1,0,none⟩),.pointer (some ⟨n,0,none⟩)] J fun e w'=>e= .panicked bI/\OnlyS (fun k=>X k\/k=n) J w':=bR.mono (by
    rintro e w' ⟨o,⟨cv,q,m,G,E,_⟩|⟨_,bS⟩⟩
    ·exact absurd ⟨cv,_,G,E⟩ W
    ·exact⟨bS,o⟩)
   have bb:=Bt 113 _ J (OnlyS (fun k=>X k\/k=n) J) (fun _=>rfl) cS;have ad:Hid (hoB P N (j:Nat) l d (M:Nat) b=false):=by show hoB P N (j:Nat) l d (M:Nat) b=false;rw[a1.out];exact Gm b2
   clear bR cS W b2;go_wp2_with fail;refine B8 bb ?_;rintro e bF ⟨rfl,cD,Y,D⟩;have R:¬(X (w.1.size+1+1)\/w.1.size+1+1=n):=fun e=>by
    rcases e with e|e
    ·have:=U.low _ e;omega
    ·omega
   have b8:=(aA.out.2.2.1.onlyS Y R).below D;have bB:=du bF (w.1.size+1+1) hoZ.toArray;have aT:=b8.setRow hoZ;have a9:Hid (HiP P N S X (hoB P N (j:Nat) l d (M:Nat) b) w (.returned (.tuple #[.agg hoZ.toArray,.bool false])) (bF.setRow (w.1.size+1+1) hoZ.toArray)):=⟨(((OnlyS.ofBelow aA.out.1).transN Y (fun k bk e=>by rcases e with e|e;exact e;omega)).trans (OnlyS.ofBelow D)).transN (OnlyS.ofB bB) (fun k bk e=>by omega),(fun E=>by rw[ad.out]at E;cases E),hoZ,rfl,jJ,by rw[ad.out]⟩;clear bb Y D aA bB R;go_wp2_with (first|(refine B4 rfl 102 _ _ rfl (w.1.size+1+1) hoZ.toArray rfl rfl 102 _ b8 a8 rfl (df jJ) ?_));refine B1 (v:= .tuple #[.agg hoZ.toArray,.bool false]) ?_ rfl a9.out;exact cI results72 _ _ (w.1.size+1+1) 102 hoZ.toArray _ rfl aT underlying102 rfl a8 rfl
  obtain⟨o,⟨q,m⟩,a5,a3⟩:=W;have cT:Calls prog 113 #[.pointer (some ⟨w.1.size,0,none⟩),.pointer (some ⟨w.1.size+1,0,none⟩),.pointer (some ⟨n,0,none⟩)] J fun e w'=>e= .returned (.tuple #[])/\(OnlyS (fun k=>X k\/k=n) J w'/\HoQ N S n o q m J w'):=bR.mono (by
   rintro e w' ⟨cv,⟨ej,dX,dU,G,E,bS,ak⟩|⟨G|G,bS⟩⟩
   ·rw[a5]at G;rw[a3]at E;cases G;cases E;exact⟨bS,cv,ak⟩
   ·rw[a5]at G;cases G
   ·rw[a3]at G;cases G)
  have bb:=Br 113 _ J _ (fun _=>rfl) cT;have ds:Hid (hoB P N (j:Nat) l d (M:Nat) b=eS (srt (cN o)++(q++m)) M):=by show hoB P N (j:Nat) l d (M:Nat) b= _;rw[a1.out];exact Gl a5 a3
  clear bR cT a5 a3 a1;go_wp2_with fail;refine B8 bb ?_;rintro e cD ⟨rfl,Y,ak⟩;clear bb;obtain⟨I,ea,a,c,A,B,bv,c2,ad,cc,cf⟩:=ak.ex;obtain⟨bm,cq,bl⟩:=Gk ak.good;have d2:=ak.lf;have d3:=ak.lo;have cV:=Gj I o ea cD c2 bm (by have:=cp.le;omega) bl;have dl:cD.cell? ⟨n,0,none⟩=some (.pointer (some ⟨I,0,none⟩)):=bv.cell 0;have ek:=Y.size;have R:∀g,B0<=g->g≠n->¬(X g\/g=n):=fun g G E e=>by
   rcases e with e|e
   ·have:=U.low _ e;omega
   ·exact E e
  have b5:=aA.out.2.1.onlyS Y (R _ t7 t7);have b7:=aA.out.2.2.1.onlyS Y (R _ t7 t7);have bZ:=(OnlyS.ofBelow aA.out.1).transN Y (fun k bk e=>by rcases e with e|e;exact e;omega);have ab:=t6 bv (vk cc (vk cf (vk b5 (vk b7 (vk bZ ak.src)))));have d4:(cN o).length<=1024:=by have:=cp.le;omega
  have bT:Hid ((srt (cN o)).length=(cN o).length):=iX _;clear bv c2 ad cc cf b5 b7 bZ ak bm cq bl aA Y R;go_upto_region 8 with fail
  refine cV.mono ?_;rintro e bF ⟨r,s,rfl,D,ch⟩;clear cV;have H:=ab.out.1.below D;have dp:=H.cell 1;have dr:=H.free 1;generalize d5:(cN o).length=x at*;have L:=ax bF n 1 (.slice r x s);have b4:=H.set 1 (.slice r x s);have ce:=(ab.out.2.1.below D).keep (aw L H uv);have cg:=(ab.out.2.2.1.below D).keep (aw L H uv);have cj:=ch.keep (aw L H uv);have b6:=(ab.out.2.2.2.1.below D).only L t7;have b9:=(ab.out.2.2.2.2.1.below D).only L t7;have em:=D.size;have b0:=(ab.out.2.2.2.2.2.1.trans (OnlyS.ofBelow D)).transN (OnlyS.ofB L) (fun k bk e=>by omega);have c0:=U.keep _ _ (U.keep _ _ ab.out.2.2.2.2.2.2 (D.mono t7) (aV D)) (L.below t7 t7) (aw L H uv);have en:=L.size;have y:=t6 b4 (vk ce (vk cg (vk cj (vk b6 (vk b9 (vk b0 c0))))));clear H L b4 ce cg cj b6 b9 b0 c0 ch D ab dl;go_upto_region 8 with fail
  generalize bF.setCell ⟨n,1,none⟩ (.slice r x s)=z at*;clear dp dr;have C:z.drew.cell? ⟨n,0,none⟩=some (.pointer (some ⟨I,0,none⟩))/\z.drew.cell? ⟨n,1,none⟩=some (.slice r x s)/\z.drew.cell? ⟨n,2,none⟩=some (.slice a q.length c)/\z.drew.cell? ⟨n,3,none⟩=some (.slice A m.length B)/\z.drew.cell? ⟨w.1.size+1,2,none⟩=some (.int .i64 (M:Nat)):=⟨Blk.cell y.out.1 0,Blk.cell y.out.1 1,Blk.cell y.out.1 2,Blk.cell y.out.1 3,Blk.cell y.out.2.2.2.2.1 2⟩;have d1:n<z.1.size:=t7;have ba:Hid (∀u,Below z.1.size z u->u.cell? ⟨n,0,none⟩=some (.pointer (some ⟨I,0,none⟩))/\u.cell? ⟨n,1,none⟩=some (.slice r x s)/\u.cell? ⟨n,2,none⟩=some (.slice a q.length c)/\u.cell? ⟨n,3,none⟩=some (.slice A m.length B)/\u.cell? ⟨w.1.size+1,2,none⟩=some (.int .i64 (M:Nat))):=fun u bn=>⟨Blk.cell (y.out.1.below bn) 0,Blk.cell (y.out.1.below bn) 1,Blk.cell (y.out.1.below bn) 2,Blk.cell (y.out.1.below bn) 3,Blk.cell (y.out.2.2.2.2.1.below bn) 2⟩;refine az (fun u=>u.cell? ⟨n,0,none⟩=some (.pointer (some ⟨I,0,none⟩))/\u.cell? ⟨n,1,none⟩=some (.slice r x s)/\u.cell? ⟨n,2,none⟩=some (.slice a q.length c)/\u.cell? ⟨n,3,none⟩=some (.slice A m.length B)/\u.cell? ⟨w.1.size+1,2,none⟩=some (.int .i64 (M:Nat))) (fun k=>decide (12<=k)) uA ?_;refine ai 0 C ?_;refine ai 1 C ?_;refine ai 2 C ?_;refine ai 3 C ?_;refine ai 4 C ?_;refine ai 5 C ?_;refine ai 6 C ?_;refine ai 9 C ?_;refine ai 10 C ?_;refine ah 7 fun V F=> ?_;go_wp2_with fail;have a0:Below z.1.size z (z.alloc (.cells #[.slice r x s,.slice a q.length c,.slice A m.length B] 100)).drew:=(bAl _ _).drew;refine F.out _ _ (fun _=>ba.out _ a0) ?_;clear F V;have bs:Blk (z.alloc (.cells #[.slice r x s,.slice a q.length c,.slice A m.length B] 100)).drew 100 z.1.size [.slice r x s,.slice a q.length c,.slice A m.length B]:=aq z 100 #[.slice r x s,.slice a q.length c,.slice A m.length B];generalize (z.alloc (.cells #[.slice r x s,.slice a q.length c,.slice A m.length B] 100)).drew=c3 at*;generalize T:z.1.size=dS at*;have cm:=Fc dS 0 3 3 (fun i=>[r,a,A].getD i none) (fun i=>[x,q.length,m.length].getD i 0) (fun i=>[s,c,B].getD i 0) (fun i=>[srt (cN o),q,m].getD i []) c3 bs.lt t7
   (fun i dE=>by
 have:i=0\/i=1\/i=2:=t7;rcases this with rfl|rfl|rfl
 ·exact bs.cell 0
 ·exact bs.cell 1
 ·exact bs.cell 2)
   (fun i dE=>by
 have:i=0\/i=1\/i=2:=t7;rcases this with rfl|rfl|rfl
 ·exact(y.out.2.2.2.1.below (by rw[T];exact a0)).mono (v6 _)
 ·exact(y.out.2.1.below (by rw[T];exact a0)).mono (v6 _)
 ·exact(y.out.2.2.1.below (by rw[T];exact a0)).mono (v6 _))
   (by simp[dg,bT.out];omega)
  rw[show dg (fun i=>[srt (cN o),q,m].getD i []) 3=srt (cN o)++(q++m)by simp[dg]]at cm;have c6:(srt (cN o)++(q++m)).length<=1048576:=by rw[v7,v7,bT.out];omega
  generalize srt (cN o)++(q++m)=cn at*;have bW:Hid _:=a0;have d9:=a0.size;clear bs a0;refine ah 8 fun V F=> ?_;go_wp2_with fail;refine cm.mono ?_;rintro e cl ⟨dd,dq,rfl,bd,bA⟩;have bY:=bW.out.trans (bd.mono t7);have cP:=Fv c3.1.size dd dq cn M cl bA c6 t7;have O:=t6 bY bA;have dF:=bd.size;clear cm bY bd bA bW;go_wp2_with fail;refine F.out _ _ (fun _=>ba.out _ O.out.1) ?_;clear F V;refine ah 11 fun V F=> ?_;go_wp2_with fail;refine cP.mono ?_;rintro e bE ⟨rfl,b1⟩;have Q:=O.out.1.grown b1 t7 (fun k e=>by have:=(B5 O.out.2 k e).1;omega);have b3:KeepT 5 cl bE:=bD O.out.2 b1 uv;have aX:=y.out.2.2.2.2.2.1.below (by rw[T];exact Q);have bX:=U.keep _ _ y.out.2.2.2.2.2.2.2 (Q.mono t7) ((aV (by rw[T];exact O.out.1)).trans b3);have a6:=du bE (w.1.size+1+1) (hoC (.pointer (some ⟨I,0,none⟩)) (.slice r x s) (.slice a q.length c) (.slice A m.length B)).toArray;have aT:=aX.setRow (hoC (.pointer (some ⟨I,0,none⟩)) (.slice r x s) (.slice a q.length c) (.slice A m.length B));have dI:=Q.size;have a9:Hid (HiP P N S X (hoB P N (j:Nat) l d (M:Nat) b) w (.returned (.tuple #[.agg (hoC (.pointer (some ⟨I,0,none⟩)) (.slice r x s) (.slice a q.length c) (.slice A m.length B)).toArray,.bool (eS cn M)])) (bE.setRow (w.1.size+1+1) (hoC (.pointer (some ⟨I,0,none⟩)) (.slice r x s) (.slice a q.length c) (.slice A m.length B)).toArray)):=by
   refine⟨(y.out.2.2.2.2.2.2.1.trans (OnlyS.ofBelow (by rw[T];exact Q))).transN (OnlyS.ofB a6) (fun k bk e=>by omega),fun _=>U.keep _ _ bX (a6.below t7 t7) (aw a6 aX uv),_,rfl,?_,by rw[ds.out]⟩;exact yf _ _ _ _ _ _ _ _ _ _
  have bP:=ba.out _ Q;clear cP Q b3 bX a6 O;go_wp2_with fail;refine ao F ?_;clear F V bP;refine ah 12 fun V F=> ?_;refine wp_store_row 102 _ _ rfl (w.1.size+1+1) (hoC (.pointer (some ⟨I,0,none⟩)) (.slice r x s) (.slice a q.length c) (.slice A m.length B)).toArray rfl rfl 102 _ aX lp rfl (df (yf _ _ _ _ _ _ _ _ _ _)) ?_;refine ao F ?_;clear F V;refine ah 13 fun V F=> ?_;go_wp2_with fail;refine ao F ?_;clear F V;refine bi ?_;clear C;go_wp2_with fail;refine B1 (v:= .tuple #[.agg (hoC (.pointer (some ⟨I,0,none⟩)) (.slice r x s) (.slice a q.length c) (.slice A m.length B)).toArray,.bool (eS cn M)]) ?_ rfl a9.out;exact cI results72 _ _ (w.1.size+1+1) 102 (hoC (.pointer (some ⟨I,0,none⟩)) (.slice r x s) (.slice a q.length c) (.slice A m.length B)).toArray _ rfl aT underlying102 rfl lp rfl
end
