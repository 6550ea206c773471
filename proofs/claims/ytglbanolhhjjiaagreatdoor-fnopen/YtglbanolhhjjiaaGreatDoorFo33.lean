import Derived.Test.YtglbanolhhjjiaaGreatDoorFo26
namespace Go.Proofs.YtglbanolhhjjiaaGreatDoor
open Go.Proofs.Tryz
open Go.RowKit
set_option linter.unusedVariables false
set_option maxRecDepth 100000
set_option maxHeartbeats 32000000
theorem F3(b w):(Go.method 428 260 (.pointer (some ⟨b,0,none⟩)) "loop.example/s01906/impl.page").run prog w= .ok (217,.pointer (some ⟨b,0,none⟩)) w:=vk
theorem F5(b w):(Go.method 428 223 (.pointer (some ⟨b,0,none⟩)) "loop.example/s01906/impl.page").run prog w= .ok (217,.pointer (some ⟨b,0,none⟩)) w:=vk
def TopR(w:World)(gt:Nat)(o:Option Tr)(F:List Nat):Prop:= ∃gi a c us G,F=gt::gi::(rb a++G)/\Blk w 230 gt [.pointer (some ⟨gi,0,none⟩)]/\Blk w 228 gi [.int .i64 0,.slice a us.length c]/\ORow 239 2 0 w a us.length c (kdF us)/\
 match o with
 |none=>us=[]/\G=[]
 |some T=> ∃v,us=[(strOfNums [],v)]/\IRep w T G [(strOfNums [],v)]
theorem TopR.keep{w w' f o j}(h:TopR w f o j)(d:∀k∈j,w'.heap[k]?=w.heap[k]?):TopR w' f o j:=by
 obtain⟨g,a,c,us,G,rfl,l,m,n,i⟩:=h;refine⟨g,a,c,us,G,rfl,(d f vo).trans l,(d g vo).trans m,iA n (fun k b=>d k (by simp[b])),?_⟩;cases o with
 |none=>exact i
 |some T=>
  obtain⟨v,e,p⟩:=i;exact⟨v,e,p.keep (fun k b=>d k (by simp[b]))⟩
def cN:Option Tr->List Int
 |none=>[]
 |some T=>pgN T
def okO:Option Tr->Prop
 |none=>True
 |some T=>isT T=true/\full T true
theorem TopR.flt{w f o m}(h:TopR w f o m):∀k∈m,k<w.1.size:=by
 obtain⟨n,a,c,us,G,rfl,g,i,j,d⟩:=h;intro k b;rcases w3.1 b with rfl|b
 ·exact g.lt
 rcases w3.1 b with rfl|b
 ·exact i.lt
 rcases w6.1 b with b|b
 ·exact(cE j k b).2
 ·cases o with
  |none=>rw[d.2]at b;cases b
  |some T=>
   obtain⟨v,e,l⟩:=d;exact l.lt k b
def LO:Option Tr->List (ByteArray×Tr)
 |none=>[]
 |some T=>[(strOfNums [],T)]
theorem F7(o):dO (LO o)=cN o:=by cases o<;>simp[LO,dO,cN]
theorem NsQ.trans0{B w wr f w' a g i k j b c e d}(h:NsQ B w a 0 [] e g k b wr)(q:Below wr.1.size wr f)(l:NsQ B f g b.length b d i j c w'):NsQ B w a 0 [] (e++d) i j (b++c) w':=
 h.trans q (by rw[wE];exact l)
theorem Gb(R o bd w)(h:TopR w R o bd)(C:okO o)(a5:(cN o).length<=1024):
 Calls prog 149 #[.pointer (some ⟨R,0,none⟩)] w fun e w'=> ∃a c b,e= .returned (.slice a b.length c)/\NsQ w.1.size w none 0 [] (cN o) a c b w':=by
 obtain⟨Z,V,Y,us,G,rfl,ab,J,hrow,l⟩:=h;have ag:us.length=(LO o).length:=by
  cases o with
  |none=>rw[l.1];rfl
  |some T=>obtain⟨v,e,_⟩:=l;rw[e];rfl
 have m:∀i,i<us.length->∃A,IRep w ((LO o).getD i t0).2 A [(strOfNums [],(us.getD i k0).2)]:=fun i d=>by
  cases o with
  |none=>rw[l.1]at d;exact absurd d (xN _)
  |some T=>
   obtain⟨v,e,h⟩:=l;subst e;have:i=0:=by simp at d;exact d
   subst this;exact⟨G,h⟩
 have Q:∀i,i< (LO o).length->NsC ((LO o).getD i t0).2:=fun i d=>by
  cases o with
  |none=>exact absurd d (xN _)
  |some T=>
   have:i=0:=by simp[LO]at d;exact d
   subst this;exact(oP T).1 C.1 C.2
 have a8:us.length<=1:=by rw[ag];cases o<;>simp[LO]
 rw[<-F7 o]at a5 ⊢;generalize LO o=L at*;have bf:w.cell? ⟨R,0,none⟩=some (.pointer (some ⟨Z,0,none⟩)):=ab.cell 0;have bg:w.cell? ⟨Z,1,none⟩=some (.slice V us.length Y):=J.cell 1;have ac:NsQ w.1.size w none 0 [] (dO (L.take 0)) none 0 [] w:=⟨cQ _ _ _,OnlyS.refl _ _,fun k a4 _=>a4,fun _ _=>KeepT.refl _ _,rfl,fun i d=>absurd d (xN _)⟩;have aB:Hid _:=ac;have D:∀i,i<us.length->(us.getD i k0).2.oneCell'=true:=fun i d=>by
  obtain⟨A,h⟩:=m i d;obtain⟨n,p,a2,e,_⟩:=Q i uA _ A w 0 none 0 0 [] h (cQ _ _ _) (wa _) (by have:=oJ L i uA;have J:=lh L (i+1);rw[this,wb]at J;omega);rw[e]
  rfl
 have x:=uv hrow (vJ m (vJ Q D));clear ac ab J hrow m Q D l C;go_enter func149,ntmps149;go_wp2_with fail;go_loopw [3,14] (fun ba ap wr=> ∃(i:Nat)(y:Option Addr)(z:Nat)(b:List Value),ba= .slice y b.length z/\ap= .int .i64 (i:Nat)/\i<=us.length/\NsQ w.1.size w none 0 [] (dO (L.take i)) y z b wr) (fun _ s _=>us.length-(intOf s).toNat)
 case atStart=>exact⟨0,none,0,[],rfl,rfl,wa _,aB.out⟩
 case round=>
  obtain⟨i,y,z,b,rfl,rfl,d,g⟩:=hrel;obtain⟨f,ak⟩:=aa wr;subst ak;have H:=g.len;have bc:=g.fr.size;by_cases P:i<us.length
  ·have a6:(i:Int)< (us.length:Int):=uA;have E:=oJ L i uA;have af:=lh L (i+1);rw[E,wb]at af;have F:ORow 239 2 0 f V us.length Y (kdF us):=cw x.out.1 (g.keep _ uB);obtain⟨an,rfl,_,bb⟩:=oy F uA;have r:=fun j v a9=>(F.reads (xy us _ x.out.2.2.2)).cells i P j v a9;rw[show kdF us i=[.string (us.getD i k0).1,(us.getD i k0).2]from rfl]at r;obtain⟨A,N⟩:=x.out.2.1 i P;have M:=x.out.2.2.1 i uA;generalize us.getD i k0=a1 at*;obtain⟨sg,u⟩:=a1;have I:=bAl f (.cells #[.string sg,u] 239);have t:Own1 236 w.1.size f y b.length z b:=by have:=g.own;rwa [wE]at this
   obtain⟨n,p,a2,a7,aA,a3,q⟩:=M u A (f.alloc (.cells #[.string sg,u] 239)) w.1.size y b.length z b ((N.keepN g.keep).below I) (t.below I) (by have:=I.size;omega) (by rw[H];omega);subst a7;have W:f.cell? ⟨an,i*2,none⟩=some (.string sg):=by have:=r 0 _ rfl;simpa using this
   have X:f.cell? ⟨an,i*2+1,none⟩=some (.iface n (.pointer p)):=by have:=r 1 _ rfl;simpa using this
   have am:=aq f 239 #[.string sg,.iface n (.pointer p)];have B:=uv g (vJ I E);clear r N M F g I E x H t;go_upto_region 5 with(first|(refine bt rfl 239 _ _ rfl f #[.string (strOfNums []),.nilIface] #[.string sg,.iface n (.pointer p)] 239 rfl rfl xx rfl rfl ?_))
   change Code.wp _ _ _ _ (f.alloc (.cells #[.string sg,.iface n (.pointer p)] 239));generalize f.alloc (.cells #[.string sg,.iface n (.pointer p)] 239)=aS at*;generalize ad:f.1.size=a0 at*;have bk:aS.cell? ⟨a0,1,none⟩=some (.iface n (.pointer p)):=Blk.cell am 1;clear am W X;go_wp2_with fail;refine q.mono ?_;rintro e bl ⟨aT,aX,K,rfl,O⟩;have S:=B.out.1.trans0 (by rw[ad];exact B.out.2.1) O;rw[<-B.out.2.2]at S;have U:Hid _:=S;clear q O S;go_wp2_with fail;go_roundw
   case rel=>exact⟨i+1,aT,aX,b++K,by rw[wb],by go_num,uA,U.out⟩
   case measure=>simp[intOf];omega
  ·have ae:i=L.length:=uA;have B:Hid (NsQ w.1.size w none 0 [] (dO L) y z b f):=by have:=g;rw[ae,ya]at this;exact this
   clear g x H;go_wp2_with fail;go_ret;exact⟨_,_,b,rfl,B.out⟩
section
theorem I5:prog.built 228 []=some #[.int .i64 0,.slice none 0 0]:=vk
theorem I6(p):prog.built 230 [(0,.pointer p)]=some #[.pointer p]:=vk
theorem I7(a:Nat)(v m):prog.built 234 [(0,.iface a v),(1,.map (some m)),(2,.int .i64 (-1))]=some #[.iface a v,.map (some m),.int .i64 (-1),.string (strOfNums []),.string (strOfNums [])]:=vk
theorem Gd(a:Nat)(v):prog.built 239 [(1,.iface a v)]=some #[.string (strOfNums []),.iface a v]:=vk
def x00:LSg:=(strOfNums [],strOfNums [])
def rtO(P:Pg)(N:Nat)(root:Int):Option (Option Tr):=if root=0 then some none else(wkT P (N+1) 0 ⟨[], -1⟩ x00 root).map fun y=>some y.1
def pe(N:Nat):Option Tr->Prop
 |none=>True
 |some T=>isT T=true/\full T true/\(ar T).Nodup/\∀x∈ar T,2<=x/\x< (N:Int)
def RtP(P:Pg)(N:Nat)(S:World->Prop)(X:Nat->Prop)(root:Int)(w:World)(e:Ending)(w':World):Prop:=
 OnlyS X w w'/\((∃o gt F,rtO P N root=some o/\e= .returned (.pointer (some ⟨gt,0,none⟩))/\TopR w' gt o F/\(∀k∈F,w.1.size<=k)/\S w'/\pe N o)\/(rtO P N root=none/\e= .panicked bI))
variable {S:World->Prop} {X:Nat->Prop} {B0 N ty fn:Nat} {v:Value} {P:Pg}
theorem Ge(g:PgW P N){f a T d n}(h:wkT P f 0 ⟨[], -1⟩ x00 a=some (T,d,n))(j:SeenOk d.seen N):pe N (some T):=by
 unfold wkT at h;cases c:rdT P f 0 ⟨[], -1⟩ a with
 |none=>rw[c]at h;cases h
 |some y=>
  rw[c]at h;obtain⟨o,k,e⟩:=x5.1 h;obtain⟨l,m⟩:=y;cases e;have b:=iW g f 0 ⟨[], -1⟩ a _ _ c;refine⟨b.isT,b.full,?_,b.pgs⟩;have i:=b.seen.nodup_iff.1 j.nodup;rwa [wP]at i
theorem Gf(a7:PgW P N)(C:Src P B0 ty fn v S X)(a w)(bu:S w)(aX:B0<=w.1.size)(bb:0<=a)(ba:a<4294967296):
 Calls prog 114 #[.iface ty v,.int .i64 a] w (RtP P N S X a w):=by
 obtain⟨D,q⟩:=aa (w.alloc (.cells #[.int .i64 0,.slice none 0 0] 228));obtain⟨E,r⟩:=aa (D.alloc (.cells #[.pointer (some ⟨w.1.size,0,none⟩)] 230));have Y:Below w.1.size w D:=by rw[q];exact bAl _ _
 have Z:Below D.1.size D E:=by rw[r];exact bAl _ _
 have ac:D.1.size=w.1.size+1:=by rw[q];simp
 have ad:E.1.size=w.1.size+1+1:=by rw[r];simp[ac]
 have kI:=(by rw[q];exact aq w _ _:Blk D 228 w.1.size [.int .i64 0,.slice none 0 0]).below Z;have W:Blk E 230 (w.1.size+1) [.pointer (some ⟨w.1.size,0,none⟩)]:=by rw[r,<-ac];exact aq D _ _
 have o:=Y.trans (Z.mono Y.size);have U:=C.keep _ _ bu (o.mono aX) (aV o);by_cases V:a=0
 ·have L:Hid (rtO P N a=some none):=by show rtO P N a=some none;unfold rtO;rw[B4 V]
  have p:Hid (RtP P N S X a w (.returned (.pointer (some ⟨w.1.size+1,0,none⟩))) E):=⟨OnlyS.ofBelow o,v7 ⟨none,w.1.size+1,[w.1.size+1,w.1.size],L.out,rfl,⟨w.1.size,none,0,[],[],rfl,W,kI,lJ _ _ _ _ _,rfl,rfl⟩,fun k b=>by simp at b;omega,U,trivial⟩⟩;clear Y Z ac ad kI W o U L;subst V;go_enter func114,ntmps114;go_wp2_with fail;go_ret;rw[r,q]at p;exact p.out
 have bA:(a==0)=false:=by simp[V]
 have L:Hid (rtO P N a=(wkT P (N+1) 0 ⟨[], -1⟩ x00 a).map fun y=>some y.1):=by show rtO P N a= _;unfold rtO;rw[CH V]
 obtain⟨F,t⟩:=aa (E.alloc (Obj.map #[] 0));obtain⟨f,z⟩:=aa (F.alloc (.cells #[.iface ty v,.map (some (w.1.size+1+1)),.int .i64 (-1),.string (strOfNums []),.string (strOfNums [])] 234));have a1:Below E.1.size E F:=by rw[t];exact bAl _ _
 have a2:Below F.1.size F f:=by rw[z];exact bAl _ _
 have a4:F.1.size=w.1.size+1+1+1:=by rw[t];simp[ad]
 have bm:f.1.size=w.1.size+1+1+1+1:=by rw[z];simp[a4]
 have s:=a1.trans (a2.mono a1.size);have bd:Blk f 234 (w.1.size+1+1+1) (wkc (.iface ty v) (w.1.size+1+1) (-1) x00):=by rw[z,<-a4];exact aq F _ _
 have bl:SetI f (w.1.size+1+1) []:=by
  have e:SetI F (w.1.size+1+1) []:=⟨.map [],by rw[t,<-ad];exact World.ownsMap_made _ _ _ _,fun i=>by rfl⟩;exact e.same (a2.block _ uA)
 have a8:=C.keep _ _ U (s.mono uA) (aV s);have ak:Wk S B0 (w.1.size+1+1+1) (w.1.size+1+1) N (.iface ty v) f ⟨[], -1⟩ x00:=⟨bd,bl,a8,uA,uA,⟨y6,fun x hx=>by simp at hx⟩⟩;have aB:=o.trans (s.mono o.size);have am:=kI.below s;have O:=W.below s;have a6:=xq (g:=w.1.size+1+1+1) (m:=w.1.size+1+1) a7 C (N+1) 0 a ⟨[], -1⟩ x00 f.drew (ak.below C ⟨rfl,rfl,rfl,t6,fun _ _=>rfl⟩) uA (wa _) bb ba;have af:= @run_makeMap prog;have ae:=fun k e=>wQ (C.low k e) aX;have J:=uv aB (vJ am ae);have cs:f.drew.cell? ⟨w.1.size+1,0,none⟩=some (.pointer (some ⟨w.1.size,0,none⟩)):=O.cell 0;have a5:Hid (Blk f 230 (w.1.size+1) [.pointer (some ⟨w.1.size,0,none⟩)]):=O;have a9:Hid _:=bm;clear Y Z ac ad a4 bm kI W o U a1 a2 s bd bl a8 ak aB am O ae;go_enter func114,ntmps114;go_upto_region 4 with fail
 change Code.wp _ _ _ _ ((((w.alloc (.cells #[.int .i64 0,.slice none 0 0] 228)).alloc (.cells #[.pointer (some ⟨w.1.size,0,none⟩)] 230)).alloc (Obj.map #[] 0)).alloc (.cells #[.iface ty v,.map (some (w.1.size+1+1)),.int .i64 (-1),.string (strOfNums []),.string (strOfNums [])] 234));rw[<-q,<-r,<-t,<-z];clear q r t z af;obtain⟨bW,bC⟩:=aa w.1.size;obtain⟨bX,bE⟩:=aa (w.1.size+1);obtain⟨bY,af⟩:=aa (w.1.size+1+1);obtain⟨bT,bB⟩:=aa (w.1.size+1+1+1);refine az (fun u=>u.cell? ⟨w.1.size+1,0,none⟩=some (.pointer (some ⟨w.1.size,0,none⟩))) (fun k=>decide (9<=k)) vk ?_;refine ai 0 cs ?_;refine ai 1 cs ?_;refine ai 2 cs ?_;refine ai 3 cs ?_;refine ai 4 cs ?_;refine ai 5 cs ?_;refine ah 6 fun l c=> ?_;go_wp2_with fail;refine CC a6 ?_;rintro e j ⟨H,⟨T,bP,bZ,G,d,n,M,rfl,bf,bv,bc,a0,ab⟩|⟨ag,rfl⟩⟩
 rotate_left
 ·have ab:=((OnlyS.ofBelow J.out.1:OnlyS X w f).drew).transN H (fun k b e=>by rcases e with e|e|e;exact e;omega;omega);have p:Hid (RtP P N S X a w (.panicked bI) j):=⟨ab,v6 ⟨by rw[L.out,show wkT P (N+1) 0 ⟨[], -1⟩ x00 a=none from ag];rfl,rfl⟩⟩;clear ab H ag;go_wp2;exact⟨rfl,p.out⟩
 clear a6;have aT:=((OnlyS.ofBelow J.out.1:OnlyS X w f).drew).transN H (fun k b e=>by rcases e with e|e|e;exact e;omega;omega);have Q:=Blk.onlyS (show Blk f.drew 230 (w.1.size+1) [.pointer (some ⟨w.1.size,0,none⟩)]from a5.out) H (fun e=>by rcases e with e|e|e;exact absurd (J.out.2.2 _ e) uA;omega;omega);have an:=Blk.onlyS (show Blk f.drew 228 w.1.size [.int .i64 0,.slice none 0 0]from J.out.2.1) H (fun e=>by rcases e with e|e|e;exact absurd (J.out.2.2 _ e) uA;omega;omega);have bx:j.cell? ⟨w.1.size+1,0,none⟩=some (.pointer (some ⟨w.1.size,0,none⟩)):=Q.cell 0;have bF:w.1.size+1+1+1+1<=j.1.size:=by have:=H.size;have br:=a9.out;have bn:f.drew.1.size=f.1.size:=rfl;omega
 have K:∀k∈G,w.1.size+1+1+1+1<=k:=fun k b=>by have:=bc k b;have br:=a9.out;have bn:f.drew.1.size=f.1.size:=rfl;omega
 have B:=bAl j (.cells [.string (strOfNums []),.iface d (.pointer n)].toArray 239);have R:=Q.below B;have A:=an.below B;have bR:=A.cell 1;have bS:=A.free 1;have bz:=R.cell 0;have I:=ax (j.alloc (.cells [.string (strOfNums []),.iface d (.pointer n)].toArray 239)) w.1.size 1 (.slice (some ⟨j.1.size,0,none⟩) 1 1);have aA:=R.only I uA;have ap:=A.set 1 (.slice (some ⟨j.1.size,0,none⟩) 1 1);have a3:ORow 239 2 0 (j.alloc (.cells [.string (strOfNums []),.iface d (.pointer n)].toArray 239)) (some ⟨j.1.size,0,none⟩) 1 1 (kdF [(strOfNums [],.iface d (.pointer n))]):=uX _ _ _ _ (wa _) _ rfl _ rfl;have bg:=iA a3 (fun k b=>I.block k (by have:=cE a3 k b;exact this.2) (fun e=>by simp[rb]at b;omega));have aS:=(bf.below B).onlyS (OnlyS.ofB I) (fun k b e=>by have:=K k b;omega);have p:Hid (RtP P N S X a w (.returned (.pointer (some ⟨w.1.size+1,0,none⟩))) ((j.alloc (.cells [.string (strOfNums []),.iface d (.pointer n)].toArray 239)).setCell ⟨w.1.size,1,none⟩ (.slice (some ⟨j.1.size,0,none⟩) 1 1))):=by
  refine⟨(aT.trans (OnlyS.ofBelow B)).transN (OnlyS.ofB I) (fun k b e=>by omega),v7 ⟨some T,w.1.size+1,_,?_,rfl,⟨w.1.size,some ⟨j.1.size,0,none⟩,1,[(strOfNums [],.iface d (.pointer n))],G,rfl,aA,ap,bg,_,rfl,aS⟩,?_,?_,Ge a7 M a0.ok⟩⟩
  ·rw[L.out,show wkT P (N+1) 0 ⟨[], -1⟩ x00 a= _ from M];rfl
  ·intro k b;rcases w3.1 b with rfl|b
   ·omega
   rcases w3.1 b with rfl|b
   ·omega
   rcases w6.1 b with b|b
   ·simp[rb]at b;omega
   ·have:=K k b;omega
  ·exact C.keep _ _ (C.keep _ _ a0.src (B.mono uA) (aV B)) (I.below aX (by have:=B.size;omega)) (aw I A uB)
 clear aT Q an B R A I aA ap a3 bg aS H bf bv bc a0 ab M K;go_wp2_with fail;refine ao c ?_;clear c l;refine ah 7 fun l c=> ?_;refine jZ _ _ rfl (cs:=#[.string (strOfNums []),.iface d (.pointer n)]) ?bk ?_
 case bk=>
  simp only[wB,ws,wz];exact Gd d (.pointer n)
 refine ao c ?_;clear c l;refine ah 8 fun l c=> ?_;refine bU _ _ _ rfl (v:= .slice (some ⟨j.1.size,0,none⟩) 1 1) (w':=j.alloc (.cells [.string (strOfNums []),.iface d (.pointer n)].toArray 239)) ?bs ?_
 case bs=>
  simp only[wB,ws,wz];exact fq mc uA (.agg #[.string (strOfNums []),.iface d (.pointer n)]) [.string (strOfNums []),.iface d (.pointer n)] rfl rfl j
 refine ao c ?_;clear c l;refine ah 9 fun l c=> ?_;go_wp2_with fail;refine ao c ?_;clear c l;refine ah 10 fun l c=> ?_;go_wp2_with fail;refine ao c ?_;clear c l;refine ah 11 fun l c=> ?_;go_wp2_with fail;refine ao c ?_;clear c l;refine bi ?_;go_wp2_with fail;go_ret;exact p.out
end
section
def al(gen root used free:Int):List Value:=[.int .i64 gen,.int .i64 root,.int .i64 used,.int .i64 free]
def hoC(t p f o:Value):List Value:=[t,p,f,o]
def hoZ:List Value:=hoC (.pointer none) (.slice none 0 0) (.slice none 0 0) (.slice none 0 0)
structure HoQ(N:Nat)(S:World->Prop)(hb:Nat)(o:Option Tr)(fs own:List Int)(w w':World):Prop where
 ex:∃gt F a c a2 c2,Blk w' 102 hb (hoC (.pointer (some ⟨gt,0,none⟩)) (.slice none 0 0) (.slice a fs.length c) (.slice a2 own.length c2))/\TopR w' gt o F/\(∀k∈F,w.1.size<=k)/\Own1 3 w.1.size w' a fs.length c (on fs)/\Own1 3 w.1.size w' a2 own.length c2 (on own)
 src:S w'
 good:pe N o
 lf:fs.length<=65536
 lo:own.length<=1024
def HoP(P:Pg)(N:Nat)(S:World->Prop)(X:Nat->Prop)(hb:Nat)(root free:Int)(w:World)(e:Ending)(w':World):Prop:=
 OnlyS (fun k=>X k\/k=hb) w w'/\((∃o fs own,rtO P N root=some o/\flR P (N+1) free [] []=some (fs,own)/\e= .returned (.tuple #[])/\HoQ N S hb o fs own w w')\/((rtO P N root=none\/flR P (N+1) free [] []=none)/\e= .panicked bI))
variable {S:World->Prop} {X:Nat->Prop} {B0 N ty fn:Nat} {v:Value} {P:Pg}
theorem Blk.keepX{w w' t g xs}(a:Src P B0 ty fn v S X)(h:Blk w t g xs)(b:OnlyS X w w')(c:B0<=g):Blk w' t g xs:=h.onlyS b (fun e=>by have:=a.low g e;omega)
theorem Gg(am:PgW P N)(aX:∀t,(P.bd t).length<=256)(j:Src P B0 ty fn v S X)(sb B f aS d ak b w)(E:Blk w 178 sb [.iface ty v])(D:Blk w 36 B (al aS d ak b))(l:Blk w 102 f hoZ)(aT:S w)(a8:B0<=sb)(a6:B0<=B)(y:B0<=f)(a5:0<=d)(a3:d<4294967296)(a0:0<=b)(a1:b<4294967296):
 Calls prog 113 #[.pointer (some ⟨sb,0,none⟩),.pointer (some ⟨B,0,none⟩),.pointer (some ⟨f,0,none⟩)] w (HoP P N S X f d b w):=by
 have bk:=l.lt;have bg:B0<=w.1.size:=uA;have ap:=Gf am j d w aT bg a5 a3;have ab:w.cell? ⟨sb,0,none⟩=some (.iface ty v):=E.cell 0;have n:w.cell? ⟨B,1,none⟩=some (.int .i64 d):=D.cell 1;have ae:sb≠f:=fun e=>by subst e;unfold Blk at E l;rw[E]at l;cases l
 have af:B≠f:=fun e=>by subst e;unfold Blk at D l;rw[D]at l;cases l
 have F:=uv E (vJ D l);clear E D l aT;go_enter func113,ntmps113;go_wp2_with fail;refine ap.mono ?_;clear ap ab n;rintro e w1 ⟨s,⟨o,H,bl,a7,rfl,ac,I,bb,a2⟩|⟨q,rfl⟩⟩
 rotate_left
 ·have m:Hid (HoP P N S X f d b w (.panicked bI) w1):=⟨s.mono (fun k _ e=>v7 e),v6 ⟨v7 q,rfl⟩⟩;clear s q;go_wp2;exact⟨rfl,m.out⟩
 have V:=Blk.keepX j F.out.1 s a8;have T:=Blk.keepX j F.out.2.1 s a6;have r:=Blk.keepX j F.out.2.2 s y;have bu:=s.size;have u:=ax w1 f 0 (.pointer (some ⟨H,0,none⟩));have W:=V.only u ae;have U:=T.only u af;have Q:=r.set 0 (.pointer (some ⟨H,0,none⟩));have aA:=j.keep _ _ bb (u.below y uA) (aw u r uB);have aB:=ac.keep (fun k p=>u.block k (ac.flt k p) (fun e=>by have:=I k p;omega));have bd:=r.cell 0;have bf:=r.free 0;have bv:=u.size;have K:=(s.mono (fun k _ e=>v7 e)).transN (OnlyS.ofB u) (fun k _ e=>v6 e);have A:=uv aB (vJ Q K);clear V T u Q aB K r ac bb s F;go_upto_region 1 with fail
 generalize w1.setCell ⟨f,0,none⟩ (.pointer (some ⟨H,0,none⟩))=Z at*;clear bd bf;have an:=Fs am aX j b Z aA uA a0 a1;have ab:Z.cell? ⟨sb,0,none⟩=some (.iface ty v):=W.cell 0;have n:Z.cell? ⟨B,3,none⟩=some (.int .i64 b):=U.cell 3;clear W U aA;go_wp2_with fail;refine an.mono ?_;clear an ab n;rintro e J ⟨x,⟨C,own,a,c,G,n,L,a4,ad,rfl,M,O,bc,ag⟩|⟨q,rfl⟩⟩
 rotate_left
 ·have m:Hid (HoP P N S X f d b w (.panicked bI) J):=⟨A.out.2.2.transN x (fun k _ e=>v7 e),v6 ⟨v6 q,rfl⟩⟩;clear x q;go_wp2;exact⟨rfl,m.out⟩
 have g:=Blk.keepX j A.out.2.1 x y;have Y:=A.out.1.keep (fun k p=>x.block k (A.out.1.flt k p) (fun e=>by have:=j.low k e;have:=I k p;omega));have bx:=x.size;have bm:=g.cell 2;have br:=g.free 2;have a9:=ax J f 2 (.slice a C.length c);have z:=g.set 2 (.slice a C.length c);have bn:=z.cell 3;have bs:=z.free 3;have ba:=ax (J.setCell ⟨f,2,none⟩ (.slice a C.length c)) f 3 (.slice G own.length n);have R:=z.set 3 (.slice G own.length n);have i:=a9.trans ba;have m:Hid (HoP P N S X f d b w (.returned (.tuple #[])) ((J.setCell ⟨f,2,none⟩ (.slice a C.length c)).setCell ⟨f,3,none⟩ (.slice G own.length n))):=by
  refine⟨(A.out.2.2.transN x (fun k _ e=>v7 e)).transN (OnlyS.ofB i) (fun k _ e=>v6 e),v7 ⟨o,C,own,a7,L,rfl,⟨H,bl,a,c,G,n,R,?_,I,?_,?_⟩,?_,a2,a4,ad⟩⟩
  ·exact Y.keep (fun k p=>i.block k (Y.flt k p) (fun e=>by have:=I k p;omega))
  ·exact(M.keep (aw i g uB)).mono uA
  ·exact(O.keep (aw i g uB)).mono uA
  ·exact j.keep _ _ bc (i.below y uA) (aw i g uB)
 clear g Y a9 z ba R i M O bc ag x L A;go_wp2_with fail;refine B3 (v:= .tuple #[]) (by simp[results,results113]) rfl m.out
end
theorem Gh(b id w)(a:w.cell? ⟨b,0,none⟩=some (.int .i64 id)):
 Calls prog 217 #[.pointer (some ⟨b,0,none⟩)] w fun e w'=>e= .returned (.int .i64 id)/\w'=w:=by
 go_enter func217,ntmps217;go_wp2;go_ret;exact⟨rfl,rfl⟩
theorem Gj(R o a2 w)(h:TopR w R o a2)(N:okO o)(aS:(cN o).length<=1024)(Z:∀id∈cN o,id≠0):
 Calls prog 116 #[.pointer (some ⟨R,0,none⟩)] w fun e w'=> ∃a c,e= .returned (.slice a (cN o).length c)/\Below w.1.size w w'/\Own1 3 w.1.size w' a (cN o).length c (on (srt (cN o))):=by
 have V:=Gb R o a2 w h N aS;generalize cN o=d at*;have an:Hid _:=Z;clear h Z N;go_enter func116,ntmps116;go_wp2_with fail;refine V.mono ?_;rintro e w1 ⟨ap,aB,f,rfl,n⟩;have O:=n.len;have I:Below w.1.size w w1:=⟨n.fr.os,n.fr.tape,n.fr.output,n.fr.size,fun i ad=>n.fr.block i ad (fun e=>by simp[rb]at e)⟩;have Q:=uv n I;have aX:f.length<=1024:=uA;have G:Hid (f.length=d.length):=O;clear V n I O;go_wp2_with fail;go_loopw [3,9] (fun a0 a1 wr=> ∃(i:Nat)(u:Option Addr)(x:Nat),a0= .slice u i x/\a1= .int .i64 (i:Nat)/\i<=f.length/\Below w.1.size w wr/\(∀t,t≠3->KeepT t w1 wr)/\Own1 3 w.1.size wr u i x (on (d.take i))) (fun _ s _=>f.length-(intOf s).toNat)
 case atStart=>exact⟨0,none,0,rfl,rfl,wa _,Q.out.2,fun _ _=>KeepT.refl _ _,cQ _ _ _⟩
 case round=>
  obtain⟨i,u,x,rfl,rfl,ad,q,l,g⟩:=hrel;obtain⟨p,af⟩:=aa wr;subst af;have ag:=q.size;have P:=uv q l;by_cases L:i<f.length
  ·have aT:(i:Int)< (f.length:Int):=uA;have M:Own1 236 w.1.size p ap f.length aB f:=by have:=Q.out.1.own.keep (l _ uB);rwa [wE]at this
   have ab:=Q.out.1.nv i L;obtain⟨a4,rfl,_,_,_,J⟩:=M.at_ uA;have K:=J i L;have y:i<d.length:=by have:=G.out;omega
   have U:Hid (d.take (i+1)=d.take i++[d.getD i 0]):=by
    show d.take (i+1)=d.take i++[d.getD i 0];rw[x4 y];simp[List.getD,y]
   have S:d.getD i 0≠0:=an.out _ (by rw[List.getD,wS y];exact za _);generalize d.getD i 0=id at*;have am:(id==0)=false:=by simp[S]
   generalize f.getD i undef=v at*;have A:=l 263 uB;have z:=l 228 uB;clear J M q l;obtain⟨b,a5,⟨rfl,m⟩|⟨rfl,m⟩⟩:=ab;have ac:p.cell? ⟨b,0,none⟩=some (.int .i64 id):=(m.keepT A).cell 0;clear m A z;unfold lfI at K;have r:=F3 b
   rotate_left
   have ac:p.cell? ⟨b,0,none⟩=some (.int .i64 id):=(m.keepT z).cell 0;clear m A z;unfold inI at K;have r:=F5 b
   all_goals
    have m:=Gh b id p ac;go_wp2_with fail;refine m.mono ?_;rintro e w' ⟨rfl,B⟩;obtain rfl:=B.symm;clear B;go_wp2_with fail;refine m.mono ?_;rintro e w' ⟨rfl,B⟩;obtain rfl:=B.symm;clear B m r;go_wp2_with (at_builtin;refine iF rfl _ _ co rfl w.1.size u i x (on (d.take i)) rfl g (.int .i64 id) rfl rfl uA uA ag ?_);intro E aA D C Y H X;have T:=bAl p (.cells #[.int .i64 id] 3);have ak:∀t,t≠3->KeepT t p D:=fun t F=>(aV T).trans (bD (bQ g T) H (ED F));have j:Hid (Below w.1.size w D/\(∀t,t≠3->KeepT t w1 D)/\Own1 3 w.1.size D (some ⟨E,0,none⟩) (i+1) aA (on (d.take (i+1)))):=⟨P.out.1.trans Y,fun t F=>(P.out.2 t F).trans (ak t F),by rw[U.out,<-fv];exact C⟩;clear C Y H X T ak g;go_wp2_with fail;go_roundw
    case rel=>exact⟨i+1,_,_,rfl,by go_num,uA,j.out.1,j.out.2.1,j.out.2.2⟩
    case measure=>simp[intOf];omega
  ·have ae:i=d.length:=by have:=G.out;omega
   have a3:¬((i:Int)< (f.length:Int)):=uA;subst ae;rw[ya]at g;have W:=xD w.1.size u x d p g uA;clear g q l;go_wp2_with fail;refine W.mono ?_;rintro e D ⟨rfl,E,C⟩;have j:=uv E C;clear W E C;go_wp2_with fail;go_ret;exact⟨u,x,rfl,P.out.1.grown j.out.1 uA (fun k e=>(Ct j.out.2 k e).1),j.out.2⟩
section
theorem Gk{N o}(h:pe N o):okO o/\(cN o).length<=N/\∀x∈cN o,x≠0:=by
 cases o with
 |none=>exact⟨trivial,wa _,fun x hx=>by simp[cN]at hx⟩
 |some T=>
  obtain⟨b,c,d,a⟩:=h;have e:SeenOk (ar T) N:=⟨d,fun x hx=>by have:=a x hx;omega⟩;refine⟨⟨b,c⟩,by show(pgN T).length<=N;rw[(lg T).length_eq];exact e.le,fun x hx=>by have:=a x ((lg T).mem_iff.1 hx);omega⟩
def hoR(P:Pg)(N:Nat)(root free:Int)(M:Nat):Bool:=match rtO P N root,flR P (N+1) free [] []with
 |some o,some p=>eS (srt (cN o)++(p.1++p.2)) M
 |_,_=>false
def hoB(P:Pg)(N:Nat)(pages gen root used free:Int):Bool:=bG gen root used free&&decide (used<=pages)&&hoR P N root free used.toNat
theorem Gl{P N b a M o c own}(d:rtO P N b=some o)(e:flR P (N+1) a [] []=some (c,own)):hoR P N b a M=eS (srt (cN o)++(c++own)) M:=by unfold hoR;rw[d,e]
theorem Gm{P N a b M}(h:rtO P N a=none\/flR P (N+1) b [] []=none):hoR P N a b M=false:=by
 unfold hoR;rcases h with h|h
 ·rw[h]
 ·rw[h];cases rtO P N a<;>rfl
def HiP(P:Pg)(N:Nat)(S:World->Prop)(X:Nat->Prop)(r:Bool)(w:World)(e:Ending)(w':World):Prop:=
 OnlyS X w w'/\(r=true->S w')/\∃cs:List Value,cs.length=4/\(∀u∈cs,u.oneCell'=true)/\e= .returned (.tuple #[.agg cs.toArray,.bool r])
theorem lp:(prog.info? 102).map (·.size)=some 4:=vk
theorem bj:(prog.info? 36).map (·.size)=some 4:=vk
theorem I9:prog.built 102 []=some hoZ.toArray:=vk
theorem jJ:∀u∈hoZ,u.oneCell'=true:=by intro u a;simp[hoZ,hoC]at a;rcases a with rfl|rfl<;>rfl
theorem yf(p a b c n m k i j l):∀u∈hoC (.pointer p) (.slice a n i) (.slice b m j) (.slice c k l),u.oneCell'=true:=by
 intro u d;simp[hoC]at d;rcases d with rfl|rfl|rfl|rfl<;>rfl
variable {S:World->Prop} {X:Nat->Prop} {B0 N ty fn:Nat} {v:Value} {P:Pg}
theorem Gn(cn:PgW P N)(c6:∀t,(P.bd t).length<=256)(T:Src P B0 ty fn v S X)(j l d f b w)(ds:S w)(c4:B0<=w.1.size):
 Calls prog 72 #[.iface ty v,.int .i64 (j:Nat),.agg (al l d f b).toArray] w (HiP P N S X (hoB P N (j:Nat) l d f b) w):=by
 obtain⟨aA,ad⟩:=aa (w.alloc (.cells #[.iface ty v] 178));obtain⟨aB,ae⟩:=aa (aA.alloc (.cells (al l d f b).toArray 36));obtain⟨bb,af⟩:=aa (aB.alloc (.cells hoZ.toArray 102));have cv:Below w.1.size w aA:=by rw[ad];exact bAl _ _
 have cz:Below aA.1.size aA aB:=by rw[ae];exact bAl _ _
 have cA:Below aB.1.size aB bb:=by rw[af];exact bAl _ _
 have cD:aA.1.size=w.1.size+1:=by rw[ad];simp
 have cL:aB.1.size=w.1.size+1+1:=by rw[ae];simp[cD]
 have dW:bb.1.size=w.1.size+1+1+1:=by rw[af];simp[cL]
 have bB:=cz.trans (cA.mono cz.size);have c9:=(by rw[ad];exact aq w _ _:Blk aA 178 w.1.size [.iface ty v]).below bB;have cr:=(by rw[ae,<-cD];exact aq aA _ _:Blk aB 36 (w.1.size+1) (al l d f b)).below cA;have c7:Blk bb 102 (w.1.size+1+1) hoZ:=by rw[af,<-cL];exact aq aB _ _
 have cj:=cv.trans (bB.mono cv.size);have dV:(prog.info? 36).map (·.size)=some (al l d f b).toArray.size:=bj;have a7:(prog.info? 102).map (·.size)=some hoZ.toArray.size:=lp;have c0:=pP l d f b bb;have cP:Hid _:=cj;have d6:w.1.size+1+1<bb.1.size:=uA;clear cv cz cA cD cL bB cj dW;go_enter func72,ntmps72;go_upto_region 1 with fail
 change Code.wp _ _ _ _ (((w.alloc (.cells #[.iface ty v] 178)).alloc (.cells (al l d f b).toArray 36)).alloc (.cells hoZ.toArray 102));rw[<-ad,<-ae,<-af];clear ad ae af;go_wp2_with (refine B5 rfl 36 _ rfl (w.1.size+1) rfl 36 (al l d f b).toArray (0,0) _ cr underlying36 rfl dV ?_);refine c0.mono ?_;rintro e Y ⟨rfl,a6⟩;have b9:=c9.below a6;have bv:=cr.below a6;have ak:=c7.below a6;have bd:=cP.out.trans (a6.mono cP.out.size);have d7:=a6.size;have cV:=T.keep _ _ ds (bd.mono c4) (aV bd);have dd:Y.cell? ⟨w.1.size+1,2,none⟩=some (.int .i64 f):=bv.cell 2;have bA:=du Y (w.1.size+1+1) hoZ.toArray;have aS:=ak.setRow hoZ;have an:Hid (hoB P N (j:Nat) l d f b=false->HiP P N S X (hoB P N (j:Nat) l d f b) w (.returned (.tuple #[.agg hoZ.toArray,.bool false])) (Y.setRow (w.1.size+1+1) hoZ.toArray)):=fun h=>⟨(OnlyS.ofBelow bd).transN (OnlyS.ofB bA) (fun k bg e=>by omega),(fun D=>by rw[h]at D;cases D),hoZ,rfl,jJ,by rw[h]⟩;have ab:=uv b9 (vJ bv (vJ bd cV));clear c0 c9 cr c7 a6 b9 bd cV bA;cases J:bG l d f b with
 |false=>
  have ac:Hid (hoB P N (j:Nat) l d f b=false):=by show hoB P N (j:Nat) l d f b=false;unfold hoB;rw[J];rfl
  go_wp2_with (first|(refine B8 rfl 102 _ _ rfl (w.1.size+1+1) hoZ.toArray rfl rfl 102 _ ak a7 rfl (df jJ) ?_));refine B3 (v:= .tuple #[.agg hoZ.toArray,.bool false]) ?_ rfl (an.out ac.out);exact cI results72 _ _ (w.1.size+1+1) 102 hoZ.toArray _ rfl aS underlying102 rfl a7 rfl
 |true=>
  have a3:iK l f=true/\nmB f d=true/\nmB f b=true:=by
   unfold bG at J;rw[wX,wX]at J;exact J
  obtain⟨eb,ef,u1,u2⟩:=C3 a3.1;have db:=C3 a3.2.1;have da:=C3 a3.2.2;by_cases bn:f<=(j:Int)
  rotate_left
  ·have cq:(j:Int)<f:=uA;have ac:Hid (hoB P N (j:Nat) l d f b=false):=by show hoB P N (j:Nat) l d f b=false;unfold hoB;rw[J,CP bn];rfl
   clear bn;go_wp2_with (first|(refine B8 rfl 102 _ _ rfl (w.1.size+1+1) hoZ.toArray rfl rfl 102 _ ak a7 rfl (df jJ) ?_));refine B3 (v:= .tuple #[.agg hoZ.toArray,.bool false]) ?_ rfl (an.out ac.out);exact cI results72 _ _ (w.1.size+1+1) 102 hoZ.toArray _ rfl aS underlying102 rfl a7 rfl
  have cq:¬(j:Int)<f:=uA;have a0:Hid (hoB P N (j:Nat) l d f b=hoR P N d b f.toNat):=by
   show hoB P N (j:Nat) l d f b= _;unfold hoB;rw[J,CR bn];rfl
  obtain⟨M,rfl⟩:∃M:Nat,f=(M:Int):=⟨f.toNat,uA⟩;rw[Int.toNat_natCast]at a0;clear an J a3 aS;obtain⟨m,bf⟩:=aa Y.1.size;obtain⟨I,a1⟩:=aa (Y.alloc (.cells hoZ.toArray 102));have am:Below Y.1.size Y I:=by rw[a1];exact bAl _ _
  have bs:Blk I 102 m hoZ:=by rw[a1,bf];exact aq Y _ _
  have ca:=ab.out.1.below am;have bx:=ab.out.2.1.below am;have c8:=ak.below am;have cW:=T.keep _ _ ab.out.2.2.2 (am.mono uA) (aV am);have c3:=ab.out.2.2.1.trans (am.mono uA);have bP:=Gg cn c6 T w.1.size (w.1.size+1) m l d (M:Nat) b I ca bx bs cW c4 uA uA uA uA uA uA;have d8:w.1.size+1+1<m:=uA;have dI:=bs.lt;have ap:=uv c3 (vJ bx (vJ c8 am));clear am bs ca bx cW c3 ab;go_upto_region 4 with fail
  change Code.wp _ _ _ _ (Y.alloc (.cells hoZ.toArray 102));rw[<-a1,<-bf];clear a1 bf ak dd bv;by_cases V:∃o p,rtO P N d=some o/\flR P (N+1) b [] []=some p
  rotate_left
  ·have b1:rtO P N d=none\/flR P (N+1) b [] []=none:=by
    cases F:rtO P N d with
    |none=>exact v7 rfl
    |some o=>
     cases D:flR P (N+1) b [] []with
     |none=>exact v6 rfl
     |some p=>exact absurd ⟨o,p,F,D⟩ V
   have cR:Calls prog 113 #[.pointer (some ⟨w.1.size,0,none⟩),.pointer (some ⟨w.1.size+1,0,none⟩),.pointer (some ⟨m,0,none⟩)] I fun e w'=>e= .panicked bI/\OnlyS (fun k=>X k\/k=m) I w':=bP.mono (by
    rintro e w' ⟨o,⟨cs,n,own,F,D,_⟩|⟨_,bR⟩⟩
    ·exact absurd ⟨cs,_,F,D⟩ V
    ·exact⟨bR,o⟩)
   have ba:=Bt 113 _ I (OnlyS (fun k=>X k\/k=m) I) (fun _=>rfl) cR;have ac:Hid (hoB P N (j:Nat) l d (M:Nat) b=false):=by show hoB P N (j:Nat) l d (M:Nat) b=false;rw[a0.out];exact Gm b1
   clear bP cR V b1;go_wp2_with fail;refine CC ba ?_;rintro e bE ⟨rfl,cB,W,C⟩;have Q:¬(X (w.1.size+1+1)\/w.1.size+1+1=m):=fun e=>by
    rcases e with e|e
    ·have:=T.low _ e;omega
    ·omega
   have b7:=(ap.out.2.2.1.onlyS W Q).below C;have bA:=du bE (w.1.size+1+1) hoZ.toArray;have aS:=b7.setRow hoZ;have a8:Hid (HiP P N S X (hoB P N (j:Nat) l d (M:Nat) b) w (.returned (.tuple #[.agg hoZ.toArray,.bool false])) (bE.setRow (w.1.size+1+1) hoZ.toArray)):=⟨(((OnlyS.ofBelow ap.out.1).transN W (fun k bg e=>by rcases e with e|e;exact e;omega)).trans (OnlyS.ofBelow C)).transN (OnlyS.ofB bA) (fun k bg e=>by omega),(fun D=>by rw[ac.out]at D;cases D),hoZ,rfl,jJ,by rw[ac.out]⟩;clear ba W C ap bA Q;go_wp2_with (first|(refine B8 rfl 102 _ _ rfl (w.1.size+1+1) hoZ.toArray rfl rfl 102 _ b7 a7 rfl (df jJ) ?_));refine B3 (v:= .tuple #[.agg hoZ.toArray,.bool false]) ?_ rfl a8.out;exact cI results72 _ _ (w.1.size+1+1) 102 hoZ.toArray _ rfl aS underlying102 rfl a7 rfl
  obtain⟨o,⟨n,own⟩,a4,a2⟩:=V;have cS:Calls prog 113 #[.pointer (some ⟨w.1.size,0,none⟩),.pointer (some ⟨w.1.size+1,0,none⟩),.pointer (some ⟨m,0,none⟩)] I fun e w'=>e= .returned (.tuple #[])/\(OnlyS (fun k=>X k\/k=m) I w'/\HoQ N S m o n own I w'):=bP.mono (by
   rintro e w' ⟨cs,⟨ej,dX,dS,F,D,bR,ag⟩|⟨F|F,bR⟩⟩
   ·rw[a4]at F;rw[a2]at D;cases F;cases D;exact⟨bR,cs,ag⟩
   ·rw[a4]at F;cases F
   ·rw[a2]at F;cases F)
  have ba:=Br 113 _ I _ (fun _=>rfl) cS;have dr:Hid (hoB P N (j:Nat) l d (M:Nat) b=eS (srt (cN o)++(n++own)) M):=by show hoB P N (j:Nat) l d (M:Nat) b= _;rw[a0.out];exact Gl a4 a2
  clear bP cS a4 a2 a0;go_wp2_with fail;refine CC ba ?_;rintro e cB ⟨rfl,W,ag⟩;clear ba;obtain⟨H,ea,a,c,z,A,bu,c1,ac,cb,ce⟩:=ag.ex;obtain⟨bl,cp,bk⟩:=Gk ag.good;have d2:=ag.lf;have d3:=ag.lo;have cT:=Gj H o ea cB c1 bl (by have:=cn.le;omega) bk;have dk:cB.cell? ⟨m,0,none⟩=some (.pointer (some ⟨H,0,none⟩)):=bu.cell 0;have ek:=W.size;have Q:∀g,B0<=g->g≠m->¬(X g\/g=m):=fun g F D e=>by
   rcases e with e|e
   ·have:=T.low _ e;omega
   ·exact D e
  have b4:=ap.out.2.1.onlyS W (Q _ uA uA);have b6:=ap.out.2.2.1.onlyS W (Q _ uA uA);have bY:=(OnlyS.ofBelow ap.out.1).transN W (fun k bg e=>by rcases e with e|e;exact e;omega);have Z:=uv bu (vJ cb (vJ ce (vJ b4 (vJ b6 (vJ bY ag.src)))));have d4:(cN o).length<=1024:=by have:=cn.le;omega
  have bS:Hid ((srt (cN o)).length=(cN o).length):=iX _;clear bu c1 ac cb ce b4 b6 bY ag bl cp bk ap W Q;go_upto_region 8 with fail
  refine cT.mono ?_;rintro e bE ⟨q,r,rfl,C,cg⟩;clear cT;have G:=Z.out.1.below C;have dl:=G.cell 1;have dq:=G.free 1;generalize d5:(cN o).length=s at*;have K:=ax bE m 1 (.slice q s r);have b3:=G.set 1 (.slice q s r);have cc:=(Z.out.2.1.below C).keep (aw K G uB);have cf:=(Z.out.2.2.1.below C).keep (aw K G uB);have ch:=cg.keep (aw K G uB);have b5:=(Z.out.2.2.2.1.below C).only K uA;have b8:=(Z.out.2.2.2.2.1.below C).only K uA;have em:=C.size;have bZ:=(Z.out.2.2.2.2.2.1.trans (OnlyS.ofBelow C)).transN (OnlyS.ofB K) (fun k bg e=>by omega);have cX:=T.keep _ _ (T.keep _ _ Z.out.2.2.2.2.2.2 (C.mono uA) (aV C)) (K.below uA uA) (aw K G uB);have en:=K.size;have x:=uv b3 (vJ cc (vJ cf (vJ ch (vJ b5 (vJ b8 (vJ bZ cX))))));clear G K b3 cc cf ch b5 b8 bZ cX cg C Z dk;go_upto_region 8 with fail
  generalize bE.setCell ⟨m,1,none⟩ (.slice q s r)=y at*;clear dl dq;have B:y.drew.cell? ⟨m,0,none⟩=some (.pointer (some ⟨H,0,none⟩))/\y.drew.cell? ⟨m,1,none⟩=some (.slice q s r)/\y.drew.cell? ⟨m,2,none⟩=some (.slice a n.length c)/\y.drew.cell? ⟨m,3,none⟩=some (.slice z own.length A)/\y.drew.cell? ⟨w.1.size+1,2,none⟩=some (.int .i64 (M:Nat)):=⟨Blk.cell x.out.1 0,Blk.cell x.out.1 1,Blk.cell x.out.1 2,Blk.cell x.out.1 3,Blk.cell x.out.2.2.2.2.1 2⟩;have d1:m<y.1.size:=uA;have a9:Hid (∀u,Below y.1.size y u->u.cell? ⟨m,0,none⟩=some (.pointer (some ⟨H,0,none⟩))/\u.cell? ⟨m,1,none⟩=some (.slice q s r)/\u.cell? ⟨m,2,none⟩=some (.slice a n.length c)/\u.cell? ⟨m,3,none⟩=some (.slice z own.length A)/\u.cell? ⟨w.1.size+1,2,none⟩=some (.int .i64 (M:Nat))):=fun u bm=>⟨Blk.cell (x.out.1.below bm) 0,Blk.cell (x.out.1.below bm) 1,Blk.cell (x.out.1.below bm) 2,Blk.cell (x.out.1.below bm) 3,Blk.cell (x.out.2.2.2.2.1.below bm) 2⟩;refine az (fun u=>u.cell? ⟨m,0,none⟩=some (.pointer (some ⟨H,0,none⟩))/\u.cell? ⟨m,1,none⟩=some (.slice q s r)/\u.cell? ⟨m,2,none⟩=some (.slice a n.length c)/\u.cell? ⟨m,3,none⟩=some (.slice z own.length A)/\u.cell? ⟨w.1.size+1,2,none⟩=some (.int .i64 (M:Nat))) (fun k=>decide (12<=k)) vk ?_;refine ai 0 B ?_;refine ai 1 B ?_;refine ai 2 B ?_;refine ai 3 B ?_;refine ai 4 B ?_;refine ai 5 B ?_;refine ai 6 B ?_;refine ai 9 B ?_;refine ai 10 B ?_;refine ah 7 fun U E=> ?_;go_wp2_with fail;have aX:Below y.1.size y (y.alloc (.cells #[.slice q s r,.slice a n.length c,.slice z own.length A] 100)).drew:=(bAl _ _).drew;refine E.out _ _ (fun _=>a9.out _ aX) ?_;clear E U;have br:Blk (y.alloc (.cells #[.slice q s r,.slice a n.length c,.slice z own.length A] 100)).drew 100 y.1.size [.slice q s r,.slice a n.length c,.slice z own.length A]:=aq y 100 #[.slice q s r,.slice a n.length c,.slice z own.length A];generalize (y.alloc (.cells #[.slice q s r,.slice a n.length c,.slice z own.length A] 100)).drew=c2 at*;generalize R:y.1.size=dP at*;have cl:=Fc dP 0 3 3 (fun i=>[q,a,z].getD i none) (fun i=>[s,n.length,own.length].getD i 0) (fun i=>[r,c,A].getD i 0) (fun i=>[srt (cN o),n,own].getD i []) c2 br.lt uA
   (fun i dD=>by
 have:i=0\/i=1\/i=2:=uA;rcases this with rfl|rfl|rfl
 ·exact br.cell 0
 ·exact br.cell 1
 ·exact br.cell 2)
   (fun i dD=>by
 have:i=0\/i=1\/i=2:=uA;rcases this with rfl|rfl|rfl
 ·exact(x.out.2.2.2.1.below (by rw[R];exact aX)).mono (wa _)
 ·exact(x.out.2.1.below (by rw[R];exact aX)).mono (wa _)
 ·exact(x.out.2.2.1.below (by rw[R];exact aX)).mono (wa _))
   (by simp[dg,bS.out];omega)
  rw[show dg (fun i=>[srt (cN o),n,own].getD i []) 3=srt (cN o)++(n++own)by simp[dg]]at cl;have c5:(srt (cN o)++(n++own)).length<=1048576:=by rw[wb,wb,bS.out];omega
  generalize srt (cN o)++(n++own)=cm at*;have bT:Hid _:=aX;have d9:=aX.size;clear br aX;refine ah 8 fun U E=> ?_;go_wp2_with fail;refine cl.mono ?_;rintro e ck ⟨dc,dp,rfl,bc,bz⟩;have bX:=bT.out.trans (bc.mono uA);have cM:=Fv c2.1.size dc dp cm M ck bz c5 uA;have L:=uv bX bz;have dE:=bc.size;clear cl bX bc bz bT;go_wp2_with fail;refine E.out _ _ (fun _=>a9.out _ L.out.1) ?_;clear E U;refine ah 11 fun U E=> ?_;go_wp2_with fail;refine cM.mono ?_;rintro e bC ⟨rfl,b0⟩;have O:=L.out.1.grown b0 uA (fun k e=>by have:=(Ct L.out.2 k e).1;omega);have b2:KeepT 5 ck bC:=bD L.out.2 b0 uB;have aT:=x.out.2.2.2.2.2.1.below (by rw[R];exact O);have bW:=T.keep _ _ x.out.2.2.2.2.2.2.2 (O.mono uA) ((aV (by rw[R];exact L.out.1)).trans b2);have a5:=du bC (w.1.size+1+1) (hoC (.pointer (some ⟨H,0,none⟩)) (.slice q s r) (.slice a n.length c) (.slice z own.length A)).toArray;have aS:=aT.setRow (hoC (.pointer (some ⟨H,0,none⟩)) (.slice q s r) (.slice a n.length c) (.slice z own.length A));have dF:=O.size;have a8:Hid (HiP P N S X (hoB P N (j:Nat) l d (M:Nat) b) w (.returned (.tuple #[.agg (hoC (.pointer (some ⟨H,0,none⟩)) (.slice q s r) (.slice a n.length c) (.slice z own.length A)).toArray,.bool (eS cm M)])) (bC.setRow (w.1.size+1+1) (hoC (.pointer (some ⟨H,0,none⟩)) (.slice q s r) (.slice a n.length c) (.slice z own.length A)).toArray)):=by
   refine⟨(x.out.2.2.2.2.2.2.1.trans (OnlyS.ofBelow (by rw[R];exact O))).transN (OnlyS.ofB a5) (fun k bg e=>by omega),fun _=>T.keep _ _ bW (a5.below uA uA) (aw a5 aT uB),_,rfl,?_,by rw[dr.out]⟩;exact yf _ _ _ _ _ _ _ _ _ _
  have bF:=a9.out _ O;clear cM O b2 bW a5 L;go_wp2_with fail;refine ao E ?_;clear E U bF;refine ah 12 fun U E=> ?_;refine wp_store_row 102 _ _ rfl (w.1.size+1+1) (hoC (.pointer (some ⟨H,0,none⟩)) (.slice q s r) (.slice a n.length c) (.slice z own.length A)).toArray rfl rfl 102 _ aT lp rfl (df (yf _ _ _ _ _ _ _ _ _ _)) ?_;refine ao E ?_;clear E U;refine ah 13 fun U E=> ?_;go_wp2_with fail;refine ao E ?_;clear E U;refine bi ?_;clear B;go_wp2_with fail;refine B3 (v:= .tuple #[.agg (hoC (.pointer (some ⟨H,0,none⟩)) (.slice q s r) (.slice a n.length c) (.slice z own.length A)).toArray,.bool (eS cm M)]) ?_ rfl a8.out;exact cI results72 _ _ (w.1.size+1+1) 102 (hoC (.pointer (some ⟨H,0,none⟩)) (.slice q s r) (.slice a n.length c) (.slice z own.length A)).toArray _ rfl aS underlying102 rfl lp rfl
end
