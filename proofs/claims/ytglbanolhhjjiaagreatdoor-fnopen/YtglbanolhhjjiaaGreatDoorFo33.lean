import Derived.Test.YtglbanolhhjjiaaGreatDoorFo26
namespace Go.Proofs.YtglbanolhhjjiaaGreatDoor
open Go.Proofs.Tryz
open Go.RowKit
set_option linter.unusedVariables false
set_option maxRecDepth 100000
set_option maxHeartbeats 32000000
theorem F3(b w):(Go.method 428 260 (.pointer (some ⟨b,0,none⟩)) "loop.example/s01906/impl.page").run prog w= .ok (217,.pointer (some ⟨b,0,none⟩)) w:=uA
theorem F5(b w):(Go.method 428 223 (.pointer (some ⟨b,0,none⟩)) "loop.example/s01906/impl.page").run prog w= .ok (217,.pointer (some ⟨b,0,none⟩)) w:=uA
def TopR(w:World)(gt:Nat)(o:Option Tr)(F:List Nat):Prop:= ∃gi a c us G,F=gt::gi::(rb a++G)/\Blk w 230 gt [.pointer (some ⟨gi,0,none⟩)]/\Blk w 228 gi [.int .i64 0,.slice a us.length c]/\ORow 239 2 0 w a us.length c (kdF us)/\
 match o with
 |none=>us=[]/\G=[]
 |some T=> ∃v,us=[(strOfNums [],v)]/\IRep w T G [(strOfNums [],v)]
theorem TopR.keep{w w' f o i}(p:TopR w f o i)(d:∀k∈i,w'.heap[k]?=w.heap[k]?):TopR w' f o i:=by
 obtain⟨g,a,c,us,G,rfl,j,l,m,h⟩:=p;refine⟨g,a,c,us,G,rfl,(d f uB).trans j,(d g uB).trans l,iA m (fun k b=>d k (by simp[b])),?_⟩;cases o with
 |none=>exact h
 |some T=>
  obtain⟨v,e,n⟩:=h;exact⟨v,e,n.keep (fun k b=>d k (by simp[b]))⟩
def cN:Option Tr->List Int
 |none=>[]
 |some T=>pgN T
def okO:Option Tr->Prop
 |none=>True
 |some T=>isT T=true/\full T true
theorem TopR.flt{w f o l}(n:TopR w f o l):∀k∈l,k<w.1.size:=by
 obtain⟨m,a,c,us,G,rfl,g,h,i,d⟩:=n;intro k b;rcases wA.1 b with rfl|b
 ·exact g.lt
 rcases wA.1 b with rfl|b
 ·exact h.lt
 rcases wE.1 b with b|b
 ·exact(cE i k b).2
 ·cases o with
  |none=>rw[d.2]at b;cases b
  |some T=>
   obtain⟨v,e,j⟩:=d;exact j.lt k b
def LO:Option Tr->List (ByteArray×Tr)
 |none=>[]
 |some T=>[(strOfNums [],T)]
theorem F7(o):dO (LO o)=cN o:=by cases o<;>simp[LO,dO,cN]
theorem NsQ.trans0{B w wr f w' a g h j i b c e d}(l:NsQ B w a 0 [] e g j b wr)(q:Below wr.1.size wr f)(k:NsQ B f g b.length b d h i c w'):NsQ B w a 0 [] (e++d) h i (b++c) w':=
 l.trans q (by rw[wg];exact k)
theorem Gb(Q o bd w)(Z:TopR w Q o bd)(B:okO o)(a5:(cN o).length<=1024):
 Calls prog 149 #[.pointer (some ⟨Q,0,none⟩)] w fun e w'=> ∃a c b,e= .returned (.slice a b.length c)/\NsQ w.1.size w none 0 [] (cN o) a c b w':=by
 obtain⟨Y,U,X,us,G,rfl,ab,I,hrow,h⟩:=Z;have ag:us.length=(LO o).length:=by
  cases o with
  |none=>rw[h.1];rfl
  |some T=>obtain⟨v,e,_⟩:=h;rw[e];rfl
 have l:∀i,i<us.length->∃z,IRep w ((LO o).getD i t0).2 z [(strOfNums [],(us.getD i k0).2)]:=fun i d=>by
  cases o with
  |none=>rw[h.1]at d;exact absurd d (w8 _)
  |some T=>
   obtain⟨v,e,Z⟩:=h;subst e;have:i=0:=by simp at d;exact d
   subst this;exact⟨G,Z⟩
 have P:∀i,i< (LO o).length->NsC ((LO o).getD i t0).2:=fun i d=>by
  cases o with
  |none=>exact absurd d (w8 _)
  |some T=>
   have:i=0:=by simp[LO]at d;exact d
   subst this;exact(oP T).1 B.1 B.2
 have a8:us.length<=1:=by rw[ag];cases o<;>simp[LO]
 rw[<-F7 o]at a5 ⊢;generalize LO o=L at*;have bf:w.cell? ⟨Q,0,none⟩=some (.pointer (some ⟨Y,0,none⟩)):=ab.cell 0;have bg:w.cell? ⟨Y,1,none⟩=some (.slice U us.length X):=I.cell 1;have ac:NsQ w.1.size w none 0 [] (dO (L.take 0)) none 0 [] w:=⟨cQ _ _ _,OnlyS.refl _ _,fun k a4 _=>a4,fun _ _=>KeepT.refl _ _,rfl,fun i d=>absurd d (w8 _)⟩;have aB:Hid _:=ac;have C:∀i,i<us.length->(us.getD i k0).2.oneCell'=true:=fun i d=>by
  obtain⟨z,Z⟩:=l i d;obtain⟨m,p,a2,e,_⟩:=P i t7 _ z w 0 none 0 0 [] Z (cQ _ _ _) (u6 _) (by have:=oJ L i t7;have I:=lh L (i+1);rw[this,u7]at I;omega);rw[e]
  rfl
 have t:=t6 hrow (u2 l (u2 P C));clear ac ab I hrow l P C h B;go_enter func149,ntmps149;go_wp2_with fail;go_loopw [3,14] (fun ba ap wr=> ∃(i:Nat)(x:Option Addr)(y:Nat)(b:List Value),ba= .slice x b.length y/\ap= .int .i64 (i:Nat)/\i<=us.length/\NsQ w.1.size w none 0 [] (dO (L.take i)) x y b wr) (fun _ s _=>us.length-(intOf s).toNat)
 case atStart=>exact⟨0,none,0,[],rfl,rfl,u6 _,aB.out⟩
 case round=>
  obtain⟨i,x,y,b,rfl,rfl,d,g⟩:=hrel;obtain⟨f,ak⟩:=aa wr;subst ak;have F:=g.len;have bc:=g.fr.size;by_cases O:i<us.length
  ·have a6:(i:Int)< (us.length:Int):=t7;have D:=oJ L i t7;have af:=lh L (i+1);rw[D,u7]at af;have E:ORow 239 2 0 f U us.length X (kdF us):=cw t.out.1 (g.keep _ uv);obtain⟨an,rfl,_,bb⟩:=oy E t7;have q:=fun j v a9=>(E.reads (xy us _ t.out.2.2.2)).cells i O j v a9;rw[show kdF us i=[.string (us.getD i k0).1,(us.getD i k0).2]from rfl]at q;obtain⟨z,M⟩:=t.out.2.1 i O;have K:=t.out.2.2.1 i t7;generalize us.getD i k0=a1 at*;obtain⟨sg,u⟩:=a1;have H:=bAl f (.cells #[.string sg,u] 239);have r:Own1 236 w.1.size f x b.length y b:=by have:=g.own;rwa [wg]at this
   obtain⟨m,p,a2,a7,aA,a3,n⟩:=K u z (f.alloc (.cells #[.string sg,u] 239)) w.1.size x b.length y b ((M.keepN g.keep).below H) (r.below H) (by have:=H.size;omega) (by rw[F];omega);subst a7;have V:f.cell? ⟨an,i*2,none⟩=some (.string sg):=by have:=q 0 _ rfl;simpa using this
   have W:f.cell? ⟨an,i*2+1,none⟩=some (.iface m (.pointer p)):=by have:=q 1 _ rfl;simpa using this
   have am:=aq f 239 #[.string sg,.iface m (.pointer p)];have A:=t6 g (u2 H D);clear q M K E g H D t F r;go_upto_region 5 with(first|(refine bt rfl 239 _ _ rfl f #[.string (strOfNums []),.nilIface] #[.string sg,.iface m (.pointer p)] 239 rfl rfl xx rfl rfl ?_))
   change Code.wp _ _ _ _ (f.alloc (.cells #[.string sg,.iface m (.pointer p)] 239));generalize f.alloc (.cells #[.string sg,.iface m (.pointer p)] 239)=aS at*;generalize ad:f.1.size=a0 at*;have bk:aS.cell? ⟨a0,1,none⟩=some (.iface m (.pointer p)):=Blk.cell am 1;clear am V W;go_wp2_with fail;refine n.mono ?_;rintro e bl ⟨aT,aX,J,rfl,N⟩;have R:=A.out.1.trans0 (by rw[ad];exact A.out.2.1) N;rw[<-A.out.2.2]at R;have S:Hid _:=R;clear n N R;go_wp2_with fail;go_roundw
   case rel=>exact⟨i+1,aT,aX,b++J,by rw[u7],by go_num,t7,S.out⟩
   case measure=>simp[intOf];omega
  ·have ae:i=L.length:=t7;have A:Hid (NsQ w.1.size w none 0 [] (dO L) x y b f):=by have:=g;rw[ae,x0]at this;exact this
   clear g t F;go_wp2_with fail;go_ret;exact⟨_,_,b,rfl,A.out⟩
section
theorem I5:prog.built 228 []=some #[.int .i64 0,.slice none 0 0]:=uA
theorem I6(p):prog.built 230 [(0,.pointer p)]=some #[.pointer p]:=uA
theorem I7(a:Nat)(v m):prog.built 234 [(0,.iface a v),(1,.map (some m)),(2,.int .i64 (-1))]=some #[.iface a v,.map (some m),.int .i64 (-1),.string (strOfNums []),.string (strOfNums [])]:=uA
theorem Gd(a:Nat)(v):prog.built 239 [(1,.iface a v)]=some #[.string (strOfNums []),.iface a v]:=uA
def x00:LSg:=(strOfNums [],strOfNums [])
def rtO(P:Pg)(N:Nat)(root:Int):Option (Option Tr):=if root=0 then some none else(wkT P (N+1) 0 ⟨[], -1⟩ x00 root).map fun y=>some y.1
def pe(N:Nat):Option Tr->Prop
 |none=>True
 |some T=>isT T=true/\full T true/\(ar T).Nodup/\∀x∈ar T,2<=x/\x< (N:Int)
def RtP(P:Pg)(N:Nat)(S:World->Prop)(X:Nat->Prop)(root:Int)(w:World)(e:Ending)(w':World):Prop:=
 OnlyS X w w'/\((∃o gt F,rtO P N root=some o/\e= .returned (.pointer (some ⟨gt,0,none⟩))/\TopR w' gt o F/\(∀k∈F,w.1.size<=k)/\S w'/\pe N o)\/(rtO P N root=none/\e= .panicked bI))
variable {S:World->Prop} {X:Nat->Prop} {B0 N ty fn:Nat} {v:Value} {P:Pg}
theorem Ge(h:PgW P N){f a T g n}(d:wkT P f 0 ⟨[], -1⟩ x00 a=some (T,g,n))(j:SeenOk g.seen N):pe N (some T):=by
 unfold wkT at d;cases c:rdT P f 0 ⟨[], -1⟩ a with
 |none=>rw[c]at d;cases d
 |some y=>
  rw[c]at d;obtain⟨o,k,e⟩:=xr.1 d;obtain⟨l,m⟩:=y;cases e;have b:=iW h f 0 ⟨[], -1⟩ a _ _ c;refine⟨b.isT,b.full,?_,b.pgs⟩;have i:=b.seen.nodup_iff.1 j.nodup;rwa [wi]at i
theorem Gf(a6:PgW P N)(B:Src P B0 ty fn v S X)(a w)(br:S w)(aT:B0<=w.1.size)(ba:0<=a)(a9:a<4294967296):
 Calls prog 114 #[.iface ty v,.int .i64 a] w (RtP P N S X a w):=by
 obtain⟨C,p⟩:=aa (w.alloc (.cells #[.int .i64 0,.slice none 0 0] 228));obtain⟨D,q⟩:=aa (C.alloc (.cells #[.pointer (some ⟨w.1.size,0,none⟩)] 230));have W:Below w.1.size w C:=by rw[p];exact bAl _ _
 have Y:Below C.1.size C D:=by rw[q];exact bAl _ _
 have ab:C.1.size=w.1.size+1:=by rw[p];simp
 have ac:D.1.size=w.1.size+1+1:=by rw[q];simp[ab]
 have kI:=(by rw[p];exact aq w _ _:Blk C 228 w.1.size [.int .i64 0,.slice none 0 0]).below Y;have V:Blk D 230 (w.1.size+1) [.pointer (some ⟨w.1.size,0,none⟩)]:=by rw[q,<-ab];exact aq C _ _
 have n:=W.trans (Y.mono W.size);have R:=B.keep _ _ br (n.mono aT) (aV n);by_cases U:a=0
 ·have K:Hid (rtO P N a=some none):=by show rtO P N a=some none;unfold rtO;rw[BC U]
  have o:Hid (RtP P N S X a w (.returned (.pointer (some ⟨w.1.size+1,0,none⟩))) D):=⟨OnlyS.ofBelow n,u5 ⟨none,w.1.size+1,[w.1.size+1,w.1.size],K.out,rfl,⟨w.1.size,none,0,[],[],rfl,V,kI,lJ _ _ _ _ _,rfl,rfl⟩,fun k b=>by simp at b;omega,R,trivial⟩⟩;clear W Y ab ac kI V n R K;subst U;go_enter func114,ntmps114;go_wp2_with fail;go_ret;rw[q,p]at o;exact o.out
 have bz:(a==0)=false:=by simp[U]
 have K:Hid (rtO P N a=(wkT P (N+1) 0 ⟨[], -1⟩ x00 a).map fun y=>some y.1):=by show rtO P N a= _;unfold rtO;rw[BX U]
 obtain⟨E,s⟩:=aa (D.alloc (Obj.map #[] 0));obtain⟨f,t⟩:=aa (E.alloc (.cells #[.iface ty v,.map (some (w.1.size+1+1)),.int .i64 (-1),.string (strOfNums []),.string (strOfNums [])] 234));have a0:Below D.1.size D E:=by rw[s];exact bAl _ _
 have a1:Below E.1.size E f:=by rw[t];exact bAl _ _
 have a3:E.1.size=w.1.size+1+1+1:=by rw[s];simp[ac]
 have bl:f.1.size=w.1.size+1+1+1+1:=by rw[t];simp[a3]
 have r:=a0.trans (a1.mono a0.size);have bc:Blk f 234 (w.1.size+1+1+1) (wkc (.iface ty v) (w.1.size+1+1) (-1) x00):=by rw[t,<-a3];exact aq E _ _
 have bg:SetI f (w.1.size+1+1) []:=by
  have e:SetI E (w.1.size+1+1) []:=⟨.map [],by rw[s,<-ac];exact World.ownsMap_made _ _ _ _,fun i=>by rfl⟩;exact e.same (a1.block _ t7)
 have a7:=B.keep _ _ R (r.mono t7) (aV r);have ag:Wk S B0 (w.1.size+1+1+1) (w.1.size+1+1) N (.iface ty v) f ⟨[], -1⟩ x00:=⟨bc,bg,a7,t7,t7,⟨ya,fun x hx=>by simp at hx⟩⟩;have aA:=n.trans (r.mono n.size);have ak:=kI.below r;have M:=V.below r;have a5:=xq (g:=w.1.size+1+1+1) (m:=w.1.size+1+1) a6 B (N+1) 0 a ⟨[], -1⟩ x00 f.drew (ag.below B ⟨rfl,rfl,rfl,t1,fun _ _=>rfl⟩) t7 (u6 _) ba a9;have ae:= @run_makeMap prog;have ad:=fun k e=>ws (B.low k e) aT;have I:=t6 aA (u2 ak ad);have cs:f.drew.cell? ⟨w.1.size+1,0,none⟩=some (.pointer (some ⟨w.1.size,0,none⟩)):=M.cell 0;have a4:Hid (Blk f 230 (w.1.size+1) [.pointer (some ⟨w.1.size,0,none⟩)]):=M;have a8:Hid _:=bl;clear W Y ab ac a3 bl kI V n R a0 a1 r bc bg a7 ag aA ak M ad;go_enter func114,ntmps114;go_upto_region 4 with fail
 change Code.wp _ _ _ _ ((((w.alloc (.cells #[.int .i64 0,.slice none 0 0] 228)).alloc (.cells #[.pointer (some ⟨w.1.size,0,none⟩)] 230)).alloc (Obj.map #[] 0)).alloc (.cells #[.iface ty v,.map (some (w.1.size+1+1)),.int .i64 (-1),.string (strOfNums []),.string (strOfNums [])] 234));rw[<-p,<-q,<-s,<-t];clear p q s t ae;obtain⟨bT,bB⟩:=aa w.1.size;obtain⟨bW,bC⟩:=aa (w.1.size+1);obtain⟨bX,ae⟩:=aa (w.1.size+1+1);obtain⟨bS,bA⟩:=aa (w.1.size+1+1+1);refine az (fun u=>u.cell? ⟨w.1.size+1,0,none⟩=some (.pointer (some ⟨w.1.size,0,none⟩))) (fun k=>decide (9<=k)) uA ?_;refine ai 0 cs ?_;refine ai 1 cs ?_;refine ai 2 cs ?_;refine ai 3 cs ?_;refine ai 4 cs ?_;refine ai 5 cs ?_;refine ah 6 fun j c=> ?_;go_wp2_with fail;refine BV a5 ?_;rintro e h ⟨F,⟨T,bF,bY,G,d,l,L,rfl,bd,bu,bb,aX,Z⟩|⟨af,rfl⟩⟩
 rotate_left
 ·have Z:=((OnlyS.ofBelow I.out.1:OnlyS X w f).drew).transN F (fun k b e=>by rcases e with e|e|e;exact e;omega;omega);have o:Hid (RtP P N S X a w (.panicked bI) h):=⟨Z,u4 ⟨by rw[K.out,show wkT P (N+1) 0 ⟨[], -1⟩ x00 a=none from af];rfl,rfl⟩⟩;clear Z F af;go_wp2;exact⟨rfl,o.out⟩
 clear a5;have aS:=((OnlyS.ofBelow I.out.1:OnlyS X w f).drew).transN F (fun k b e=>by rcases e with e|e|e;exact e;omega;omega);have O:=Blk.onlyS (show Blk f.drew 230 (w.1.size+1) [.pointer (some ⟨w.1.size,0,none⟩)]from a4.out) F (fun e=>by rcases e with e|e|e;exact absurd (I.out.2.2 _ e) t7;omega;omega);have am:=Blk.onlyS (show Blk f.drew 228 w.1.size [.int .i64 0,.slice none 0 0]from I.out.2.1) F (fun e=>by rcases e with e|e|e;exact absurd (I.out.2.2 _ e) t7;omega;omega);have bv:h.cell? ⟨w.1.size+1,0,none⟩=some (.pointer (some ⟨w.1.size,0,none⟩)):=O.cell 0;have bE:w.1.size+1+1+1+1<=h.1.size:=by have:=F.size;have bn:=a8.out;have bm:f.drew.1.size=f.1.size:=rfl;omega
 have J:∀k∈G,w.1.size+1+1+1+1<=k:=fun k b=>by have:=bb k b;have bn:=a8.out;have bm:f.drew.1.size=f.1.size:=rfl;omega
 have A:=bAl h (.cells [.string (strOfNums []),.iface d (.pointer l)].toArray 239);have Q:=O.below A;have z:=am.below A;have bP:=z.cell 1;have bR:=z.free 1;have bx:=Q.cell 0;have H:=ax (h.alloc (.cells [.string (strOfNums []),.iface d (.pointer l)].toArray 239)) w.1.size 1 (.slice (some ⟨h.1.size,0,none⟩) 1 1);have ap:=Q.only H t7;have an:=z.set 1 (.slice (some ⟨h.1.size,0,none⟩) 1 1);have a2:ORow 239 2 0 (h.alloc (.cells [.string (strOfNums []),.iface d (.pointer l)].toArray 239)) (some ⟨h.1.size,0,none⟩) 1 1 (kdF [(strOfNums [],.iface d (.pointer l))]):=uX _ _ _ _ (u6 _) _ rfl _ rfl;have bf:=iA a2 (fun k b=>H.block k (by have:=cE a2 k b;exact this.2) (fun e=>by simp[rb]at b;omega));have aB:=(bd.below A).onlyS (OnlyS.ofB H) (fun k b e=>by have:=J k b;omega);have o:Hid (RtP P N S X a w (.returned (.pointer (some ⟨w.1.size+1,0,none⟩))) ((h.alloc (.cells [.string (strOfNums []),.iface d (.pointer l)].toArray 239)).setCell ⟨w.1.size,1,none⟩ (.slice (some ⟨h.1.size,0,none⟩) 1 1))):=by
  refine⟨(aS.trans (OnlyS.ofBelow A)).transN (OnlyS.ofB H) (fun k b e=>by omega),u5 ⟨some T,w.1.size+1,_,?_,rfl,⟨w.1.size,some ⟨h.1.size,0,none⟩,1,[(strOfNums [],.iface d (.pointer l))],G,rfl,ap,an,bf,_,rfl,aB⟩,?_,?_,Ge a6 L aX.ok⟩⟩
  ·rw[K.out,show wkT P (N+1) 0 ⟨[], -1⟩ x00 a= _ from L];rfl
  ·intro k b;rcases wA.1 b with rfl|b
   ·omega
   rcases wA.1 b with rfl|b
   ·omega
   rcases wE.1 b with b|b
   ·simp[rb]at b;omega
   ·have:=J k b;omega
  ·exact B.keep _ _ (B.keep _ _ aX.src (A.mono t7) (aV A)) (H.below aT (by have:=A.size;omega)) (aw H z uv)
 clear aS O am A Q z H ap an a2 bf aB F bd bu bb aX Z L J;go_wp2_with fail;refine ao c ?_;clear c j;refine ah 7 fun j c=> ?_;refine jZ _ _ rfl (cs:=#[.string (strOfNums []),.iface d (.pointer l)]) ?bk ?_
 case bk=>
  simp only[wa,vo,v6];exact Gd d (.pointer l)
 refine ao c ?_;clear c j;refine ah 8 fun j c=> ?_;refine bU _ _ _ rfl (v:= .slice (some ⟨h.1.size,0,none⟩) 1 1) (w':=h.alloc (.cells [.string (strOfNums []),.iface d (.pointer l)].toArray 239)) ?bs ?_
 case bs=>
  simp only[wa,vo,v6];exact fq mc t7 (.agg #[.string (strOfNums []),.iface d (.pointer l)]) [.string (strOfNums []),.iface d (.pointer l)] rfl rfl h
 refine ao c ?_;clear c j;refine ah 9 fun j c=> ?_;go_wp2_with fail;refine ao c ?_;clear c j;refine ah 10 fun j c=> ?_;go_wp2_with fail;refine ao c ?_;clear c j;refine ah 11 fun j c=> ?_;go_wp2_with fail;refine ao c ?_;clear c j;refine bi ?_;go_wp2_with fail;go_ret;exact o.out
end
section
def al(gen root used free:Int):List Value:=[.int .i64 gen,.int .i64 root,.int .i64 used,.int .i64 free]
def hoC(t p f o:Value):List Value:=[t,p,f,o]
def hoZ:List Value:=hoC (.pointer none) (.slice none 0 0) (.slice none 0 0) (.slice none 0 0)
structure HoQ(N:Nat)(S:World->Prop)(hb:Nat)(o:Option Tr)(fs own:List Int)(w w':World):Prop where
 ex:∃gt F a c a2 c2,Blk w' 102 hb (hoC (.pointer (some ⟨gt,0,none⟩)) (.slice none 0 0) (.slice a fs.length c) (.slice a2 own.length c2))/\TopR w' gt o F/\(∀k∈F,w.1.size<=k)/\Own1 3 w.1.size w' a fs.length c (on fs)/\Own1 3 w.1.size w' a2 own.length c2 (on own)
 src:S w'
 good:pe N o
 lf:fs.length<=65536
 lo:own.length<=1024
def HoP(P:Pg)(N:Nat)(S:World->Prop)(X:Nat->Prop)(hb:Nat)(root free:Int)(w:World)(e:Ending)(w':World):Prop:=
 OnlyS (fun k=>X k\/k=hb) w w'/\((∃o fs own,rtO P N root=some o/\flR P (N+1) free [] []=some (fs,own)/\e= .returned (.tuple #[])/\HoQ N S hb o fs own w w')\/((rtO P N root=none\/flR P (N+1) free [] []=none)/\e= .panicked bI))
variable {S:World->Prop} {X:Nat->Prop} {B0 N ty fn:Nat} {v:Value} {P:Pg}
theorem Blk.keepX{w w' t g xs}(a:Src P B0 ty fn v S X)(c:Blk w t g xs)(b:OnlyS X w w')(d:B0<=g):Blk w' t g xs:=c.onlyS b (fun e=>by have:=a.low g e;omega)
theorem Gg(am:PgW P N)(aX:∀t,(P.bd t).length<=256)(i:Src P B0 ty fn v S X)(sb B f aS d ak b w)(E:Blk w 178 sb [.iface ty v])(D:Blk w 36 B (al aS d ak b))(j:Blk w 102 f hoZ)(aT:S w)(a8:B0<=sb)(a6:B0<=B)(x:B0<=f)(a5:0<=d)(a3:d<4294967296)(a0:0<=b)(a1:b<4294967296):
 Calls prog 113 #[.pointer (some ⟨sb,0,none⟩),.pointer (some ⟨B,0,none⟩),.pointer (some ⟨f,0,none⟩)] w (HoP P N S X f d b w):=by
 have bk:=j.lt;have bg:B0<=w.1.size:=t7;have ap:=Gf am i d w aT bg a5 a3;have ab:w.cell? ⟨sb,0,none⟩=some (.iface ty v):=E.cell 0;have m:w.cell? ⟨B,1,none⟩=some (.int .i64 d):=D.cell 1;have ae:sb≠f:=fun e=>by subst e;unfold Blk at E j;rw[E]at j;cases j
 have af:B≠f:=fun e=>by subst e;unfold Blk at D j;rw[D]at j;cases j
 have F:=t6 E (u2 D j);clear E D j aT;go_enter func113,ntmps113;go_wp2_with fail;refine ap.mono ?_;clear ap ab m;rintro e w1 ⟨r,⟨o,H,bl,a7,rfl,ac,I,bb,a2⟩|⟨p,rfl⟩⟩
 rotate_left
 ·have l:Hid (HoP P N S X f d b w (.panicked bI) w1):=⟨r.mono (fun k _ e=>u5 e),u4 ⟨u5 p,rfl⟩⟩;clear r p;go_wp2;exact⟨rfl,l.out⟩
 have V:=Blk.keepX i F.out.1 r a8;have T:=Blk.keepX i F.out.2.1 r a6;have q:=Blk.keepX i F.out.2.2 r x;have bu:=r.size;have s:=ax w1 f 0 (.pointer (some ⟨H,0,none⟩));have W:=V.only s ae;have U:=T.only s af;have Q:=q.set 0 (.pointer (some ⟨H,0,none⟩));have aA:=i.keep _ _ bb (s.below x t7) (aw s q uv);have aB:=ac.keep (fun k n=>s.block k (ac.flt k n) (fun e=>by have:=I k n;omega));have bd:=q.cell 0;have bf:=q.free 0;have bv:=s.size;have K:=(r.mono (fun k _ e=>u5 e)).transN (OnlyS.ofB s) (fun k _ e=>u4 e);have A:=t6 aB (u2 Q K);clear V T s Q aB K q ac bb r F;go_upto_region 1 with fail
 generalize w1.setCell ⟨f,0,none⟩ (.pointer (some ⟨H,0,none⟩))=Z at*;clear bd bf;have an:=Fs am aX i b Z aA t7 a0 a1;have ab:Z.cell? ⟨sb,0,none⟩=some (.iface ty v):=W.cell 0;have m:Z.cell? ⟨B,3,none⟩=some (.int .i64 b):=U.cell 3;clear W U aA;go_wp2_with fail;refine an.mono ?_;clear an ab m;rintro e J ⟨u,⟨C,z,a,c,G,m,L,a4,ad,rfl,M,O,bc,ag⟩|⟨p,rfl⟩⟩
 rotate_left
 ·have l:Hid (HoP P N S X f d b w (.panicked bI) J):=⟨A.out.2.2.transN u (fun k _ e=>u5 e),u4 ⟨u4 p,rfl⟩⟩;clear u p;go_wp2;exact⟨rfl,l.out⟩
 have g:=Blk.keepX i A.out.2.1 u x;have Y:=A.out.1.keep (fun k n=>u.block k (A.out.1.flt k n) (fun e=>by have:=i.low k e;have:=I k n;omega));have bx:=u.size;have bm:=g.cell 2;have br:=g.free 2;have a9:=ax J f 2 (.slice a C.length c);have y:=g.set 2 (.slice a C.length c);have bn:=y.cell 3;have bs:=y.free 3;have ba:=ax (J.setCell ⟨f,2,none⟩ (.slice a C.length c)) f 3 (.slice G z.length m);have R:=y.set 3 (.slice G z.length m);have h:=a9.trans ba;have l:Hid (HoP P N S X f d b w (.returned (.tuple #[])) ((J.setCell ⟨f,2,none⟩ (.slice a C.length c)).setCell ⟨f,3,none⟩ (.slice G z.length m))):=by
  refine⟨(A.out.2.2.transN u (fun k _ e=>u5 e)).transN (OnlyS.ofB h) (fun k _ e=>u4 e),u5 ⟨o,C,z,a7,L,rfl,⟨H,bl,a,c,G,m,R,?_,I,?_,?_⟩,?_,a2,a4,ad⟩⟩
  ·exact Y.keep (fun k n=>h.block k (Y.flt k n) (fun e=>by have:=I k n;omega))
  ·exact(M.keep (aw h g uv)).mono t7
  ·exact(O.keep (aw h g uv)).mono t7
  ·exact i.keep _ _ bc (h.below x t7) (aw h g uv)
 clear g Y a9 y ba R h M O bc ag u L A;go_wp2_with fail;refine BB (v:= .tuple #[]) (by simp[results,results113]) rfl l.out
end
theorem Gh(b id w)(a:w.cell? ⟨b,0,none⟩=some (.int .i64 id)):
 Calls prog 217 #[.pointer (some ⟨b,0,none⟩)] w fun e w'=>e= .returned (.int .i64 id)/\w'=w:=by
 go_enter func217,ntmps217;go_wp2;go_ret;exact⟨rfl,rfl⟩
theorem Gj(Q o a1 w)(a2:TopR w Q o a1)(M:okO o)(aB:(cN o).length<=1024)(Y:∀id∈cN o,id≠0):
 Calls prog 116 #[.pointer (some ⟨Q,0,none⟩)] w fun e w'=> ∃a c,e= .returned (.slice a (cN o).length c)/\Below w.1.size w w'/\Own1 3 w.1.size w' a (cN o).length c (on (srt (cN o))):=by
 have U:=Gb Q o a1 w a2 M aB;generalize cN o=d at*;have am:Hid _:=Y;clear a2 Y M;go_enter func116,ntmps116;go_wp2_with fail;refine U.mono ?_;rintro e w1 ⟨an,aA,f,rfl,m⟩;have N:=m.len;have H:Below w.1.size w w1:=⟨m.fr.os,m.fr.tape,m.fr.output,m.fr.size,fun i ac=>m.fr.block i ac (fun e=>by simp[rb]at e)⟩;have P:=t6 m H;have aT:f.length<=1024:=t7;have F:Hid (f.length=d.length):=N;clear U m H N;go_wp2_with fail;go_loopw [3,9] (fun aX a0 wr=> ∃(i:Nat)(r:Option Addr)(u:Nat),aX= .slice r i u/\a0= .int .i64 (i:Nat)/\i<=f.length/\Below w.1.size w wr/\(∀t,t≠3->KeepT t w1 wr)/\Own1 3 w.1.size wr r i u (on (d.take i))) (fun _ s _=>f.length-(intOf s).toNat)
 case atStart=>exact⟨0,none,0,rfl,rfl,u6 _,P.out.2,fun _ _=>KeepT.refl _ _,cQ _ _ _⟩
 case round=>
  obtain⟨i,r,u,rfl,rfl,ac,p,j,g⟩:=hrel;obtain⟨n,ae⟩:=aa wr;subst ae;have af:=p.size;have O:=t6 p j;by_cases K:i<f.length
  ·have aS:(i:Int)< (f.length:Int):=t7;have L:Own1 236 w.1.size n an f.length aA f:=by have:=P.out.1.own.keep (j _ uv);rwa [wg]at this
   have Z:=P.out.1.nv i K;obtain⟨a4,rfl,_,_,_,I⟩:=L.at_ t7;have J:=I i K;have x:i<d.length:=by have:=F.out;omega
   have T:Hid (d.take (i+1)=d.take i++[d.getD i 0]):=by
    show d.take (i+1)=d.take i++[d.getD i 0];rw[xd x];simp[List.getD,x]
   have R:d.getD i 0≠0:=am.out _ (by rw[List.getD,wy x];exact yb _);generalize d.getD i 0=id at*;have ak:(id==0)=false:=by simp[R]
   generalize f.getD i undef=v at*;have z:=j 263 uv;have y:=j 228 uv;clear I L p j;obtain⟨b,a5,⟨rfl,l⟩|⟨rfl,l⟩⟩:=Z;have ab:n.cell? ⟨b,0,none⟩=some (.int .i64 id):=(l.keepT z).cell 0;clear l z y;unfold lfI at J;have q:=F3 b
   rotate_left
   have ab:n.cell? ⟨b,0,none⟩=some (.int .i64 id):=(l.keepT y).cell 0;clear l z y;unfold inI at J;have q:=F5 b
   all_goals
    have l:=Gh b id n ab;go_wp2_with fail;refine l.mono ?_;rintro e w' ⟨rfl,A⟩;obtain rfl:=A.symm;clear A;go_wp2_with fail;refine l.mono ?_;rintro e w' ⟨rfl,A⟩;obtain rfl:=A.symm;clear A l q;go_wp2_with (at_builtin;refine iF rfl _ _ co rfl w.1.size r i u (on (d.take i)) rfl g (.int .i64 id) rfl rfl t7 t7 af ?_);intro D ap C B X G W;have S:=bAl n (.cells #[.int .i64 id] 3);have ag:∀t,t≠3->KeepT t n C:=fun t E=>(aV S).trans (bD (bQ g S) G (DX E));have h:Hid (Below w.1.size w C/\(∀t,t≠3->KeepT t w1 C)/\Own1 3 w.1.size C (some ⟨D,0,none⟩) (i+1) ap (on (d.take (i+1)))):=⟨O.out.1.trans X,fun t E=>(O.out.2 t E).trans (ag t E),by rw[T.out,<-fv];exact B⟩;clear B X G W S ag g;go_wp2_with fail;go_roundw
    case rel=>exact⟨i+1,_,_,rfl,by go_num,t7,h.out.1,h.out.2.1,h.out.2.2⟩
    case measure=>simp[intOf];omega
  ·have ad:i=d.length:=by have:=F.out;omega
   have a3:¬((i:Int)< (f.length:Int)):=t7;subst ad;rw[x0]at g;have V:=xD w.1.size r u d n g t7;clear g p j;go_wp2_with fail;refine V.mono ?_;rintro e C ⟨rfl,D,B⟩;have h:=t6 D B;clear V D B;go_wp2_with fail;go_ret;exact⟨r,u,rfl,O.out.1.grown h.out.1 t7 (fun k e=>(BS h.out.2 k e).1),h.out.2⟩
section
theorem Gk{N o}(f:pe N o):okO o/\(cN o).length<=N/\∀x∈cN o,x≠0:=by
 cases o with
 |none=>exact⟨trivial,u6 _,fun x hx=>by simp[cN]at hx⟩
 |some T=>
  obtain⟨b,c,d,a⟩:=f;have e:SeenOk (ar T) N:=⟨d,fun x hx=>by have:=a x hx;omega⟩;refine⟨⟨b,c⟩,by show(pgN T).length<=N;rw[(lg T).length_eq];exact e.le,fun x hx=>by have:=a x ((lg T).mem_iff.1 hx);omega⟩
def hoR(P:Pg)(N:Nat)(root free:Int)(M:Nat):Bool:=match rtO P N root,flR P (N+1) free [] []with
 |some o,some p=>eS (srt (cN o)++(p.1++p.2)) M
 |_,_=>false
def hoB(P:Pg)(N:Nat)(pages gen root used free:Int):Bool:=bG gen root used free&&decide (used<=pages)&&hoR P N root free used.toNat
theorem Gl{P N b a M o d c}(e:rtO P N b=some o)(f:flR P (N+1) a [] []=some (d,c)):hoR P N b a M=eS (srt (cN o)++(d++c)) M:=by unfold hoR;rw[e,f]
theorem Gm{P N a b M}(c:rtO P N a=none\/flR P (N+1) b [] []=none):hoR P N a b M=false:=by
 unfold hoR;rcases c with c|c
 ·rw[c]
 ·rw[c];cases rtO P N a<;>rfl
def HiP(P:Pg)(N:Nat)(S:World->Prop)(X:Nat->Prop)(r:Bool)(w:World)(e:Ending)(w':World):Prop:=
 OnlyS X w w'/\(r=true->S w')/\∃cs:List Value,cs.length=4/\(∀u∈cs,u.oneCell'=true)/\e= .returned (.tuple #[.agg cs.toArray,.bool r])
theorem lp:(prog.info? 102).map (·.size)=some 4:=uA
theorem bj:(prog.info? 36).map (·.size)=some 4:=uA
theorem I9:prog.built 102 []=some hoZ.toArray:=uA
theorem jJ:∀u∈hoZ,u.oneCell'=true:=by intro u a;simp[hoZ,hoC]at a;rcases a with rfl|rfl<;>rfl
theorem yf(p a b c n m k i j l):∀u∈hoC (.pointer p) (.slice a n i) (.slice b m j) (.slice c k l),u.oneCell'=true:=by
 intro u d;simp[hoC]at d;rcases d with rfl|rfl|rfl|rfl<;>rfl
variable {S:World->Prop} {X:Nat->Prop} {B0 N ty fn:Nat} {v:Value} {P:Pg}
theorem Gn(cn:PgW P N)(c6:∀t,(P.bd t).length<=256)(T:Src P B0 ty fn v S X)(h j d f b w)(ds:S w)(c4:B0<=w.1.size):
 Calls prog 72 #[.iface ty v,.int .i64 (h:Nat),.agg (al j d f b).toArray] w (HiP P N S X (hoB P N (h:Nat) j d f b) w):=by
 obtain⟨aA,ad⟩:=aa (w.alloc (.cells #[.iface ty v] 178));obtain⟨aB,ae⟩:=aa (aA.alloc (.cells (al j d f b).toArray 36));obtain⟨bb,af⟩:=aa (aB.alloc (.cells hoZ.toArray 102));have cv:Below w.1.size w aA:=by rw[ad];exact bAl _ _
 have cz:Below aA.1.size aA aB:=by rw[ae];exact bAl _ _
 have cA:Below aB.1.size aB bb:=by rw[af];exact bAl _ _
 have cD:aA.1.size=w.1.size+1:=by rw[ad];simp
 have cL:aB.1.size=w.1.size+1+1:=by rw[ae];simp[cD]
 have dV:bb.1.size=w.1.size+1+1+1:=by rw[af];simp[cL]
 have bB:=cz.trans (cA.mono cz.size);have c9:=(by rw[ad];exact aq w _ _:Blk aA 178 w.1.size [.iface ty v]).below bB;have cr:=(by rw[ae,<-cD];exact aq aA _ _:Blk aB 36 (w.1.size+1) (al j d f b)).below cA;have c7:Blk bb 102 (w.1.size+1+1) hoZ:=by rw[af,<-cL];exact aq aB _ _
 have cj:=cv.trans (bB.mono cv.size);have dU:(prog.info? 36).map (·.size)=some (al j d f b).toArray.size:=bj;have a7:(prog.info? 102).map (·.size)=some hoZ.toArray.size:=lp;have c0:=pP j d f b bb;have cP:Hid _:=cj;have d6:w.1.size+1+1<bb.1.size:=t7;clear cv cz cA cD cL bB cj dV;go_enter func72,ntmps72;go_upto_region 1 with fail
 change Code.wp _ _ _ _ (((w.alloc (.cells #[.iface ty v] 178)).alloc (.cells (al j d f b).toArray 36)).alloc (.cells hoZ.toArray 102));rw[<-ad,<-ae,<-af];clear ad ae af;go_wp2_with (refine BD rfl 36 _ rfl (w.1.size+1) rfl 36 (al j d f b).toArray (0,0) _ cr underlying36 rfl dU ?_);refine c0.mono ?_;rintro e Y ⟨rfl,a6⟩;have b9:=c9.below a6;have bv:=cr.below a6;have ak:=c7.below a6;have bd:=cP.out.trans (a6.mono cP.out.size);have d7:=a6.size;have cV:=T.keep _ _ ds (bd.mono c4) (aV bd);have dd:Y.cell? ⟨w.1.size+1,2,none⟩=some (.int .i64 f):=bv.cell 2;have bA:=du Y (w.1.size+1+1) hoZ.toArray;have aS:=ak.setRow hoZ;have an:Hid (hoB P N (h:Nat) j d f b=false->HiP P N S X (hoB P N (h:Nat) j d f b) w (.returned (.tuple #[.agg hoZ.toArray,.bool false])) (Y.setRow (w.1.size+1+1) hoZ.toArray)):=fun dX=>⟨(OnlyS.ofBelow bd).transN (OnlyS.ofB bA) (fun k bg e=>by omega),(fun D=>by rw[dX]at D;cases D),hoZ,rfl,jJ,by rw[dX]⟩;have ab:=t6 b9 (u2 bv (u2 bd cV));clear c0 c9 cr c7 a6 b9 bd cV bA;cases J:bG j d f b with
 |false=>
  have ac:Hid (hoB P N (h:Nat) j d f b=false):=by show hoB P N (h:Nat) j d f b=false;unfold hoB;rw[J];rfl
  go_wp2_with (first|(refine BO rfl 102 _ _ rfl (w.1.size+1+1) hoZ.toArray rfl rfl 102 _ ak a7 rfl (df jJ) ?_));refine BB (v:= .tuple #[.agg hoZ.toArray,.bool false]) ?_ rfl (an.out ac.out);exact cI results72 _ _ (w.1.size+1+1) 102 hoZ.toArray _ rfl aS underlying102 rfl a7 rfl
 |true=>
  have a3:iK j f=true/\nmB f d=true/\nmB f b=true:=by
   unfold bG at J;rw[wz,wz]at J;exact J
  obtain⟨eb,ef,u1,ek⟩:=CC a3.1;have db:=CC a3.2.1;have da:=CC a3.2.2;by_cases bn:f<=(h:Int)
  rotate_left
  ·have cq:(h:Int)<f:=t7;have ac:Hid (hoB P N (h:Nat) j d f b=false):=by show hoB P N (h:Nat) j d f b=false;unfold hoB;rw[J,B1 bn];rfl
   clear bn;go_wp2_with (first|(refine BO rfl 102 _ _ rfl (w.1.size+1+1) hoZ.toArray rfl rfl 102 _ ak a7 rfl (df jJ) ?_));refine BB (v:= .tuple #[.agg hoZ.toArray,.bool false]) ?_ rfl (an.out ac.out);exact cI results72 _ _ (w.1.size+1+1) 102 hoZ.toArray _ rfl aS underlying102 rfl a7 rfl
  have cq:¬(h:Int)<f:=t7;have a0:Hid (hoB P N (h:Nat) j d f b=hoR P N d b f.toNat):=by
   show hoB P N (h:Nat) j d f b= _;unfold hoB;rw[J,B2 bn];rfl
  obtain⟨M,rfl⟩:∃M:Nat,f=(M:Int):=⟨f.toNat,t7⟩;rw[Int.toNat_natCast]at a0;clear an J a3 aS;obtain⟨m,bf⟩:=aa Y.1.size;obtain⟨I,a1⟩:=aa (Y.alloc (.cells hoZ.toArray 102));have am:Below Y.1.size Y I:=by rw[a1];exact bAl _ _
  have bs:Blk I 102 m hoZ:=by rw[a1,bf];exact aq Y _ _
  have ca:=ab.out.1.below am;have bx:=ab.out.2.1.below am;have c8:=ak.below am;have cW:=T.keep _ _ ab.out.2.2.2 (am.mono t7) (aV am);have c3:=ab.out.2.2.1.trans (am.mono t7);have bP:=Gg cn c6 T w.1.size (w.1.size+1) m j d (M:Nat) b I ca bx bs cW c4 t7 t7 t7 t7 t7 t7;have d8:w.1.size+1+1<m:=t7;have dI:=bs.lt;have ap:=t6 c3 (u2 bx (u2 c8 am));clear am bs ca bx cW c3 ab;go_upto_region 4 with fail
  change Code.wp _ _ _ _ (Y.alloc (.cells hoZ.toArray 102));rw[<-a1,<-bf];clear a1 bf ak dd bv;by_cases V:∃o p,rtO P N d=some o/\flR P (N+1) b [] []=some p
  rotate_left
  ·have b1:rtO P N d=none\/flR P (N+1) b [] []=none:=by
    cases F:rtO P N d with
    |none=>exact u5 rfl
    |some o=>
     cases D:flR P (N+1) b [] []with
     |none=>exact u4 rfl
     |some p=>exact absurd ⟨o,p,F,D⟩ V
   have cR:Calls prog 113 #[.pointer (some ⟨w.1.size,0,none⟩),.pointer (some ⟨w.1.size+1,0,none⟩),.pointer (some ⟨m,0,none⟩)] I fun e w'=>e= .panicked bI/\OnlyS (fun k=>X k\/k=m) I w':=bP.mono (by
    rintro e w' ⟨o,⟨cs,n,l,F,D,_⟩|⟨_,bR⟩⟩
    ·exact absurd ⟨cs,_,F,D⟩ V
    ·exact⟨bR,o⟩)
   have ba:=Bt 113 _ I (OnlyS (fun k=>X k\/k=m) I) (fun _=>rfl) cR;have ac:Hid (hoB P N (h:Nat) j d (M:Nat) b=false):=by show hoB P N (h:Nat) j d (M:Nat) b=false;rw[a0.out];exact Gm b1
   clear bP cR V b1;go_wp2_with fail;refine BV ba ?_;rintro e bE ⟨rfl,cB,W,C⟩;have Q:¬(X (w.1.size+1+1)\/w.1.size+1+1=m):=fun e=>by
    rcases e with e|e
    ·have:=T.low _ e;omega
    ·omega
   have b7:=(ap.out.2.2.1.onlyS W Q).below C;have bA:=du bE (w.1.size+1+1) hoZ.toArray;have aS:=b7.setRow hoZ;have a8:Hid (HiP P N S X (hoB P N (h:Nat) j d (M:Nat) b) w (.returned (.tuple #[.agg hoZ.toArray,.bool false])) (bE.setRow (w.1.size+1+1) hoZ.toArray)):=⟨(((OnlyS.ofBelow ap.out.1).transN W (fun k bg e=>by rcases e with e|e;exact e;omega)).trans (OnlyS.ofBelow C)).transN (OnlyS.ofB bA) (fun k bg e=>by omega),(fun D=>by rw[ac.out]at D;cases D),hoZ,rfl,jJ,by rw[ac.out]⟩;clear ba W C ap bA Q;go_wp2_with (first|(refine BO rfl 102 _ _ rfl (w.1.size+1+1) hoZ.toArray rfl rfl 102 _ b7 a7 rfl (df jJ) ?_));refine BB (v:= .tuple #[.agg hoZ.toArray,.bool false]) ?_ rfl a8.out;exact cI results72 _ _ (w.1.size+1+1) 102 hoZ.toArray _ rfl aS underlying102 rfl a7 rfl
  obtain⟨o,⟨n,l⟩,a4,a2⟩:=V;have cS:Calls prog 113 #[.pointer (some ⟨w.1.size,0,none⟩),.pointer (some ⟨w.1.size+1,0,none⟩),.pointer (some ⟨m,0,none⟩)] I fun e w'=>e= .returned (.tuple #[])/\(OnlyS (fun k=>X k\/k=m) I w'/\HoQ N S m o n l I w'):=bP.mono (by
   rintro e w' ⟨cs,⟨ej,dW,dS,F,D,bR,ag⟩|⟨F|F,bR⟩⟩
   ·rw[a4]at F;rw[a2]at D;cases F;cases D;exact⟨bR,cs,ag⟩
   ·rw[a4]at F;cases F
   ·rw[a2]at F;cases F)
  have ba:=Br 113 _ I _ (fun _=>rfl) cS;have dr:Hid (hoB P N (h:Nat) j d (M:Nat) b=eS (srt (cN o)++(n++l)) M):=by show hoB P N (h:Nat) j d (M:Nat) b= _;rw[a0.out];exact Gl a4 a2
  clear bP cS a4 a2 a0;go_wp2_with fail;refine BV ba ?_;rintro e cB ⟨rfl,W,ag⟩;clear ba;obtain⟨H,ea,a,c,z,A,bu,c1,ac,cb,ce⟩:=ag.ex;obtain⟨bl,cp,bk⟩:=Gk ag.good;have d2:=ag.lf;have d3:=ag.lo;have cT:=Gj H o ea cB c1 bl (by have:=cn.le;omega) bk;have dk:cB.cell? ⟨m,0,none⟩=some (.pointer (some ⟨H,0,none⟩)):=bu.cell 0;have em:=W.size;have Q:∀g,B0<=g->g≠m->¬(X g\/g=m):=fun g F D e=>by
   rcases e with e|e
   ·have:=T.low _ e;omega
   ·exact D e
  have b4:=ap.out.2.1.onlyS W (Q _ t7 t7);have b6:=ap.out.2.2.1.onlyS W (Q _ t7 t7);have bY:=(OnlyS.ofBelow ap.out.1).transN W (fun k bg e=>by rcases e with e|e;exact e;omega);have Z:=t6 bu (u2 cb (u2 ce (u2 b4 (u2 b6 (u2 bY ag.src)))));have d4:(cN o).length<=1024:=by have:=cn.le;omega
  have bS:Hid ((srt (cN o)).length=(cN o).length):=iX _;clear bu c1 ac cb ce b4 b6 bY ag bl cp bk ap W Q;go_upto_region 8 with fail
  refine cT.mono ?_;rintro e bE ⟨q,r,rfl,C,cg⟩;clear cT;have G:=Z.out.1.below C;have dl:=G.cell 1;have dq:=G.free 1;generalize d5:(cN o).length=s at*;have K:=ax bE m 1 (.slice q s r);have b3:=G.set 1 (.slice q s r);have cc:=(Z.out.2.1.below C).keep (aw K G uv);have cf:=(Z.out.2.2.1.below C).keep (aw K G uv);have ch:=cg.keep (aw K G uv);have b5:=(Z.out.2.2.2.1.below C).only K t7;have b8:=(Z.out.2.2.2.2.1.below C).only K t7;have en:=C.size;have bZ:=(Z.out.2.2.2.2.2.1.trans (OnlyS.ofBelow C)).transN (OnlyS.ofB K) (fun k bg e=>by omega);have cX:=T.keep _ _ (T.keep _ _ Z.out.2.2.2.2.2.2 (C.mono t7) (aV C)) (K.below t7 t7) (aw K G uv);have eq:=K.size;have x:=t6 b3 (u2 cc (u2 cf (u2 ch (u2 b5 (u2 b8 (u2 bZ cX))))));clear G K b3 cc cf ch b5 b8 bZ cX cg C Z dk;go_upto_region 8 with fail
  generalize bE.setCell ⟨m,1,none⟩ (.slice q s r)=y at*;clear dl dq;have B:y.drew.cell? ⟨m,0,none⟩=some (.pointer (some ⟨H,0,none⟩))/\y.drew.cell? ⟨m,1,none⟩=some (.slice q s r)/\y.drew.cell? ⟨m,2,none⟩=some (.slice a n.length c)/\y.drew.cell? ⟨m,3,none⟩=some (.slice z l.length A)/\y.drew.cell? ⟨w.1.size+1,2,none⟩=some (.int .i64 (M:Nat)):=⟨Blk.cell x.out.1 0,Blk.cell x.out.1 1,Blk.cell x.out.1 2,Blk.cell x.out.1 3,Blk.cell x.out.2.2.2.2.1 2⟩;have d1:m<y.1.size:=t7;have a9:Hid (∀u,Below y.1.size y u->u.cell? ⟨m,0,none⟩=some (.pointer (some ⟨H,0,none⟩))/\u.cell? ⟨m,1,none⟩=some (.slice q s r)/\u.cell? ⟨m,2,none⟩=some (.slice a n.length c)/\u.cell? ⟨m,3,none⟩=some (.slice z l.length A)/\u.cell? ⟨w.1.size+1,2,none⟩=some (.int .i64 (M:Nat))):=fun u bm=>⟨Blk.cell (x.out.1.below bm) 0,Blk.cell (x.out.1.below bm) 1,Blk.cell (x.out.1.below bm) 2,Blk.cell (x.out.1.below bm) 3,Blk.cell (x.out.2.2.2.2.1.below bm) 2⟩;refine az (fun u=>u.cell? ⟨m,0,none⟩=some (.pointer (some ⟨H,0,none⟩))/\u.cell? ⟨m,1,none⟩=some (.slice q s r)/\u.cell? ⟨m,2,none⟩=some (.slice a n.length c)/\u.cell? ⟨m,3,none⟩=some (.slice z l.length A)/\u.cell? ⟨w.1.size+1,2,none⟩=some (.int .i64 (M:Nat))) (fun k=>decide (12<=k)) uA ?_;refine ai 0 B ?_;refine ai 1 B ?_;refine ai 2 B ?_;refine ai 3 B ?_;refine ai 4 B ?_;refine ai 5 B ?_;refine ai 6 B ?_;refine ai 9 B ?_;refine ai 10 B ?_;refine ah 7 fun U E=> ?_;go_wp2_with fail;have aX:Below y.1.size y (y.alloc (.cells #[.slice q s r,.slice a n.length c,.slice z l.length A] 100)).drew:=(bAl _ _).drew;refine E.out _ _ (fun _=>a9.out _ aX) ?_;clear E U;have br:Blk (y.alloc (.cells #[.slice q s r,.slice a n.length c,.slice z l.length A] 100)).drew 100 y.1.size [.slice q s r,.slice a n.length c,.slice z l.length A]:=aq y 100 #[.slice q s r,.slice a n.length c,.slice z l.length A];generalize (y.alloc (.cells #[.slice q s r,.slice a n.length c,.slice z l.length A] 100)).drew=c2 at*;generalize R:y.1.size=dP at*;have cl:=Fc dP 0 3 3 (fun i=>[q,a,z].getD i none) (fun i=>[s,n.length,l.length].getD i 0) (fun i=>[r,c,A].getD i 0) (fun i=>[srt (cN o),n,l].getD i []) c2 br.lt t7
   (fun i dD=>by
 have:i=0\/i=1\/i=2:=t7;rcases this with rfl|rfl|rfl
 ·exact br.cell 0
 ·exact br.cell 1
 ·exact br.cell 2)
   (fun i dD=>by
 have:i=0\/i=1\/i=2:=t7;rcases this with rfl|rfl|rfl
 ·exact(x.out.2.2.2.1.below (by rw[R];exact aX)).mono (u6 _)
 ·exact(x.out.2.1.below (by rw[R];exact aX)).mono (u6 _)
 ·exact(x.out.2.2.1.below (by rw[R];exact aX)).mono (u6 _))
   (by simp[dg,bS.out];omega)
  rw[show dg (fun i=>[srt (cN o),n,l].getD i []) 3=srt (cN o)++(n++l)by simp[dg]]at cl;have c5:(srt (cN o)++(n++l)).length<=1048576:=by rw[u7,u7,bS.out];omega
  generalize srt (cN o)++(n++l)=cm at*;have bT:Hid _:=aX;have d9:=aX.size;clear br aX;refine ah 8 fun U E=> ?_;go_wp2_with fail;refine cl.mono ?_;rintro e ck ⟨dc,dp,rfl,bc,bz⟩;have bX:=bT.out.trans (bc.mono t7);have cM:=Fv c2.1.size dc dp cm M ck bz c5 t7;have L:=t6 bX bz;have dE:=bc.size;clear cl bX bc bz bT;go_wp2_with fail;refine E.out _ _ (fun _=>a9.out _ L.out.1) ?_;clear E U;refine ah 11 fun U E=> ?_;go_wp2_with fail;refine cM.mono ?_;rintro e bC ⟨rfl,b0⟩;have O:=L.out.1.grown b0 t7 (fun k e=>by have:=(BS L.out.2 k e).1;omega);have b2:KeepT 5 ck bC:=bD L.out.2 b0 uv;have aT:=x.out.2.2.2.2.2.1.below (by rw[R];exact O);have bW:=T.keep _ _ x.out.2.2.2.2.2.2.2 (O.mono t7) ((aV (by rw[R];exact L.out.1)).trans b2);have a5:=du bC (w.1.size+1+1) (hoC (.pointer (some ⟨H,0,none⟩)) (.slice q s r) (.slice a n.length c) (.slice z l.length A)).toArray;have aS:=aT.setRow (hoC (.pointer (some ⟨H,0,none⟩)) (.slice q s r) (.slice a n.length c) (.slice z l.length A));have dF:=O.size;have a8:Hid (HiP P N S X (hoB P N (h:Nat) j d (M:Nat) b) w (.returned (.tuple #[.agg (hoC (.pointer (some ⟨H,0,none⟩)) (.slice q s r) (.slice a n.length c) (.slice z l.length A)).toArray,.bool (eS cm M)])) (bC.setRow (w.1.size+1+1) (hoC (.pointer (some ⟨H,0,none⟩)) (.slice q s r) (.slice a n.length c) (.slice z l.length A)).toArray)):=by
   refine⟨(x.out.2.2.2.2.2.2.1.trans (OnlyS.ofBelow (by rw[R];exact O))).transN (OnlyS.ofB a5) (fun k bg e=>by omega),fun _=>T.keep _ _ bW (a5.below t7 t7) (aw a5 aT uv),_,rfl,?_,by rw[dr.out]⟩;exact yf _ _ _ _ _ _ _ _ _ _
  have bF:=a9.out _ O;clear cM O b2 bW a5 L;go_wp2_with fail;refine ao E ?_;clear E U bF;refine ah 12 fun U E=> ?_;refine wp_store_row 102 _ _ rfl (w.1.size+1+1) (hoC (.pointer (some ⟨H,0,none⟩)) (.slice q s r) (.slice a n.length c) (.slice z l.length A)).toArray rfl rfl 102 _ aT lp rfl (df (yf _ _ _ _ _ _ _ _ _ _)) ?_;refine ao E ?_;clear E U;refine ah 13 fun U E=> ?_;go_wp2_with fail;refine ao E ?_;clear E U;refine bi ?_;clear B;go_wp2_with fail;refine BB (v:= .tuple #[.agg (hoC (.pointer (some ⟨H,0,none⟩)) (.slice q s r) (.slice a n.length c) (.slice z l.length A)).toArray,.bool (eS cm M)]) ?_ rfl a8.out;exact cI results72 _ _ (w.1.size+1+1) 102 (hoC (.pointer (some ⟨H,0,none⟩)) (.slice q s r) (.slice a n.length c) (.slice z l.length A)).toArray _ rfl aS underlying102 rfl lp rfl
end
