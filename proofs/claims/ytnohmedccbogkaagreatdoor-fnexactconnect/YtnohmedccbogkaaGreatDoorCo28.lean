import Derived.Test.YtnohmedccbogkaaGreatDoorCo27
namespace Go.Proofs.YtnohmedccbogkaaGreatDoor
open Go.Proofs.Tryz
open Go.RowKit
set_option linter.unusedVariables false
set_option maxRecDepth 100000
set_option maxHeartbeats 32000000
theorem KT(b w):(Go.method 482 299 (.pointer (some ⟨b,0,none⟩)) "loop.example/s01906/impl.page").run prog w= .ok (272,.pointer (some ⟨b,0,none⟩)) w:=kO
theorem KU(b w):(Go.method 482 260 (.pointer (some ⟨b,0,none⟩)) "loop.example/s01906/impl.page").run prog w= .ok (272,.pointer (some ⟨b,0,none⟩)) w:=kO
def TopR(w:World)(gt:Nat)(o:Option Tr)(F:List Nat):Prop:= ∃gi a c us G,F=gt::gi::(rb a++G)/\Blk w 267 gt [.pointer (some ⟨gi,0,none⟩)]/\Blk w 265 gi [.int .i64 0,.slice a us.length c]/\ORow 276 2 0 w a us.length c (kdF us)/\
 match o with
 |none=>us=[]/\G=[]
 |some T=> ∃v,us=[(strOfNums [],v)]/\IRep w T G [(strOfNums [],v)]
theorem TopR.keep{w w' f o j}(h:TopR w f o j)(d:∀k∈j,w'.heap[k]?=w.heap[k]?):TopR w' f o j:=by
 obtain⟨g,a,c,q,r,rfl,l,m,n,i⟩:=h;refine⟨g,a,c,q,r,rfl,(d f kP).trans l,(d g kP).trans m,iB n (fun k b=>d k (by simp[b])),?_⟩;cases o with
 |none=>exact i
 |some T=>
  obtain⟨v,e,p⟩:=i;exact⟨v,e,p.keep (fun k b=>d k (by simp[b]))⟩
def dK:Option Tr->List Int
 |none=>[]
 |some T=>pgN T
def okO:Option Tr->Prop
 |none=>True
 |some T=>isT T=true/\full T true
theorem TopR.flt{w f o m}(h:TopR w f o m):∀k∈m,k<w.1.size:=by
 obtain⟨n,a,c,p,q,rfl,g,i,j,d⟩:=h;intro k b;rcases l3.1 b with rfl|b
 ·exact g.lt
 rcases l3.1 b with rfl|b
 ·exact i.lt
 rcases mx.1 b with b|b
 ·exact(dw j k b).2
 ·cases o with
  |none=>rw[d.2]at b;cases b
  |some T=>
   obtain⟨v,e,l⟩:=d;exact l.lt k b
def LO:Option Tr->List (ByteArray×Tr)
 |none=>[]
 |some T=>[(strOfNums [],T)]
theorem KV(o):eR (LO o)=dK o:=by cases o<;>simp[LO,eR,dK]
theorem NsQ.trans0{B w wr f w' a g i k j b c e d}(h:NsQ B w a 0 [] e g k b wr)(q:Below wr.1.size wr f)(l:NsQ B f g b.length b d i j c w'):NsQ B w a 0 [] (e++d) i j (b++c) w':=
 h.trans q (by rw[ld];exact l)
theorem KW(S o bc w)(h:TopR w S o bc)(E:okO o)(a3:(dK o).length<=1024):
 Calls prog 187 #[.pointer (some ⟨S,0,none⟩)] w fun e w'=> ∃a c b,e= .returned (.slice a b.length c)/\NsQ w.1.size w none 0 [] (dK o) a c b w':=by
 obtain⟨ab,W,Z,d,bd,rfl,ac,K,aS,m⟩:=h;have ah:d.length=(LO o).length:=by
  cases o with
  |none=>rw[m.1];rfl
  |some T=>obtain⟨v,e,_⟩:=m;rw[e];rfl
 have n:∀i,i<d.length->∃C,IRep w ((LO o).getD i t0).2 C [(strOfNums [],(d.getD i k0).2)]:=fun i f=>by
  cases o with
  |none=>rw[m.1]at f;exact absurd f (np _)
  |some T=>
   obtain⟨v,e,h⟩:=m;subst e;have:i=0:=by simp at f;exact f
   subst this;exact⟨bd,h⟩
 have R:∀i,i< (LO o).length->NsC ((LO o).getD i t0).2:=fun i f=>by
  cases o with
  |none=>exact absurd f (np _)
  |some T=>
   have:i=0:=by simp[LO]at f;exact f
   subst this;exact(qh T).1 E.1 E.2
 have a6:d.length<=1:=by rw[ah];cases o<;>simp[LO]
 rw[<-KV o]at a3 ⊢;generalize LO o=N at*;have be:w.cell? ⟨S,0,none⟩=some (.pointer (some ⟨ab,0,none⟩)):=ac.cell 0;have bf:w.cell? ⟨ab,1,none⟩=some (.slice W d.length Z):=K.cell 1;have ad:NsQ w.1.size w none 0 [] (eR (N.take 0)) none 0 [] w:=⟨ew _ _ _,OnlyS.refl _ _,fun k a2 _=>a2,fun _ _=>KeepT.refl _ _,rfl,fun i f=>absurd f (np _)⟩;have ap:Hid _:=ad;have F:∀i,i<d.length->(d.getD i k0).2.oneCell'=true:=fun i f=>by
  obtain⟨C,h⟩:=n i f;obtain⟨r,p,a0,e,_⟩:=R i kH _ C w 0 none 0 0 [] h (ew _ _ _) (kX _) (by have:=qe N i kH;have K:=l8 N (i+1);rw[this,kY]at K;omega);rw[e]
  rfl
 have z:=kG aS (kR n (kR R F));clear ad ac K aS n R F m E;go_enter func187,ntmps187;go_wp2_with fail;go_loopw [3,14] (fun a8 am wr=> ∃(i:Nat)(A:Option Addr)(B:Nat)(b:List Value),a8= .slice A b.length B/\am= .int .i64 (i:Nat)/\i<=d.length/\NsQ w.1.size w none 0 [] (eR (N.take i)) A B b wr) (fun _ s _=>d.length-(intOf s).toNat)
 case atStart=>exact⟨0,none,0,[],rfl,rfl,kX _,ap.out⟩
 case round=>
  obtain⟨i,A,B,b,rfl,rfl,f,l⟩:=hrel;obtain⟨g,rfl⟩:∃x,x=wr:=⟨_,rfl⟩;have I:=l.len;have bb:=l.fr.size;by_cases Q:i<d.length
  ·have a4:(i:Int)< (d.length:Int):=kH;have G:=qe N i kH;have ag:=l8 N (i+1);rw[G,kY]at ag;have H:ORow 276 2 0 g W d.length Z (kdF d):=dL z.out.1 (l.keep _ kN);obtain⟨ak,rfl,_,ba⟩:=ip H kH;have u:=fun j v a7=>(H.reads (zX d _ z.out.2.2.2)).cells i Q j v a7;rw[show kdF d i=[.string (d.getD i k0).1,(d.getD i k0).2]from rfl]at u;obtain⟨C,O⟩:=z.out.2.1 i Q;have M:=z.out.2.2.1 i kH;generalize d.getD i k0=aX at*;obtain⟨q,a9⟩:=aX;have J:=bAl g (.cells #[.string q,a9] 276);have y:Own1 273 w.1.size g A b.length B b:=by have:=l.own;rwa [ld]at this
   obtain⟨r,p,a0,a5,an,a1,t⟩:=M a9 C (g.alloc (.cells #[.string q,a9] 276)) w.1.size A b.length B b ((O.keepN l.keep).below J) (y.below J) (by have:=J.size;omega) (by rw[I];omega);subst a5;have X:g.cell? ⟨ak,i*2,none⟩=some (.string q):=by have:=u 0 _ rfl;simpa using this
   have Y:g.cell? ⟨ak,i*2+1,none⟩=some (.iface r (.pointer p)):=by have:=u 1 _ rfl;simpa using this
   have ai:=ao g 276 #[.string q,.iface r (.pointer p)];have D:=kG l (kR J G);clear u O M H l J G z I y;go_upto_region 5 with(first|(refine aL rfl 276 _ _ rfl g #[.string (strOfNums []),.nilIface] #[.string q,.iface r (.pointer p)] 276 rfl rfl zW rfl rfl ?_))
   change Code.wp _ _ _ _ (g.alloc (.cells #[.string q,.iface r (.pointer p)] 276));generalize g.alloc (.cells #[.string q,.iface r (.pointer p)] 276)=ar at*;generalize ae:g.1.size=aO at*;have bg:ar.cell? ⟨aO,1,none⟩=some (.iface r (.pointer p)):=Blk.cell ai 1;clear ai X Y;go_wp2_with fail;refine t.mono ?_;rintro e bh ⟨aw,aH,L,rfl,P⟩;have U:=D.out.1.trans0 (by rw[ae];exact D.out.2.1) P;rw[<-D.out.2.2]at U;have V:Hid _:=U;clear t P U;go_wp2_with fail;go_roundw
   case rel=>exact⟨i+1,aw,aH,b++L,by rw[kY],by go_num,kH,V.out⟩
   case measure=>simp[intOf];omega
  ·have af:i=N.length:=kH;have D:Hid (NsQ w.1.size w none 0 [] (eR N) A B b g):=by have:=l;rw[af,ox]at this;exact this
   clear l z I;go_wp2_with fail;go_ret;exact⟨_,_,b,rfl,D.out⟩
section
theorem M6:prog.built 265 []=some #[.int .i64 0,.slice none 0 0]:=kO
theorem M7(p):prog.built 267 [(0,.pointer p)]=some #[.pointer p]:=kO
theorem M8(a:Nat)(v m):prog.built 271 [(0,.iface a v),(1,.map (some m)),(2,.int .i64 (-1))]=some #[.iface a v,.map (some m),.int .i64 (-1),.string (strOfNums []),.string (strOfNums [])]:=kO
theorem KZ(a:Nat)(v):prog.built 276 [(1,.iface a v)]=some #[.string (strOfNums []),.iface a v]:=kO
def x00:LSg:=(strOfNums [],strOfNums [])
def rtO(P:Pg)(N:Nat)(root:Int):Option (Option Tr):=if root=0 then some none else(wkT P (N+1) 0 ⟨[], -1⟩ x00 root).map fun y=>some y.1
def qj(N:Nat):Option Tr->Prop
 |none=>True
 |some T=>isT T=true/\full T true/\(bB T).Nodup/\∀x∈bB T,2<=x/\x< (N:Int)
def RtP(P:Pg)(N:Nat)(S:World->Prop)(X:Nat->Prop)(root:Int)(w:World)(e:Ending)(w':World):Prop:=
 OnlyS X w w'/\((∃o gt F,rtO P N root=some o/\e= .returned (.pointer (some ⟨gt,0,none⟩))/\TopR w' gt o F/\(∀k∈F,w.1.size<=k)/\S w'/\qj N o)\/(rtO P N root=none/\e= .panicked aU))
variable {S:World->Prop} {X:Nat->Prop} {B0 N ty fn:Nat} {v:Value} {P:Pg}
theorem K2(c:PgW P N){f root T b z}(h:wkT P f 0 ⟨[], -1⟩ x00 root=some (T,b,z))(g:SeenOk b.seen N):qj N (some T):=by
 unfold wkT at h;cases hr:rdT P f 0 ⟨[], -1⟩ root with
 |none=>rw[hr]at h;cases h
 |some y=>
  rw[hr]at h;obtain⟨l,i,e⟩:=n7.1 h;obtain⟨j,k⟩:=y;cases e;have a:=jQ c f 0 ⟨[], -1⟩ root _ _ hr;refine⟨a.isT,a.full,?_,a.pgs⟩;have d:=a.seen.nodup_iff.1 g.nodup;rwa [lj]at d
theorem K8(a0:PgW P N)(z:Src P B0 ty fn v S X)(root w)(bd:S w)(an:B0<=w.1.size)(a4:0<=root)(a3:root<4294967296):
 Calls prog 151 #[.iface ty v,.int .i64 root] w (RtP P N S X root w):=by
 obtain⟨A,o⟩:∃am,am=w.alloc (.cells #[.int .i64 0,.slice none 0 0] 265):=⟨_,rfl⟩;obtain⟨B,p⟩:∃am,am=A.alloc (.cells #[.pointer (some ⟨w.1.size,0,none⟩)] 267):=⟨_,rfl⟩;have Q:Below w.1.size w A:=by rw[o];exact bAl _ _
 have R:Below A.1.size A B:=by rw[p];exact bAl _ _
 have V:A.1.size=w.1.size+1:=by rw[o];simp
 have W:B.1.size=w.1.size+1+1:=by rw[p];simp[V]
 have kI:=(by rw[o];exact ao w _ _:Blk A 265 w.1.size [.int .i64 0,.slice none 0 0]).below R;have O:Blk B 267 (w.1.size+1) [.pointer (some ⟨w.1.size,0,none⟩)]:=by rw[p,<-V];exact ao A _ _
 have l:=Q.trans (R.mono Q.size);have L:=z.keep _ _ bd (l.mono an) (aW l);by_cases M:root=0
 ·have hr:Hid (rtO P N root=some none):=by show rtO P N root=some none;unfold rtO;rw[qb M]
  have n:Hid (RtP P N S X root w (.returned (.pointer (some ⟨w.1.size+1,0,none⟩))) B):=⟨OnlyS.ofBelow l,kV ⟨none,w.1.size+1,[w.1.size+1,w.1.size],hr.out,rfl,⟨w.1.size,none,0,[],[],rfl,O,kI,eU _ _ _ _ _,rfl,rfl⟩,fun k a=>by simp at a;omega,L,trivial⟩⟩;clear Q R V W kI O l L hr;subst M;go_enter func151,ntmps151;go_wp2_with fail;go_ret;rw[p,o]at n;exact n.out
 have bi:(root==0)=false:=by simp[M]
 have hr:Hid (rtO P N root=(wkT P (N+1) 0 ⟨[], -1⟩ x00 root).map fun y=>some y.1):=by show rtO P N root= _;unfold rtO;rw[q4 M]
 obtain⟨C,r⟩:∃am,am=B.alloc (Obj.map #[] 0):=⟨_,rfl⟩;obtain⟨d,s⟩:∃am,am=C.alloc (.cells #[.iface ty v,.map (some (w.1.size+1+1)),.int .i64 (-1),.string (strOfNums []),.string (strOfNums [])] 271):=⟨_,rfl⟩;have q3:Below B.1.size B C:=by rw[r];exact bAl _ _
 have ar:Below C.1.size C d:=by rw[s];exact bAl _ _
 have aH:C.1.size=w.1.size+1+1+1:=by rw[r];simp[W]
 have ba:d.1.size=w.1.size+1+1+1+1:=by rw[s];simp[aH]
 have q:=q3.trans (ar.mono q3.size);have a6:Blk d 271 (w.1.size+1+1+1) (wkc (.iface ty v) (w.1.size+1+1) (-1) x00):=by rw[s,<-aH];exact ao C _ _
 have a9:SetI d (w.1.size+1+1) []:=by
  have e:SetI C (w.1.size+1+1) []:=⟨.map [],by rw[r,<-W];exact World.ownsMap_made _ _ _ _,fun i=>by rfl⟩;exact e.same (ar.block _ kH)
 have a1:=z.keep _ _ L (q.mono kH) (aW q);have ac:Wk S B0 (w.1.size+1+1+1) (w.1.size+1+1) N (.iface ty v) d ⟨[], -1⟩ x00:=⟨a6,a9,a1,kH,kH,⟨o0,fun x hx=>by simp at hx⟩⟩;have ah:=l.trans (q.mono l.size);have ad:=kI.below q;have I:=O.below q;have aX:=zT (g:=w.1.size+1+1+1) (m:=w.1.size+1+1) a0 z (N+1) 0 root ⟨[], -1⟩ x00 d.drew (ac.below z ⟨rfl,rfl,rfl,kE,fun _ _=>rfl⟩) kH (kX _) a4 a3;have Z:= @run_makeMap prog;have Y:=fun k e=>lk (z.low k e) an;have F:=kG ah (kR ad Y);have cs:d.drew.cell? ⟨w.1.size+1,0,none⟩=some (.pointer (some ⟨w.1.size,0,none⟩)):=I.cell 0;have aO:Hid (Blk d 267 (w.1.size+1) [.pointer (some ⟨w.1.size,0,none⟩)]):=I;have a2:Hid _:=ba;clear Q R V W aH ba kI O l L q3 ar q a6 a9 a1 ac ah ad I Y;go_enter func151,ntmps151;go_upto_region 4 with fail
 change Code.wp _ _ _ _ ((((w.alloc (.cells #[.int .i64 0,.slice none 0 0] 265)).alloc (.cells #[.pointer (some ⟨w.1.size,0,none⟩)] 267)).alloc (Obj.map #[] 0)).alloc (.cells #[.iface ty v,.map (some (w.1.size+1+1)),.int .i64 (-1),.string (strOfNums []),.string (strOfNums [])] 271));rw[<-o,<-p,<-r,<-s];clear o p r s Z;obtain⟨bw,bl⟩:∃x,x=w.1.size:=⟨_,rfl⟩;obtain⟨bx,bn⟩:∃x,x=w.1.size+1:=⟨_,rfl⟩;obtain⟨bz,Z⟩:∃x,x=w.1.size+1+1:=⟨_,rfl⟩;obtain⟨bv,bj⟩:∃x,x=w.1.size+1+1+1:=⟨_,rfl⟩;refine ay (fun bE=>bE.cell? ⟨w.1.size+1,0,none⟩=some (.pointer (some ⟨w.1.size,0,none⟩))) (fun k=>decide (9<=k)) kO ?_;refine aa 0 cs ?_;refine aa 1 cs ?_;refine aa 2 cs ?_;refine aa 3 cs ?_;refine aa 4 cs ?_;refine aa 5 cs ?_;refine aj 6 fun h b=> ?_;go_wp2_with fail;refine q2 aX ?_;rintro e f ⟨D,⟨T,bq,bF,bf,c,j,H,rfl,a7,be,a5,ap,U⟩|⟨ab,rfl⟩⟩
 rotate_left
 ·have U:=((OnlyS.ofBelow F.out.1:OnlyS X w d).drew).transN D (fun k a e=>by rcases e with e|e|e;exact e;omega;omega);have n:Hid (RtP P N S X root w (.panicked aU) f):=⟨U,kT ⟨by rw[hr.out,show wkT P (N+1) 0 ⟨[], -1⟩ x00 root=none from ab];rfl,rfl⟩⟩;clear U D ab;go_wp2;exact⟨rfl,n.out⟩
 clear aX;have ak:=((OnlyS.ofBelow F.out.1:OnlyS X w d).drew).transN D (fun k a e=>by rcases e with e|e|e;exact e;omega;omega);have J:=Blk.onlyS (show Blk d.drew 267 (w.1.size+1) [.pointer (some ⟨w.1.size,0,none⟩)]from aO.out) D (fun e=>by rcases e with e|e|e;exact absurd (F.out.2.2 _ e) kH;omega;omega);have ae:=Blk.onlyS (show Blk d.drew 265 w.1.size [.int .i64 0,.slice none 0 0]from F.out.2.1) D (fun e=>by rcases e with e|e|e;exact absurd (F.out.2.2 _ e) kH;omega;omega);have bg:f.cell? ⟨w.1.size+1,0,none⟩=some (.pointer (some ⟨w.1.size,0,none⟩)):=J.cell 0;have bp:w.1.size+1+1+1+1<=f.1.size:=by have:=D.size;have bc:=a2.out;have bb:d.drew.1.size=d.1.size:=rfl;omega
 have G:∀k∈bf,w.1.size+1+1+1+1<=k:=fun k a=>by have:=a5 k a;have bc:=a2.out;have bb:d.drew.1.size=d.1.size:=rfl;omega
 have u:=bAl f (.cells [.string (strOfNums []),.iface c (.pointer j)].toArray 276);have K:=J.below u;have t:=ae.below u;have bt:=t.cell 1;have bu:=t.free 1;have bh:=K.cell 0;have E:=aB (f.alloc (.cells [.string (strOfNums []),.iface c (.pointer j)].toArray 276)) w.1.size 1 (.slice (some ⟨f.1.size,0,none⟩) 1 1);have ag:=K.only E kH;have af:=t.set 1 (.slice (some ⟨f.1.size,0,none⟩) 1 1);have aw:ORow 276 2 0 (f.alloc (.cells [.string (strOfNums []),.iface c (.pointer j)].toArray 276)) (some ⟨f.1.size,0,none⟩) 1 1 (kdF [(strOfNums [],.iface c (.pointer j))]):=yM _ _ _ _ (kX _) _ rfl _ rfl;have a8:=iB aw (fun k a=>E.block k (by have:=dw aw k a;exact this.2) (fun e=>by simp[rb]at a;omega));have ai:=(a7.below u).onlyS (OnlyS.ofB E) (fun k a e=>by have:=G k a;omega);have n:Hid (RtP P N S X root w (.returned (.pointer (some ⟨w.1.size+1,0,none⟩))) ((f.alloc (.cells [.string (strOfNums []),.iface c (.pointer j)].toArray 276)).setCell ⟨w.1.size,1,none⟩ (.slice (some ⟨f.1.size,0,none⟩) 1 1))):=by
  refine⟨(ak.trans (OnlyS.ofBelow u)).transN (OnlyS.ofB E) (fun k a e=>by omega),kV ⟨some T,w.1.size+1,_,?_,rfl,⟨w.1.size,some ⟨f.1.size,0,none⟩,1,[(strOfNums [],.iface c (.pointer j))],bf,rfl,ag,af,a8,_,rfl,ai⟩,?_,?_,K2 a0 H ap.ok⟩⟩
  ·rw[hr.out,show wkT P (N+1) 0 ⟨[], -1⟩ x00 root= _ from H];rfl
  ·intro k a;rcases l3.1 a with rfl|a
   ·omega
   rcases l3.1 a with rfl|a
   ·omega
   rcases mx.1 a with a|a
   ·simp[rb]at a;omega
   ·have:=G k a;omega
  ·exact z.keep _ _ (z.keep _ _ ap.src (u.mono kH) (aW u)) (E.below an (by have:=u.size;omega)) (aV E t kN)
 clear ak J ae u K t E ag af aw a8 ai D a7 be a5 ap U H G;go_wp2_with fail;refine al b ?_;clear b h;refine aj 7 fun h b=> ?_;refine jV _ _ rfl (cs:=#[.string (strOfNums []),.iface c (.pointer j)]) ?bk ?_
 case bk=>
  simp only[k9,k4,k7];exact KZ c (.pointer j)
 refine al b ?_;clear b h;refine aj 8 fun h b=> ?_;refine fj _ _ _ rfl (v:= .slice (some ⟨f.1.size,0,none⟩) 1 1) (w':=f.alloc (.cells [.string (strOfNums []),.iface c (.pointer j)].toArray 276)) ?bs ?_
 case bs=>
  simp only[k9,k4,k7];exact gF nf kH (.agg #[.string (strOfNums []),.iface c (.pointer j)]) [.string (strOfNums []),.iface c (.pointer j)] rfl rfl f
 refine al b ?_;clear b h;refine aj 9 fun h b=> ?_;go_wp2_with fail;refine al b ?_;clear b h;refine aj 10 fun h b=> ?_;go_wp2_with fail;refine al b ?_;clear b h;refine aj 11 fun h b=> ?_;go_wp2_with fail;refine al b ?_;clear b h;refine ax ?_;go_wp2_with fail;go_ret;exact n.out
end
theorem Aa(b id w)(a:w.cell? ⟨b,0,none⟩=some (.int .i64 id)):
 Calls prog 272 #[.pointer (some ⟨b,0,none⟩)] w fun e w'=>e= .returned (.int .i64 id)/\w'=w:=by
 go_enter func272,ntmps272;go_wp2;go_ret;exact⟨rfl,rfl⟩
theorem K9(Z o aX w)(h:TopR w Z o aX)(U:okO o)(ar:(dK o).length<=1024)(af:∀id∈dK o,id≠0):
 Calls prog 153 #[.pointer (some ⟨Z,0,none⟩)] w fun e w'=> ∃a c,e= .returned (.slice a (dK o).length c)/\Below w.1.size w w'/\Own1 3 w.1.size w' a (dK o).length c (on (srt (dK o))):=by
 have ad:=KW Z o aX w h U ar;generalize dK o=d at*;have am:Hid _:=af;clear h af U;go_enter func153,ntmps153;go_wp2_with fail;refine ad.mono ?_;rintro e w1 ⟨an,ap,f,rfl,z⟩;have V:=z.len;have P:Below w.1.size w w1:=⟨z.fr.os,z.fr.tape,z.fr.output,z.fr.size,fun i ah=>z.fr.block i ah (fun e=>by simp[rb]at e)⟩;have X:=kG z P;have aH:f.length<=1024:=kH;have O:Hid (f.length=d.length):=V;clear ad z P V;go_wp2_with fail;go_loopw [3,9] (fun s3 aO wr=> ∃(i:Nat)(B:Option Addr)(C:Nat),s3= .slice B i C/\aO= .int .i64 (i:Nat)/\i<=f.length/\Below w.1.size w wr/\(∀n,n≠3->KeepT n w1 wr)/\Own1 3 w.1.size wr B i C (on (d.take i))) (fun _ s _=>f.length-(intOf s).toNat)
 case atStart=>exact⟨0,none,0,rfl,rfl,kX _,X.out.2,fun _ _=>KeepT.refl _ _,ew _ _ _⟩
 case round=>
  obtain⟨i,B,C,rfl,rfl,ah,E,r,g⟩:=hrel;obtain⟨q,rfl⟩:∃x,x=wr:=⟨_,rfl⟩;have W:=E.size;have G:=kG E r;by_cases S:i<f.length
  ·have aw:(i:Int)< (f.length:Int):=kH;have T:Own1 273 w.1.size q an f.length ap f:=by have:=X.out.1.own.keep (r _ kN);rwa [ld]at this
   have ag:=X.out.1.nv i S;obtain⟨a1,rfl,_,_,_,Q⟩:=T.at_ kH;have R:=Q i S;have J:i<d.length:=by have:=O.out;omega
   have N:Hid (d.take (i+1)=d.take i++[d.getD i 0]):=by
    show d.take (i+1)=d.take i++[d.getD i 0];rw[n6 J];simp[List.getD,J]
   have ac:d.getD i 0≠0:=am.out _ (by rw[List.getD,lx J];exact o2 _);generalize d.getD i 0=id at*;have ak:(id==0)=false:=by simp[ac]
   generalize f.getD i undef=v at*;have L:=r 302 kN;have K:=r 265 kN;clear Q T E r;obtain⟨b,a2,⟨rfl,l⟩|⟨rfl,l⟩⟩:=ag
   ·have ab:q.cell? ⟨b,0,none⟩=some (.int .i64 id):=(l.keepT L).cell 0;clear l L K;unfold lfI at R;have t:=KT b;have l:=Aa b id q ab;go_wp2_with fail;refine l.mono ?_;rintro e w' ⟨rfl,m⟩;obtain rfl:=m.symm;clear m;go_wp2_with fail;refine l.mono ?_;rintro e w' ⟨rfl,m⟩;obtain rfl:=m.symm;clear m l t;go_wp2_with (at_builtin;refine i5 rfl _ _ ig rfl w.1.size B i C (on (d.take i)) rfl g (.int .i64 id) rfl rfl kH kH W ?_);intro F Y p A I y H;have D:=bAl q (.cells #[.int .i64 id] 3);have M:∀n,n≠3->KeepT n q p:=fun n u=>(aW D).trans (bJ (cj g D) y (s8 u));have j:Hid (Below w.1.size w p/\(∀n,n≠3->KeepT n w1 p)/\Own1 3 w.1.size p (some ⟨F,0,none⟩) (i+1) Y (on (d.take (i+1)))):=⟨G.out.1.trans I,fun n u=>(G.out.2 n u).trans (M n u),by rw[N.out,<-iU];exact A⟩;clear A I y H D M g;go_wp2_with fail;go_roundw
    case rel=>exact⟨i+1,_,_,rfl,by go_num,kH,j.out.1,j.out.2.1,j.out.2.2⟩
    case measure=>simp[intOf];omega
   ·have ab:q.cell? ⟨b,0,none⟩=some (.int .i64 id):=(l.keepT K).cell 0;clear l L K;unfold inI at R;have t:=KU b;have l:=Aa b id q ab;go_wp2_with fail;refine l.mono ?_;rintro e w' ⟨rfl,m⟩;obtain rfl:=m.symm;clear m;go_wp2_with fail;refine l.mono ?_;rintro e w' ⟨rfl,m⟩;obtain rfl:=m.symm;clear m l t;go_wp2_with (at_builtin;refine i5 rfl _ _ ig rfl w.1.size B i C (on (d.take i)) rfl g (.int .i64 id) rfl rfl kH kH W ?_);intro F Y p A I y H;have D:=bAl q (.cells #[.int .i64 id] 3);have M:∀n,n≠3->KeepT n q p:=fun n u=>(aW D).trans (bJ (cj g D) y (s8 u));have j:Hid (Below w.1.size w p/\(∀n,n≠3->KeepT n w1 p)/\Own1 3 w.1.size p (some ⟨F,0,none⟩) (i+1) Y (on (d.take (i+1)))):=⟨G.out.1.trans I,fun n u=>(G.out.2 n u).trans (M n u),by rw[N.out,<-iU];exact A⟩;clear A I y H D M g;go_wp2_with fail;go_roundw
    case rel=>exact⟨i+1,_,_,rfl,by go_num,kH,j.out.1,j.out.2.1,j.out.2.2⟩
    case measure=>simp[intOf];omega
  ·have ai:i=d.length:=by have:=O.out;omega
   have a0:¬((i:Int)< (f.length:Int)):=kH;subst ai;rw[ox]at g;have ae:=zL w.1.size B C d q g kH;clear g E r;go_wp2_with fail;refine ae.mono ?_;rintro e p ⟨rfl,F,A⟩;have j:=kG F A;clear ae F A;go_wp2_with fail;go_ret;exact⟨B,C,rfl,G.out.1.grown j.out.1 kH (fun k e=>(qX j.out.2 k e).1),j.out.2⟩
