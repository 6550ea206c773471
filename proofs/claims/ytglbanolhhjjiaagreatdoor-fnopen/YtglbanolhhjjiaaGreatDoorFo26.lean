import Derived.Test.YtglbanolhhjjiaaGreatDoorFo25
import Derived.Test.YtglbanolhhjjiaaGreatDoorFo7
namespace Go.Proofs.YtglbanolhhjjiaaGreatDoor
open Go.Proofs.Tryz
open Go.RowKit
set_option linter.unusedVariables false
set_option maxRecDepth 100000
set_option maxHeartbeats 32000000
def fF(w:World)(g:Nat):Option Nat:=match w.cell? ⟨g,0,none⟩with|some (.slice (some a) _ _)=>some a.block|_=>none
theorem Fm(g B l k w)(h:Cur w g B l)(I:1<=k)(J:k<=l.length):
 Calls prog 169 #[.pointer (some ⟨g,0,none⟩),.int .i64 (k:Int)] w fun e w'=> ∃b d x,e= .returned (.slice (some ⟨b,d,none⟩) k x)/\OnlyB g w w'/\Cur w' g B (l.drop k)/\Bs w' (some ⟨b,d,none⟩) k x (l.take k)/\fF w' g=fF w g:=by
 obtain⟨a,n,c,h⟩:=h;have L:=h.bs.len_eq;obtain⟨b,d,rfl,K,_⟩:=h.bs.at_ uA;have s:=h.ne b d uA rfl;have y:=h.low b d uA rfl;have G:=h.bs.le;have A:=h.bs.le';unfold maxLen at A;have C:=h.blk.cell 0;have r:fF w g=some b:=by unfold fF;rw[C];rfl
 have H:=h.blk.free 0;have F:decide (k<=n)=true:=by simp;omega
 have u:Bs w (some ⟨b,d,none⟩) k c (l.take k):=by have:=h.bs.cut 0 k uA c uA h.bs.le';simpa using this
 have i:Bs w (some ⟨b,d+k,none⟩) (n-k) (c-k) (l.drop k):=by
  have:=h.bs.cut k (n-k) uA (c-k) uA (by have:=h.bs.le';omega);rwa [w5 (by rw[wi];omega)]at this
 have p:Hid (∀f,(f=some ⟨b,d+k,none⟩\/(c=k/\f=some ⟨b,d,none⟩))->OnlyB g w (w.setCell ⟨g,0,none⟩ (.slice f (n-k) (c-k)))/\Cur (w.setCell ⟨g,0,none⟩ (.slice f (n-k) (c-k))) g B (l.drop k)/\Bs (w.setCell ⟨g,0,none⟩ (.slice f (n-k) (c-k))) (some ⟨b,d,none⟩) k c (l.take k)/\fF (w.setCell ⟨g,0,none⟩ (.slice f (n-k) (c-k))) g=some b):=fun f t=>by
  have o:=ax w g 0 (.slice f (n-k) (c-k));refine⟨o,⟨f,n-k,c-k,h.blk.set 0 _,?_,fun v j D e=> ?_⟩,u.only o (fun v j _ e=>by cases e;exact s),?_⟩
  rotate_left
  rotate_left
  ·unfold fF;rw[(h.blk.set 0 _).cell 0];rcases t with rfl|⟨hc,rfl⟩<;>rfl
  rotate_left
  ·rcases t with rfl|⟨hc,rfl⟩<;>cases e<;>exact y
  rcases t with rfl|⟨hc,rfl⟩
  ·exact i.only o (fun v j _ e=>by cases e;exact s)
  ·refine⟨i.len_eq,i.le,i.le',fun e=>(by cases e),fun D=>by omega,i.byte⟩
 have q:Hid _:=r;clear h u i r;go_enter func169,ntmps169;go_wp2_with fail;refine CC (ez w) ?_;rintro e w1 ⟨rfl,E⟩;obtain rfl:=E.symm;go_wp2
 ·have z:c-k=0:=uA;go_ret;have m:=p.out (some ⟨b,d,none⟩) (v6 ⟨by assumption,rfl⟩);rw[z]at m;exact⟨b,d,c,by simp_all,m.1,m.2.1,m.2.2.1,m.2.2.2.trans q.out.symm⟩
 ·go_ret;have m:=p.out (some ⟨b,d+k,none⟩) (v7 rfl);exact⟨b,d,c,rfl,m.1,m.2.1,m.2.2.1,m.2.2.2.trans q.out.symm⟩
theorem Fn(g B l w)(h:Cur w g B l)(d:4<=l.length):
 Calls prog 147 #[.pointer (some ⟨g,0,none⟩)] w fun e w'=>e= .returned (.int .i64 (low (l.take 4)))/\OnlyB g w w'/\Cur w' g B (l.drop 4)/\fF w' g=fF w g:=by
 have T:=Fm g B l 4 w h uA d;clear h;go_enter func147,ntmps147;go_wp2_with fail;refine CC T ?_;rintro e w1 ⟨b,k,c,rfl,o,i,R,j⟩;have N:=iO _ 4 c (l.take 4) w1 R uA;have a:=uv o (vJ i j);clear o i R T j;go_wp2_with fail;refine CC N ?_;rintro e m ⟨rfl,f⟩;obtain rfl:=f.symm;go_wp2;go_ret;exact⟨rfl,a.out⟩
structure CurT(w:World)(g B:Nat)(l:List Int):Prop where
 cur:Cur w g B l
 ty:0<l.length->∀b,fF w g=some b->∃cs fr,w.heap[b]?=some (.cells cs 5 fr)
theorem CurT.keep{w w' g B l}(h:CurT w g B l)(s:KeepT 192 w w')(m:KeepT 5 w w'):CurT w' g B l:=by
 obtain⟨⟨a,n,c,d⟩,p⟩:=h;have k:=d.blk.keepT s;have q:fF w' g=fF w g:=by unfold fF;rw[k.cell 0,d.blk.cell 0]
 have r:BsT w a n c l:=⟨d.bs,fun f=>by
  obtain⟨b,o,e,_,_⟩:=d.bs.at_ f;obtain⟨cs,fr,j⟩:=p (by rw[d.bs.len_eq];exact f) b (by unfold fF;rw[d.blk.cell 0,e];rfl);exact⟨b,o,cs,fr,e,j⟩⟩
 refine⟨⟨a,n,c,k,(r.keep m).bs,d.low⟩,fun f b i=> ?_⟩;rw[q]at i;obtain⟨cs,fr,j⟩:=p f b i;exact⟨cs,fr,m.block b cs fr j⟩
theorem xE(g B l w)(h:CurT w g B l)(k:4<=l.length):
 Calls prog 147 #[.pointer (some ⟨g,0,none⟩)] w fun e w'=>e= .returned (.int .i64 (low (l.take 4)))/\OnlyB g w w'/\CurT w' g B (l.drop 4):=by
 refine(Fn g B l w h.cur k).mono ?_;rintro e w' ⟨rfl,o,m,p⟩;refine⟨rfl,o,m,fun _ b f=> ?_⟩;rw[p]at f;obtain⟨cs,fr,d⟩:=h.ty uA b f;obtain⟨a,n,c,j⟩:=h.cur;have i:b≠g:=fun e=>by
  subst e;have:=j.blk;unfold Blk at this;rw[d]at this;cases this
 exact⟨cs,fr,(o.block b (wy.1 d).1 i).trans d⟩
theorem Fo{w a n c l}(h:BsT w a n c l):CurT (w.alloc (.cells #[.slice a n c] 192)) w.1.size w.1.size l:=by
 have q:=bAl w (.cells #[.slice a n c] 192);have j:=aq w 192 #[.slice a n c];have i:=h.keep (aV q);refine⟨⟨a,n,c,⟨j,i.bs,fun b p o e=> ?_⟩⟩,fun r b d=> ?_⟩
 ·obtain⟨k,g,f,d,_⟩:=h.bs.at_ o;rw[f]at e;cases e;exact d
 ·unfold fF at d;rw[j.cell 0]at d;obtain⟨k,g,cs,fr,f,m⟩:=i.ty (by have:=h.bs.len_eq;omega);rw[f]at d;cases d;exact⟨cs,fr,m⟩
section
def RlP(P:Pg)(N:Nat)(S:World->Prop)(X:Nat->Prop)(first:Int)(w:World)(e:Ending)(w':World):Prop:=
 OnlyS X w w'/\((∃free own a c a2 c2,flR P (N+1) first [] []=some (free,own)/\free.length<=65536/\own.length<=1024/\e= .returned (.tuple #[.slice a free.length c,.slice a2 own.length c2])/\Own1 3 w.1.size w' a free.length c (on free)/\Own1 3 w.1.size w' a2 own.length c2 (on own)/\S w'/\(∀g,a2=some ⟨g,0,none⟩->a≠some ⟨g,0,none⟩))\/(flR P (N+1) first [] []=none/\e= .panicked bI))
structure LR(S:World->Prop)(X:Nat->Prop)(w:World)(free own:List Int)(a a2:Option Addr)(c c2:Nat)(wr:World):Prop where
 fr:OnlyS X w wr
 src:S wr
 f:Own1 3 w.1.size wr a free.length c (on free)
 o:Own1 3 w.1.size wr a2 own.length c2 (on own)
 sep:∀g,a2=some ⟨g,0,none⟩->a≠some ⟨g,0,none⟩
structure LI(P:Pg)(N:Nat)(S:World->Prop)(X:Nat->Prop)(first:Int)(w:World)(free own:List Int)(a a2:Option Addr)(c c2:Nat)(id:Int)(wr:World):Prop where
 r:LR S X w free own a a2 c c2 wr
 ok:SeenOk own N
 lf:free.length<=64*own.length
 eq:flR P (N+1) first [] []=flR P (N+1-own.length) id own free
 bd:0<=id/\id<4294967296
variable {S:World->Prop} {X:Nat->Prop} {B0 N ty fn:Nat} {v:Value} {P:Pg} {w wr wr':World} {free own:List Int} {a a2:Option Addr} {c c2:Nat}
theorem LR.below(d:Src P B0 ty fn v S X)(e:B0<=w.1.size)(h:LR S X w free own a a2 c c2 wr)(b:Below wr.1.size wr wr'):LR S X w free own a a2 c c2 wr':=
 ⟨h.fr.trans (OnlyS.ofBelow b),d.keep _ _ h.src ⟨b.os,b.tape,b.output,b.size,fun i f=>b.block i (by have:=h.fr.size;omega)⟩ (aV b),h.f.below b,h.o.below b,h.sep⟩
theorem LR.only(j:Src P B0 ty fn v S X)(l:B0<=w.1.size)(h:LR S X w free own a a2 c c2 wr){g t xs}(d:Blk wr t g xs)(m:w.1.size<=g)(f:t≠3)(i:t≠5)(b:OnlyB g wr wr'):LR S X w free own a a2 c c2 wr':=
 ⟨h.fr.transN (OnlyS.ofB b) (fun k d e=>by subst e;omega),j.keep _ _ h.src (OnlyS.below (OnlyS.ofB b) (by have:=h.fr.size;omega) (fun k e=>by subst e;omega)) (aw b d i),h.f.keep (aw b d f),h.o.keep (aw b d f),h.sep⟩
theorem LR.page(f:Src P B0 ty fn v S X)(i:B0<=w.1.size)(h:LR S X w free own a a2 c c2 wr)(g:S wr')(d:OnlyS X wr wr'):LR S X w free own a a2 c c2 wr':=
 ⟨h.fr.trans d,g,xu h.f (fun k b=>d.block k (ld h.f k b).2 (fun e=>by have:=f.low k e;have:=(ld h.f k b).1;omega)),xu h.o (fun k b=>d.block k (ld h.o k b).2 (fun e=>by have:=f.low k e;have:=(ld h.o k b).1;omega)),h.sep⟩
theorem LR.appF(j:Src P B0 ty fn v S X)(o:B0<=w.1.size)(h:LR S X w free own a a2 c c2 wr){x g l w'}(p:Own1 3 w.1.size w' (some ⟨g,0,none⟩) (free.length+1) l (on free++[.int .i64 x]))(f:(wr.alloc (.cells #[.int .i64 x] 3)).grownBy w' (Value.slice a free.length c).ownBlock)(n:a=some ⟨g,0,none⟩\/wr.1.size<g):LR S X w (free++[x]) own (some ⟨g,0,none⟩) a2 l c2 w':=by
 have q:=bAl wr (.cells #[.int .i64 x] 3);have b:=h.below j o q;have r:=b.fr.size;refine⟨b.fr.transN (OnlyS.ofGrown f) (fun k s e=>by have:=(Ct h.f k e).1;omega),j.keep _ _ b.src (t7.grown f uA (fun k e=>by have:=(Ct h.f k e).1;omega)) (bD b.f f uB),?_,?_,?_⟩
 ·rw[wb,<-fv];exact p
 ·exact b.o.grown b.f f (fun m d i=>b.sep m i d)
 ·intro m d i;cases i;rcases n with e|e
  ·exact h.sep g d e
  ·have:=ld h.o g (by rw[d];simp[rb]);omega
theorem LR.appO(j:Src P B0 ty fn v S X)(o:B0<=w.1.size)(h:LR S X w free own a a2 c c2 wr){x g l w'}(p:Own1 3 w.1.size w' (some ⟨g,0,none⟩) (own.length+1) l (on own++[.int .i64 x]))(f:(wr.alloc (.cells #[.int .i64 x] 3)).grownBy w' (Value.slice a2 own.length c2).ownBlock)(n:a2=some ⟨g,0,none⟩\/wr.1.size<g):LR S X w free (own++[x]) a (some ⟨g,0,none⟩) c l w':=by
 have q:=bAl wr (.cells #[.int .i64 x] 3);have b:=h.below j o q;have r:=b.fr.size;refine⟨b.fr.transN (OnlyS.ofGrown f) (fun k s e=>by have:=(Ct h.o k e).1;omega),j.keep _ _ b.src (t7.grown f uA (fun k e=>by have:=(Ct h.o k e).1;omega)) (bD b.o f uB),?_,?_,?_⟩
 ·exact b.f.grown b.o f (fun m i d=>b.sep m i d)
 ·rw[wb,<-fv];exact p
 ·intro m i d;cases i;rcases n with e|e
  ·exact h.sep g e d
  ·have:=ld h.f g (by rw[d];simp[rb]);omega
theorem SeenOk.snoc{l N}(h:SeenOk l N){id}(d:0<=id)(f:id< (N:Int))(g:id∉l):SeenOk (l++[id]) N:=
 ⟨by
  rw[z8];exact⟨h.nodup,vo,by intro a i b c e;simp at c;subst c;subst e;exact g i⟩,fun x hx=>by
  rcases w6.1 hx with hx|hx
  ·exact h.lt x hx
  ·simp at hx;subst hx;exact⟨d,f⟩⟩
theorem Fp{l}(a:IsB l)(h:4<=l.length):0<=dN l 0/\dN l 0<4294967296:=by
 have:=gX (gR a 4);have b:(l.take 4).length=4:=by rw[wR];omega
 rw[b]at this;simpa [dN]using this
theorem Fq(l:List Int):l.getLastD 0=l.getD (l.length-1) 0:=by
 rw[List.getLastD_eq_getLast?,List.getLast?_eq_getElem?]
 rfl
theorem Fr{w g B l}(h:Cur w g B l):∃xs,Blk w 192 g xs:=by
 obtain⟨a,n,c,h⟩:=h;exact⟨_,h.blk⟩
end
section
def li:Value->Nat
 | .slice _ n _=>n
 |_=>0
variable {S:World->Prop} {X:Nat->Prop} {B0 N ty fn:Nat} {v:Value} {P:Pg}
theorem Fs(bE:PgW P N)(ck:∀t,(P.bd t).length<=256)(q:Src P B0 ty fn v S X)(first w)(cj:S w)(G:B0<=w.1.size)(p:0<=first)(bn:first<4294967296):
 Calls prog 115 #[.iface ty v,.int .i64 first] w (RlP P N S X first w):=by
 have da:=bE.le;have dd:=q.meth;have db:=q.ent;have c1:Hid (LI P N S X first w [] [] none none 0 0 first w):=⟨⟨OnlyS.refl _ _,cj,cQ _ _ _,cQ _ _ _,fun g e=>by cases e⟩,⟨y6,vo⟩,vo,rfl,p,bn⟩;clear cj p bn;go_enter func115,ntmps115;go_wp2_with fail;go_loopw [4,5,6] (fun b1 b2 dr wr=> ∃(d own:List Int)(a W:Option Addr)(c Y:Nat)(id:Int),b1= .slice a d.length c/\b2= .slice W own.length Y/\dr= .int .i64 id/\LI P N S X first w d own a W c Y id wr) (fun _ b2 _ _=>N+1-li b2)
 case atStart=>exact⟨[],[],none,none,0,0,first,rfl,rfl,rfl,c1.out⟩
 case round=>
  obtain⟨d,own,a,W,c,Y,id,rfl,rfl,rfl,am⟩:=hrel;obtain⟨c0,a9⟩:=aa wr;subst a9;have dP:=am.ok.le;have dD:=am.lf;have dS:=am.r.fr.size;have R:=Ff w.1.size W Y own id c0 am.r.o uA;have n:Hid _:=am;clear am;by_cases a1:id=0
  ·subst a1;have bX:Hid (flR P (N+1) first [] []=some (d,own)):=by show flR P (N+1) first [] []=some (d,own);rw[n.out.eq,xf]
   clear R;go_wp2_with fail;refine B3 (v:= .tuple #[.slice a d.length c,.slice W own.length Y]) (by simp[results,results115]) rfl ?_;exact⟨n.out.r.fr,v7 ⟨d,own,a,c,W,Y,bX.out,uA,uA,rfl,n.out.r.f,n.out.r.o,n.out.r.src,n.out.r.sep⟩⟩
  have a8:Hid (flR P (N+1) first [] []=flR P (N-own.length+1) id own d):=by
   show flR P (N+1) first [] []=flR P (N-own.length+1) id own d;rw[n.out.eq];congr 1;omega
  have ds:(id==0)=false:=by simp[a1]
  have r:Hid (∀w',OnlyS X w w'->eZ P own id=false->RlP P N S X first w (.panicked bI) w'):=fun w' Q H=>⟨Q,v6 ⟨by rw[a8.out,xg a1 H],rfl⟩⟩;cases Z:own.contains id with
  |true=>
   rw[Z]at R;have H:eZ P own id=false:=by
    rw[<-xA,kY];intro h;exact h.2.2.1 (xr.1 Z)
   clear Z;go_wp2_with fail;refine R.mono ?_;rintro e u ⟨rfl,s⟩;obtain rfl:=s.symm;clear s R;go_wp2_with fail;refine(fi _).mono ?_;rintro e w' ⟨rfl,rfl⟩;go_wp2;exact⟨rfl,r.out _ n.out.r.fr H⟩
  |false=>
   rw[Z]at R;have ce:=q.page c0 id n.out.r.src n.out.bd.1 n.out.bd.2;go_wp2_with fail;refine R.mono ?_;rintro e u ⟨rfl,s⟩;obtain rfl:=s.symm;clear s R;go_wp2_with fail;refine(ez _).mono ?_;rintro e w' ⟨rfl,rfl⟩;go_wp2_with fail;refine ce.mono ?_;rintro e w1 ⟨cV,bZ,⟨bu,ab,aX,rfl,a2⟩|⟨cA,k,ab,nb,aX,dW,rfl⟩⟩
   rotate_left
   ·have H:eZ P own id=false:=by
     rw[<-xA,kY,cA];intro h;exact absurd h.1 uB
    have i:Hid (RlP P N S X first w (.panicked bI) w1):=r.out _ (n.out.r.fr.trans bZ) H;go_wp2_with fail;refine(fi _).mono ?_;rintro e w' ⟨rfl,j⟩;obtain rfl:=j.symm;clear j;go_wp2;exact⟨rfl,i.out⟩
   have R1:=n.out.r.page q G cV bZ;have bs:id∉own:=fun h=>by rw[xr.2 h]at Z;cases Z
   obtain⟨dE,cr⟩:=bE.ok id bu;have cl:=ck id;generalize bY:P.bd id=l at a2 cl ⊢;generalize br:P.kd id=kd at ⊢;have aT:Hid (P.bd id=l):=bY;have bB:Hid (IsB l):=by show IsB l;rw[<-bY];exact bE.byte id
   have bf:Hid (P.kd id=kd):=br;have B:=uv R1 a2;have cD:=R1.fr.size;clear bY br R1 a2 cV bZ Z ce;by_cases a6:kd=4
   rotate_left
   ·have dc:(kd==4)=false:=by simp[a6]
    have H:eZ P own id=false:=by
     rw[<-xA,kY,bf.out];intro h;exact a6 h.2.1
    have i:Hid (RlP P N S X first w (.panicked bI) w1):=r.out _ B.out.1.fr H;go_wp2_with fail;refine(fi _).mono ?_;rintro e w' ⟨rfl,j⟩;obtain rfl:=j.symm;clear j;go_wp2;exact⟨rfl,i.out⟩
   subst a6;go_wp2_with fail;refine(ez _).mono ?_;rintro e w' ⟨rfl,j⟩;obtain rfl:=j.symm;clear j;go_upto_region 7 with(first|(at_builtin;refine iF rfl _ _ co rfl w.1.size W own.length Y (on own) rfl B.out.1.o (.int .i64 id) rfl rfl uA uA cD ?_;intro bS bR bb cP c2 a0 bk)|fail)
   have bF:=B.out.1.appO q G cP a0 bk;have b0:=bAl w1 (.cells #[.int .i64 id] 3);have cW:=B.out.2.keep ((aV b0).trans (bD (bQ B.out.1.o b0) a0 uB));have cS:=bAl bb (.cells #[.slice ab l.length aX] 192);have cf:=bF.below q G cS;have cM:=aq bb 192 #[.slice ab l.length aX];have F:=Fo cW;have af:=bF.fr.size;have C:Hid (∀w',OnlyS X w w'->(eZ P own id=true->frA (cG l 1) d=none)->RlP P N S X first w (.panicked bI) w'):=fun w' Q H=>by
    cases a3:eZ P own id with
    |false=>exact r.out w' Q a3
    |true=>exact⟨Q,v6 ⟨by rw[a8.out,oH a1 a3,aT.out,H a3];rfl,rfl⟩⟩
   have T:Hid (eZ P own id=true->4<=l.length/\l.length%4=0):=fun h=>by
    have:=(kY.1 h).2.2.2;rw[aT.out]at this;exact this
   have b9:Hid (4<=l.length->l.length%4=0->eZ P own id=true):=fun c6 c7=>kY.2 ⟨bu,bf.out,bs,by rw[aT.out];exact c6,by rw[aT.out];exact c7⟩;have bz:Hid _:=cf;clear bF cf cW b0 cS cP a0 bk c2 B r;go_upto_region 8 with fail
   generalize bb.alloc (.cells #[.slice ab l.length aX] 192)=bc at*;have ba:Blk bc 192 bb.1.size [.slice ab l.length aX]:=cM;generalize cq:bb.1.size=b at*;clear cq cM;by_cases c8:l.length<4
   ·have bC:=nt b b l bc F.cur c8;have i:Hid (∀w',OnlyB b bc w'->RlP P N S X first w (.panicked bI) w'):=fun w' Q=>C.out w' (bz.out.only q G ba af uB uB Q).fr (fun h=>absurd (T.out h).1 uA);clear F;go_wp2_with fail;refine bC.mono ?_;rintro e cX ⟨rfl,an⟩;go_wp2;exact⟨rfl,i.out _ an⟩
   have V:=xE b b l bc F uA;rw[show low (l.take 4)=dN l 0 by simp[dN]]at V;clear F;go_upto_region 9 with fail
   refine V.mono ?_;rintro e cX ⟨rfl,an,b4⟩;have cg:=bz.out.only q G ba af uB uB an;have b6:=uv cg b4;clear V cg b4 an bz ba;go_wp2_with fail;go_loopw [4] (fun b1 wr=> ∃(k:Nat)(f:List Int)(K:Option Addr)(E:Nat),b1= .slice K f.length E/\LR S X w f (own++[id]) K (some ⟨bS,0,none⟩) E bR wr/\CurT wr b b (l.drop (4*k))/\1<=k/\4*k<=l.length/\f.length+1=d.length+k/\(l.length%4=0->frA (cG l 1) d=frA (cG l k) f)) (fun _ wr=>fk wr b)
   case atStart=>exact⟨1,d,a,c,rfl,b6.out.1,b6.out.2,uA,uA,uA,fun _=>rfl⟩
   case round=>
    obtain⟨k,f,K,E,rfl,bT,M,cs,cv,cp,a4⟩:=hrel;obtain⟨wI,a9⟩:=aa wr;subst a9;have bm:(l.drop (4*k)).length=l.length-4*k:=by rw[wi]
    have b8:Hid _:=iU M.cur;have ag:=nu b b (l.drop (4*k)) wI M.cur;have U:=uv bT a4;have a7:=n.out.ok.snoc uA cr bs;have cB:=a7.le;rw[wb,yb]at cB;have cb:Hid _:=a7;clear a7;by_cases ae:(l.drop (4*k)).length=0
    ·rw[CR ae]at ag;have cz:4*k=l.length:=uA;have cc:Hid (LI P N S X first w f (own++[id]) K (some ⟨bS,0,none⟩) E bR (dN l 0) wI):=by
      refine⟨U.out.1,cb.out,by rw[wb,yb];omega,?_,Fp bB.out uA⟩;rw[a8.out,oH a1 (b9.out uA uA),aT.out,U.out.2 uA,wZ uA,frA];show flR P (N-own.length) _ _ _= _;congr 1;rw[wb,yb];omega
     clear M bT a4 bm ae cz cp cs cv;go_wp2_with fail;refine ag.mono ?_;rintro e u ⟨rfl,s⟩;obtain rfl:=s.symm;clear s ag;go_wp2_with fail;go_roundw
     case rel=>exact⟨f,own++[id],K,some ⟨bS,0,none⟩,E,bR,dN l 0,rfl,by rw[wb];rfl,rfl,cc.out⟩
     case measure=>simp only[li];omega
    rw[CP ae]at ag;obtain⟨b3,bx⟩:=Fr M.cur;have bd:Hid (Blk wI 192 b b3):=bx;clear bx bT a4;go_upto_region 10 with fail
    refine ag.mono ?_;rintro e u ⟨rfl,s⟩;obtain rfl:=s.symm;clear s ag;go_upto_region 10 with fail
    by_cases c9:(l.drop (4*k)).length<4
    ·have bC:=nt b b (l.drop (4*k)) wI M.cur c9;have i:Hid (∀w',OnlyB b wI w'->RlP P N S X first w (.panicked bI) w'):=fun w' Q=>C.out w' (U.out.1.only q G (show Blk wI 192 b b3 from bd.out) af uB uB Q).fr (fun h=>absurd (T.out h).2 uA);clear M;go_wp2_with fail;refine bC.mono ?_;rintro e cX ⟨rfl,an⟩;go_wp2;exact⟨rfl,i.out _ an⟩
    have V:=xE b b (l.drop (4*k)) wI M uA;rw[show low ((l.drop (4*k)).take 4)=dN l k from rfl,w7,show 4*k+4=4*(k+1)by omega]at V;have ad:cG l k=dN l k::cG l (k+1):=xe uA;have D:Hid _:=ad;clear M ad;generalize hx:dN l k=x at*;clear hx;go_upto_region 11 with fail
    refine V.mono ?_;rintro e A ⟨rfl,cR,aA⟩;have J:=U.out.1.only q G (show Blk wI 192 b b3 from bd.out) af uB uB cR;have b7:Hid _:=iU aA.cur;have bA:=uv J aA;have bv:=J.fr.size;have bW:(l.drop (4*(k+1))).length=l.length-4*(k+1):=by rw[wi]
    have ca:Hid (fk A b<fk wI b):=by
     show fk A b<fk wI b;rw[b7.out,b8.out];omega
    have a5:f.length<=65536:=uA;have aB:Hid (∀(o:World),(A.alloc (.cells #[.int .i64 x] 3)).grownBy o (Value.slice K f.length E).ownBlock->CurT o b b (l.drop (4*(k+1)))/\fk o b=fk A b):=fun o m=>by
     have cT:=bAl A (.cells #[.int .i64 x] 3);have cL:∀t,3≠t->KeepT t A o:=fun t dp=>(aV cT).trans (bD (bQ J.f cT) m dp);have b5:=aA.keep (cL _ uB) (cL _ uB);exact⟨b5,by rw[iU b5.cur,iU aA.cur]⟩
    have dF:4*(k+1)<=l.length:=uA;clear V cR aA bm bW ae;go_upto_region 11 with fail
    rcases Nat.eq_zero_or_pos f.length with p|p
    ·have cn:=y3 p;subst cn;have ak:Own1 3 w.1.size A K 0 E (on []):=J.f;clear J p a5;go_wp2_with fail;refine(ez _).mono ?_;rintro e w' ⟨rfl,j⟩;obtain rfl:=j.symm;clear j;go_wp2_with (at_builtin;refine iF rfl _ _ co rfl w.1.size K 0 E (on []) rfl ak (.int .i64 x) rfl rfl uA uA bv ?_);intro c4 c3 o ap bP m L;have R8:=bA.out.1.appF q G ap m L;have i:Hid _:=R8;have aS:Hid (l.length%4=0->frA (cG l 1) d=frA (cG l (k+1)) ([]++[x])):=fun h=>by
      rw[U.out.2 h,D.out,frA,CH (fun h=>h.1 rfl)]
     have I:Hid (CurT o b b (l.drop (4*(k+1)))/\fk o b=fk A b):=aB.out o m;clear ap bP m L R8 ak;go_wp2_with fail;go_roundw
     case rel=>exact⟨k+1,[]++[x],_,_,rfl,i.out,I.out.1,uA,uA,by rw[wb,yb];omega,aS.out⟩
     case measure=>rw[I.out.2];exact ca.out
    ·obtain⟨z,O⟩:∃z,f.length=z+1:=⟨f.length-1,uA⟩;obtain⟨c5,rfl,_,_,_,bl⟩:=J.f.at_ p;have cm:=bl z uA;rw[rD f z uA]at cm;have bg:Hid (f.getLastD 0=f.getD z 0):=by
      show f.getLastD 0=f.getD z 0;rw[Fq,O];rfl
     have ak:=J.f;rw[O]at ak;have ac:Hid (f.length=z+1):=O;simp only[O];have dk:z<=65536:=uA;clear J bl p a5 O;generalize dq:f.getD z 0=y at*;clear dq;have dI:((((z+1:Nat):Int))==0)=false:=by simp;omega
     by_cases dV:y<x
     ·have aS:Hid (l.length%4=0->frA (cG l 1) d=frA (cG l (k+1)) (f++[x])):=fun h=>by
       rw[U.out.2 h,D.out,frA,CH (fun h=>by have:=h.2;rw[bg.out]at this;omega)]
      go_wp2_with fail;refine(ez _).mono ?_;rintro e w' ⟨rfl,j⟩;obtain rfl:=j.symm;clear j;go_wp2_with (at_builtin;refine iF rfl _ _ co rfl w.1.size (some ⟨c5,0,none⟩) (z+1) E (on f) rfl ak (.int .i64 x) rfl rfl (by have:=ac.out;omega) uA bv ?_);intro c4 c3 o ap bP m L;rw[<-ac.out]at ap m;have R8:=bA.out.1.appF q G ap m (L.imp (fun e=>by rw[e]) (fun e=>e));have i:Hid _:=R8;have I:Hid (CurT o b b (l.drop (4*(k+1)))/\fk o b=fk A b):=aB.out o m;clear ap bP m L R8 ak;go_wp2_with fail;go_roundw
      case rel=>exact⟨k+1,f++[x],_,_,by rw[wb,ac.out];rfl,i.out,I.out.1,uA,uA,by rw[wb,yb];omega,aS.out⟩
      case measure=>rw[I.out.2];exact ca.out
     ·have i:Hid (RlP P N S X first w (.panicked bI) A):=C.out A bA.out.1.fr (fun h=>by
       have dl:f≠[]/\x<=f.getLastD 0:=⟨fun e=>by have ch:=ac.out;rw[e]at ch;simp at ch,by rw[bg.out];omega⟩;rw[U.out.2 (T.out h).2,D.out,frA,B4 dl])
      go_wp2_with fail;refine(fi _).mono ?_;rintro e w' ⟨rfl,j⟩;obtain rfl:=j.symm;clear j;go_wp2;exact⟨rfl,i.out⟩
end
theorem xF{a n j}(h:j<n):(upF a n).getD j 0=((a+j:Nat):Int):=by simp[upF,List.getD,h]
theorem Ft{l M j}(a:j<l.length)(h:(srt l).getD j 0≠((2+j:Nat):Int)):eS l M=false:=by
 unfold eS;have:(srt l==upF 2 l.length)=false:=by
  rw[D2];intro e;rw[e,xF a]at h;exact h rfl
 rw[this]
 rfl
theorem Fu{l M}(h:∀j,j<l.length->(srt l).getD j 0=((2+j:Nat):Int)):eS l M=(2+l.length==M):=by
 unfold eS;have:(srt l==upF 2 l.length)=true:=by
  rw[beq_iff_eq];apply List.ext_getElem
  ·rw[iX,Ev]
  ·intro i b d;rw[iX]at b;have e:=h i b;have c:(srt l).getD i 0=(srt l)[i]:=by simp[List.getD,List.getElem?_eq_getElem (show i< (srt l).length by rw[iX];exact b)]
   rw[<-c,e,<-xF (a:=2) b];simp[List.getD,List.getElem?_eq_getElem d]
 rw[this]
 rfl
theorem Fv(B a c l M w)(h:Own1 3 B w a l.length c (on l))(L:l.length<=1048576)(Q:M<=1048576):
 Calls prog 117 #[.slice a l.length c,.int .i64 (M:Nat)] w fun e w'=>e= .returned (.bool (eS l M))/\w.grownBy w' (Value.slice a l.length c).ownBlock:=by
 have C:=xD B a c l w h L;generalize o:eS l M=b at*;have k:Hid _:=o;clear h o;go_enter func117,ntmps117;go_wp2_with fail;refine C.mono ?_;rintro e w1 ⟨rfl,D,x⟩;have t:=uv D x;have p:∀i,i<l.length->∃g,a=some ⟨g,0,none⟩/\w1.cell? ⟨g,i,none⟩=some (.int .i64 ((srt l).getD i 0)):=fun i u=>by
  obtain⟨g,e,_,_,_,p⟩:=x.at_ uA;exact⟨g,e,by rw[p i u,rD _ i (by rw[iX];exact u)]⟩
 have J:Hid _:=p;clear C p D x;go_wp2_with fail
 go_loop [11] (fun s=> ∃i:Nat,i<=l.length/\s= .int .i64 (i:Nat)/\∀j,j<i->(srt l).getD j 0=((2+j:Nat):Int)) (fun s=>l.length-(intOf s).toNat)
 case atStart=>exact⟨0,wa _,rfl,fun j v=>absurd v (xN _)⟩
 case round=>
  obtain⟨i,u,rfl,m⟩:=hrel;have z:Hid _:=m;clear m;by_cases r:i<l.length
  ·have N:(i:Int)< (l.length:Int):=uA;obtain⟨g,rfl,O⟩:=J.out i r;generalize I:(srt l).getD i 0=y at*;have A:Hid ((srt l).getD i 0=y):=I;clear I;by_cases d:y=2+(i:Int)
   ·have E:(y==2+(i:Int))=true:=by simp[d]
    have K:Hid (y=2+(i:Int)):=d;clear d;go_wp2_with fail
    go_round
    case rel=>
     refine⟨i+1,uA,by go_num,fun j v=> ?_⟩;by_cases G:j=i
     ·subst G;rw[A.out,K.out];omega
     ·exact z.out j uA
    case measure=>simp[intOf];omega
   ·have E:(y==2+(i:Int))=false:=by simp[d]
    have q:Hid (b=false):=by
     show b=false;rw[<-k.out];exact Ft r (by rw[A.out];intro e;exact d (by rw[e];omega))
    clear d;go_wp2_with fail;go_ret;exact⟨by rw[q.out];rfl,t.out.1⟩
  ·have F:i=l.length:=uA;have P:¬((i:Int)< (l.length:Int)):=uA;have q:Hid (b=decide ((2:Int)+(l.length:Nat)=(M:Nat))):=by
    show b=decide ((2:Int)+(l.length:Nat)=(M:Nat));rw[<-k.out,Fu (fun j v=>z.out j uA),Bool.eq_iff_iff,beq_iff_eq,D3];omega
   clear F;by_cases f:(2:Int)+(l.length:Nat)=(M:Nat)
   ·have H:((2:Int)+(l.length:Nat)==(M:Nat))=true:=by simp[f]
    have n:Hid (b=true):=by show b=true;rw[q.out];exact CR f
    clear f;go_wp2_with fail;go_ret;exact⟨by rw[n.out];rfl,t.out.1⟩
   ·have H:((2:Int)+(l.length:Nat)==(M:Nat))=false:=by simp[f]
    have n:Hid (b=false):=by show b=false;rw[q.out];exact CP f
    clear f;go_wp2_with fail;go_ret;exact⟨by rw[n.out];rfl,t.out.1⟩
def chD(l:List Int)(n p:Nat):Ch×Nat:=
 if l.getD (kyQ l n p) 0%3=2 then((strOfNums (kyL l n p),⟨#[]⟩,true),rdP n (kyQ l n p))
 else((strOfNums (kyL l n p),vaS (vaM (l.getD (rdP n (kyQ l n p)) 0)),false),rdP n (rdP n (kyQ l n p)))
def chG(l:List Int)(n:Nat):Nat->Nat->List Ch->List Ch×Nat
 |0,p,xs=>(xs,p)
 |m+1,p,xs=>if p<n then chG l n m (chD l n p).2 (xs++[(chD l n p).1])else(xs,p)
def fG(l:List Int)(n most p:Nat):List Ch×Nat:=chG l n (l.getD p 0%(most+1:Nat)).toNat (rdP n p) []
theorem Fw(l n p):(kyL l n p).length<=40:=by
 have:=uH (l.getD p 0);unfold kyL;split<;>simp only[BD,List.length_replicate] <;>omega
theorem Fx(k):(vaS (vaM k)).size<=70:=by
 have:=uJ k;unfold vaS;split
 ·rw[ByteArray.size_append,C0,List.length_replicate];decide
 ·rw[ByteArray.size_append,C0,List.length_replicate,show(⟨#[]⟩:ByteArray).size=0 from rfl];omega
theorem Fy(l n p):(chD l n p).1.1.size<=1048575/\(chD l n p).1.2.1.size<=1048575:=by
 have a:=Fw l n p;unfold chD;split
 ·exact⟨by show(strOfNums _).size<=_;rw[C0];omega,by show(0:Nat)<=_;omega⟩
 ·exact⟨by show(strOfNums _).size<=_;rw[C0];omega,by have:=Fx (l.getD (rdP n (kyQ l n p)) 0);show(vaS _).size<=_;omega⟩
theorem rF(l n):∀m p xs,(∀x∈xs,x.1.size<=1048575/\x.2.1.size<=1048575)->(chG l n m p xs).1.length<=xs.length+m/\∀x∈(chG l n m p xs).1,x.1.size<=1048575/\x.2.1.size<=1048575
 |0,p,xs,h=>⟨t6,h⟩
 |m+1,p,xs,h=>by
  unfold chG;split
  ·have:=rF l n m (chD l n p).2 (xs++[(chD l n p).1]) (fun x hx=>by
    rcases w6.1 hx with hx|hx
    ·exact h x hx
    ·rw[List.mem_singleton.1 hx];exact Fy l n p)
   refine⟨?_,this.2⟩;have a:=this.1;rw[wb,yb]at a;omega
  ·exact⟨by show xs.length<=_;omega,h⟩
theorem Fz(g a n c l p w)(h:IsRd w g a n c l p):
 Calls prog 100 #[.pointer (some ⟨g,0,none⟩)] w fun e w'=>e= .returned (.int .i64 ((n:Int)-(p:Int)))/\Below w.1.size w w':=by
 have d:w.cell? ⟨g,0,none⟩=some (.slice a n c):=by rw[DC w g _ _ _ _ h.box];rfl
 have f:w.cell? ⟨g,1,none⟩=some (.int .i64 (p:Nat)):=by rw[DC w g _ _ _ _ h.box];rfl
 have i:=h.le;have j:=h.at_;have b:Hid (Below w.1.size w w.drew):=⟨rfl,rfl,rfl,t6,fun _ _=>rfl⟩;clear h;go_enter func100,ntmps100;go_wp2_with fail;go_region;go_wp2;go_ret;exact⟨rfl,b.out⟩
theorem rG{g w w' a b n c p d B l xs}(f:IsRd w g a n c l p)(h:OCh B w b d xs)(e:OnlyB g w w'):OCh B w' b d xs:=h.keep (cx e f.box uB)
theorem I4(k):prog.built 161 [(0,.string k)]=some #[.string k,.string ⟨#[]⟩,.bool false]:=vk
theorem xG{k B u d a c xs}(h:OCh B u a c xs)(f:OnlyB k u d)(b:(Value.slice a xs.length c).ownBlock≠some k):OCh B d a c xs:=by
 refine⟨h.1,?_⟩;rcases h.2 with h2|⟨g,cap,cur,hv,hg,hh,r⟩
 ·exact v7 h2
 ·refine v6 ⟨g,cap,cur,hv,hg,?_,r⟩;rw[f.block g (wy.1 hh).1 (fun e=>b (by rw[hv,e];rfl))];exact hh
theorem oQ(g a n c l p d w)(h:IsRd w g a n c l p)(cr:d<=1000)(R)(G:R=fG l n d p):
 Calls prog 57 #[.pointer (some ⟨g,0,none⟩),.int .i64 (d:Nat)] w fun e w'=> ∃s t,e= .returned (.slice s R.1.length t)/\OnlyB g w w'/\IsRd w' g a n c l R.2/\OCh w.1.size w' s t R.1:=by
 have cb:=h.bs.byte p;have a6:=h.lt;go_enter func57,ntmps57;go_wp2_with fail;refine(cZ g a n c l p w h).mono ?_;rintro e w1 ⟨rfl,ba,cg⟩;obtain⟨k,a7⟩:=aa (l.getD p 0);unfold fG at G;rw[<-a7]at cb G ⊢;clear a7;obtain⟨k0,cA⟩:=cb;have cc:0<=k%((d:Int)+1):=Int.emod_nonneg _ uA;have bE:k%((d:Int)+1)< (d:Int)+1:=Int.emod_lt_of_pos _ uA;obtain⟨N,bB⟩:∃N:Nat,k%((d:Int)+1)=(N:Int):=⟨(k%((d:Int)+1)).toNat,uA⟩;have cp:N<=1000:=uA;have Y:((d+1:Nat):Int)=(d:Int)+1:=uA;rw[Y,bB]at G;have b1:Hid (R=chG l n N (rdP n p) []):=G;have cj:k.tmod ((d:Int)+1)=(N:Int):=by rw[A3 k0,bB]
 have cs:((d:Int)+1)≠0:=uA;have bW:=(B2 w1.1.size w1).alloc t6 (.cells #[] 161);have b2:Hid (OnlyB g w (w1.alloc (.cells #[] 161))/\IsRd (w1.alloc (.cells #[] 161)) g a n c l (rdP n p)/\OCh w.1.size (w1.alloc (.cells #[] 161)) (some ⟨w1.1.size,0,none⟩) 0 []):=⟨ba.thenB bW ba.size,cg.below bW,ORow.mono (lL (f:=chF []) (n:=0) (aq w1 161 #[]) (jC _ _) t6 uA) ba.size⟩;have H:Hid (IsRd w g a n c l p):=h;clear bW ba cg h cc bE bB G Y;go_wp2_with fail;go_loopw [6,7] (fun o i wr=> ∃(j:Nat)(xs:List Ch)(q:Nat)(s:Option Addr)(t:Nat),j<=N/\xs.length=j/\i= .int .i64 (j:Nat)/\o= .slice s xs.length t/\R=chG l n (N-j) q xs/\OnlyB g w wr/\IsRd wr g a n c l q/\OCh w.1.size wr s t xs) (fun _ i _=>N-(intOf i).toNat)
 case atStart=>exact⟨0,[],rdP n p,_,0,wa _,rfl,rfl,rfl,b1.out,b2.out⟩
 case round=>
  obtain⟨j,xs,q,s,t,cv,aT,rfl,rfl,a9,aB,ab,a8⟩:=hrel;obtain⟨cl,ce⟩:=aa wr;subst ce;clear b2 b1;have cn:=aB.size;have cz:=ab.at_;by_cases cq:j<N
  ·have bF:(j:Int)< (N:Int):=uA;have b5:=Fz g a n c l q cl ab;have L:=uv a9 (vJ aB (vJ ab a8));have U:Hid _:=aT;clear a9 aB ab a8 aT;go_wp2_with fail;refine b5.mono ?_;rintro e bf ⟨rfl,an⟩;clear b5;have a3:=L.out.2.2.1.below an;have bb:=L.out.2.1.thenB an cn;have a5:=L.out.2.2.2.below an;by_cases br:q<n
   ·have bR:(0:Int)< (n:Int)-(q:Int):=uA;have D:Hid (R=chG l n (N-(j+1)) (chD l n q).2 (xs++[(chD l n q).1])):=by
     show R= _;rw[L.out.1,show N-j=N-(j+1)+1 by omega,chG,B4 br]
    have b4:=BG g a n c l q bf a3;have a4:Hid (OnlyB g w bf/\OCh w.1.size bf s t xs/\IsRd bf g a n c l q):=⟨bb,a5,a3⟩;clear L bb a5 a3 an;go_wp2_with fail;refine b4.mono ?_;rintro e C ⟨rfl,bT,bd⟩;clear b4;have bl:=bd.bs.byte (kyQ l n q);obtain⟨b,aS⟩:=aa (strOfNums (kyL l n q));have bg:Hid _:=aS;rw[<-aS];clear aS;obtain⟨P,X⟩:=aa (C.alloc (.cells #[.string b,.string ⟨#[]⟩,.bool false] 161));have a2:Below C.1.size C P:=by rw[X];exact bAl _ _
    have cf:Blk P 161 C.1.size [.string b,.string ⟨#[]⟩,.bool false]:=by rw[X];exact aq C _ _
    have a0:=a4.out.1.trans bT;have ap:=rG a4.out.2.2 a4.out.2.1 bT;have bn:(Value.slice s xs.length t).ownBlock≠some C.1.size:=fun e=>by have:=(Ct ap _ e).2;omega
    have b0:=a0.size;have b6:=cZ g a n c l (kyQ l n q) P (bd.below a2);have ad:Hid (OnlyB g w P/\OCh w.1.size P s t xs/\Blk P 161 C.1.size [.string b,.string ⟨#[]⟩,.bool false]/\IsRd P g a n c l (kyQ l n q)):=⟨a0.thenB a2 b0,ap.below a2,cf,bd.below a2⟩;clear a4 bT bd a0 ap a2 cf;go_upto_region 7 with(refine bt rfl 161 _ _ rfl C #[.string ⟨#[]⟩,.string ⟨#[]⟩,.bool false] #[.string b,.string ⟨#[]⟩,.bool false] 161 rfl rfl mg rfl rfl ?_)
    change Code.wp _ _ _ _ (C.alloc (.cells #[.string b,.string ⟨#[]⟩,.bool false] 161));rw[<-X];have bm:g≠C.1.size:=uA;generalize C.1.size=u at*;clear X;go_wp2_with fail;refine b6.mono ?_;rintro e J ⟨rfl,a1,ac⟩;clear b6;have E:=ad.out.2.2.1.only a1 (ED bm);have af:=ad.out.1.trans a1;have V:=rG ad.out.2.2.2 ad.out.2.1 a1;obtain⟨x,hx⟩:=aa (l.getD (kyQ l n q) 0);have b3:Hid _:=hx;rw[<-hx]at bl ⊢;clear hx ad;obtain⟨cm,cB⟩:=bl;have bs:x.tmod 3=x%3:=A3 cm;by_cases W:x%3=2
    ·rw[W]at bs;have bu:Hid (R=chG l n (N-(j+1)) (rdP n (kyQ l n q)) (xs++[(b,⟨#[]⟩,true)])):=by
      show R= _;rw[D.out,chD,<-b3.out,B4 W,<-bg.out]
     have b8:J.cell? ⟨u,2,none⟩=some (.bool false):=E.cell 2;have ca:=E.free 2;obtain⟨m,v⟩:=aa (J.setCell ⟨u,2,none⟩ (.bool true));have aX:Blk m 161 u [.string b,.string ⟨#[]⟩,.bool true]:=by rw[v];exact E.set 2 _
     have B:OnlyB u J m:=by rw[v];exact⟨rfl,rfl,rfl,vo,fun k a7 bP=>Below.heap_setCell _ _ _ _ bP⟩
     have Q:=B.below b0 af.size;have M:=af.thenB Q t6;have r:Hid (Blk m 161 u [.string b,.string ⟨#[]⟩,.bool true]/\OnlyB g w m/\IsRd m g a n c l (rdP n (kyQ l n q))/\OCh w.1.size m s t xs):=⟨aX,M,H.out.only M (by rw[Q.block g a6];exact ac.box) ac.at_,xG V B bn⟩;clear aX B Q M E af V a1 ac;go_upto_region 10 with fail
     rw[<-v];clear v b8 ca;have z:∀bZ y,([.string b,.string ⟨#[]⟩,.bool true]:List Value)[bZ]?=some y->m.cell? ⟨u,0+bZ,none⟩=some y:=fun bZ y bS=>by rw[wE,r.out.1.cell];exact bS
     have F:=(B2 m.1.size m).alloc t6 (.cells #[.string b,.string ⟨#[]⟩,.bool true] 161);have T:=r.out.2.2.2.below F;have R8:=(uZ m (b,⟨#[]⟩,true)).reads;have I:xs.length+[((b,⟨#[]⟩,true):Ch)].length<=1048576:=by rw[U.out];simp;omega
     have A:=wg r.out.2.1.size F.size;have ak:Hid _:=F;clear F;go_wp2_with (first|(refine dG rfl 161 _ rfl u 0 rfl [.string b,.string ⟨#[]⟩,.bool true] _ z underlying161 rfl mg ?_)|(refine uY rfl _ _ rfl w.1.size s t xs rfl T (some ⟨m.1.size,0,none⟩) 1 [(b,⟨#[]⟩,true)] rfl R8 I A ?_;rintro bz bA ck ag aA));have S:=(ak.out.mono r.out.2.1.size).trans (T.grown aA A);have O:=r.out.2.1.thenB S t6;have K:=uv O (vJ (H.out.only O (by rw[S.block g a6];exact r.out.2.2.1.box) r.out.2.2.1.at_) ag);clear z T R8 I A S O ag aA ak;go_wp2_with fail;go_roundw
     case rel=>exact⟨j+1,xs++[(b,⟨#[]⟩,true)],_,bz,bA,uA,by rw[wb,U.out];rfl,by go_num,by rw[wb];rfl,bu.out,K.out.1,K.out.2.1,K.out.2.2⟩
     case measure=>simp[intOf];omega
    ·have ch:¬x.tmod 3=2:=by rw[bs];exact W
     obtain⟨am,bC⟩:=aa (vaS (vaM (l.getD (rdP n (kyQ l n q)) 0)));have bu:Hid (R=chG l n (N-(j+1)) (rdP n (rdP n (kyQ l n q))) (xs++[(b,am,false)])):=by
      show R= _;rw[D.out,chD,<-b3.out,CH W,<-bg.out,bC]
     have bx:=BI g a n c l (rdP n (kyQ l n q)) J ac;rw[<-bC]at bx;clear bC;have ae:Hid (OnlyB g w J/\OCh w.1.size J s t xs/\Blk J 161 u [.string b,.string ⟨#[]⟩,.bool false]/\IsRd J g a n c l (rdP n (kyQ l n q))):=⟨af,V,E,ac⟩;clear af V E a1 ac;go_wp2_with fail;refine bx.mono ?_;rintro e bY ⟨rfl,bc,bX⟩;clear bx;have Z:=ae.out.2.2.1.only bc (ED bm);have bv:=ae.out.1.trans bc;have bk:=rG ae.out.2.2.2 ae.out.2.1 bc;have b7:bY.cell? ⟨u,1,none⟩=some (.string ⟨#[]⟩):=Z.cell 1;have b9:=Z.free 1;obtain⟨m,v⟩:=aa (bY.setCell ⟨u,1,none⟩ (.string am));have aX:Blk m 161 u [.string b,.string am,.bool false]:=by rw[v];exact Z.set 1 _
     have B:OnlyB u bY m:=by rw[v];exact⟨rfl,rfl,rfl,vo,fun k a7 bP=>Below.heap_setCell _ _ _ _ bP⟩
     have Q:=B.below b0 bv.size;have M:=bv.thenB Q t6;have r:Hid (Blk m 161 u [.string b,.string am,.bool false]/\OnlyB g w m/\IsRd m g a n c l (rdP n (rdP n (kyQ l n q)))/\OCh w.1.size m s t xs):=⟨aX,M,H.out.only M (by rw[Q.block g a6];exact bX.box) bX.at_,xG bk B bn⟩;clear aX B Q M Z bv bk bc bX ae;go_upto_region 10 with fail
     rw[<-v];clear v b7 b9;have z:∀bZ y,([.string b,.string am,.bool false]:List Value)[bZ]?=some y->m.cell? ⟨u,0+bZ,none⟩=some y:=fun bZ y bS=>by rw[wE,r.out.1.cell];exact bS
     have F:=(B2 m.1.size m).alloc t6 (.cells #[.string b,.string am,.bool false] 161);have T:=r.out.2.2.2.below F;have R8:=(uZ m (b,am,false)).reads;have I:xs.length+[((b,am,false):Ch)].length<=1048576:=by rw[U.out];simp;omega
     have A:=wg r.out.2.1.size F.size;have ak:Hid _:=F;clear F;go_wp2_with (first|(refine dG rfl 161 _ rfl u 0 rfl [.string b,.string am,.bool false] _ z underlying161 rfl mg ?_)|(refine uY rfl _ _ rfl w.1.size s t xs rfl T (some ⟨m.1.size,0,none⟩) 1 [(b,am,false)] rfl R8 I A ?_;rintro bz bA ck ag aA));have S:=(ak.out.mono r.out.2.1.size).trans (T.grown aA A);have O:=r.out.2.1.thenB S t6;have K:=uv O (vJ (H.out.only O (by rw[S.block g a6];exact r.out.2.2.1.box) r.out.2.2.1.at_) ag);clear z T R8 I A S O ag aA ak;go_wp2_with fail;go_roundw
     case rel=>exact⟨j+1,xs++[(b,am,false)],_,bz,bA,uA,by rw[wb,U.out];rfl,by go_num,by rw[wb];rfl,bu.out,K.out.1,K.out.2.1,K.out.2.2⟩
     case measure=>simp[intOf];omega
   ·have bR:¬(0:Int)< (n:Int)-(q:Int):=uA;have D:Hid (R=(xs,q)):=by
     show R= _;rw[L.out.1,show N-j=N-(j+1)+1 by omega,chG,CH br]
    have r:=uv bb (vJ a3 a5);clear L bb a5 a3 an;go_wp2_with fail;go_ret;rw[D.out];exact⟨s,t,rfl,r.out⟩
  ·have bF:¬(j:Int)< (N:Int):=uA;have D:Hid (R=(xs,q)):=by
    show R= _;rw[a9,show N-j=0 by omega,chG]
   have r:=uv aB (vJ ab a8);clear a9 aB ab a8 aT;go_wp2_with fail;go_ret;rw[D.out];exact⟨s,t,rfl,r.out⟩
