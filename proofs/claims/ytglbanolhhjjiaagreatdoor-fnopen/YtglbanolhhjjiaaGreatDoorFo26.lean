import Derived.Test.YtglbanolhhjjiaaGreatDoorFo25
import Derived.Test.YtglbanolhhjjiaaGreatDoorFo7
namespace Go.Proofs.YtglbanolhhjjiaaGreatDoor
open Go.Proofs.Tryz
open Go.RowKit
set_option linter.unusedVariables false
set_option maxRecDepth 100000
set_option maxHeartbeats 32000000
def fF(w:World)(g:Nat):Option Nat:=match w.cell? ⟨g,0,none⟩with|some (.slice (some a) _ _)=>some a.block|_=>none
theorem Fm(g B l k w)(h:Cur w g B l)(I:1<=k)(J:k<=l.length):
 Calls prog 169 #[.pointer (some ⟨g,0,none⟩),.int .i64 (k:Int)] w fun e w'=> ∃b d x,e= .returned (.slice (some ⟨b,d,none⟩) k x)/\OnlyB g w w'/\Cur w' g B (l.drop k)/\Bs w' (some ⟨b,d,none⟩) k x (l.take k)/\fF w' g=fF w g:=by
 obtain⟨a,n,c,h⟩:=h;have L:=h.bs.len_eq;obtain⟨b,d,rfl,K,_⟩:=h.bs.at_ t7;have s:=h.ne b d t7 rfl;have y:=h.low b d t7 rfl;have G:=h.bs.le;have A:=h.bs.le';unfold maxLen at A;have C:=h.blk.cell 0;have r:fF w g=some b:=by unfold fF;rw[C];rfl
 have H:=h.blk.free 0;have F:decide (k<=n)=true:=by simp;omega
 have u:Bs w (some ⟨b,d,none⟩) k c (l.take k):=by have:=h.bs.cut 0 k t7 c t7 h.bs.le';simpa using this
 have i:Bs w (some ⟨b,d+k,none⟩) (n-k) (c-k) (l.drop k):=by
  have:=h.bs.cut k (n-k) t7 (c-k) t7 (by have:=h.bs.le';omega);rwa [wC (by rw[vk];omega)]at this
 have p:Hid (∀f,(f=some ⟨b,d+k,none⟩\/(c=k/\f=some ⟨b,d,none⟩))->OnlyB g w (w.setCell ⟨g,0,none⟩ (.slice f (n-k) (c-k)))/\Cur (w.setCell ⟨g,0,none⟩ (.slice f (n-k) (c-k))) g B (l.drop k)/\Bs (w.setCell ⟨g,0,none⟩ (.slice f (n-k) (c-k))) (some ⟨b,d,none⟩) k c (l.take k)/\fF (w.setCell ⟨g,0,none⟩ (.slice f (n-k) (c-k))) g=some b):=fun f t=>by
  have o:=ax w g 0 (.slice f (n-k) (c-k));refine⟨o,⟨f,n-k,c-k,h.blk.set 0 _,?_,fun v j D e=> ?_⟩,u.only o (fun v j _ e=>by cases e;exact s),?_⟩
  rotate_left
  rotate_left
  ·unfold fF;rw[(h.blk.set 0 _).cell 0];rcases t with rfl|⟨hc,rfl⟩<;>rfl
  rotate_left
  ·rcases t with rfl|⟨hc,rfl⟩<;>cases e<;>exact y
  rcases t with rfl|⟨hc,rfl⟩
  ·exact i.only o (fun v j _ e=>by cases e;exact s)
  ·refine⟨i.len_eq,i.le,i.le',fun e=>(by cases e),fun D=>by omega,i.byte⟩
 have q:Hid _:=r;clear h u i r;go_enter func169,ntmps169;go_wp2_with fail;refine BV (ez w) ?_;rintro e w1 ⟨rfl,E⟩;obtain rfl:=E.symm;go_wp2
 ·have z:c-k=0:=t7;go_ret;have m:=p.out (some ⟨b,d,none⟩) (u4 ⟨by assumption,rfl⟩);rw[z]at m;exact⟨b,d,c,by simp_all,m.1,m.2.1,m.2.2.1,m.2.2.2.trans q.out.symm⟩
 ·go_ret;have m:=p.out (some ⟨b,d+k,none⟩) (u5 rfl);exact⟨b,d,c,rfl,m.1,m.2.1,m.2.2.1,m.2.2.2.trans q.out.symm⟩
theorem Fn(g B l w)(j:Cur w g B l)(d:4<=l.length):
 Calls prog 147 #[.pointer (some ⟨g,0,none⟩)] w fun e w'=>e= .returned (.int .i64 (low (l.take 4)))/\OnlyB g w w'/\Cur w' g B (l.drop 4)/\fF w' g=fF w g:=by
 have T:=Fm g B l 4 w j t7 d;clear j;go_enter func147,ntmps147;go_wp2_with fail;refine BV T ?_;rintro e w1 ⟨b,k,c,rfl,o,h,R,i⟩;have N:=iO _ 4 c (l.take 4) w1 R t7;have a:=t6 o (u2 h i);clear o h R T i;go_wp2_with fail;refine BV N ?_;rintro e m ⟨rfl,f⟩;obtain rfl:=f.symm;go_wp2;go_ret;exact⟨rfl,a.out⟩
structure CurT(w:World)(g B:Nat)(l:List Int):Prop where
 cur:Cur w g B l
 ty:0<l.length->∀b,fF w g=some b->∃cs fr,w.heap[b]?=some (.cells cs 5 fr)
theorem CurT.keep{w w' g B l}(s:CurT w g B l)(r:KeepT 192 w w')(k:KeepT 5 w w'):CurT w' g B l:=by
 obtain⟨⟨a,n,c,d⟩,o⟩:=s;have j:=d.blk.keepT r;have p:fF w' g=fF w g:=by unfold fF;rw[j.cell 0,d.blk.cell 0]
 have q:BsT w a n c l:=⟨d.bs,fun f=>by
  obtain⟨b,m,e,_,_⟩:=d.bs.at_ f;obtain⟨cs,fr,i⟩:=o (by rw[d.bs.len_eq];exact f) b (by unfold fF;rw[d.blk.cell 0,e];rfl);exact⟨b,m,cs,fr,e,i⟩⟩
 refine⟨⟨a,n,c,j,(q.keep k).bs,d.low⟩,fun f b h=> ?_⟩;rw[p]at h;obtain⟨cs,fr,i⟩:=o f b h;exact⟨cs,fr,k.block b cs fr i⟩
theorem xE(g B l w)(i:CurT w g B l)(k:4<=l.length):
 Calls prog 147 #[.pointer (some ⟨g,0,none⟩)] w fun e w'=>e= .returned (.int .i64 (low (l.take 4)))/\OnlyB g w w'/\CurT w' g B (l.drop 4):=by
 refine(Fn g B l w i.cur k).mono ?_;rintro e w' ⟨rfl,o,m,p⟩;refine⟨rfl,o,m,fun _ b f=> ?_⟩;rw[p]at f;obtain⟨cs,fr,d⟩:=i.ty t7 b f;obtain⟨a,n,c,j⟩:=i.cur;have h:b≠g:=fun e=>by
  subst e;have:=j.blk;unfold Blk at this;rw[d]at this;cases this
 exact⟨cs,fr,(o.block b (vR.1 d).1 h).trans d⟩
theorem Fo{w a n c l}(k:BsT w a n c l):CurT (w.alloc (.cells #[.slice a n c] 192)) w.1.size w.1.size l:=by
 have q:=bAl w (.cells #[.slice a n c] 192);have i:=aq w 192 #[.slice a n c];have h:=k.keep (aV q);refine⟨⟨a,n,c,⟨i,h.bs,fun b p o e=> ?_⟩⟩,fun r b d=> ?_⟩
 ·obtain⟨j,g,f,d,_⟩:=k.bs.at_ o;rw[f]at e;cases e;exact d
 ·unfold fF at d;rw[i.cell 0]at d;obtain⟨j,g,cs,fr,f,m⟩:=h.ty (by have:=k.bs.len_eq;omega);rw[f]at d;cases d;exact⟨cs,fr,m⟩
section
def RlP(P:Pg)(N:Nat)(S:World->Prop)(X:Nat->Prop)(first:Int)(w:World)(e:Ending)(w':World):Prop:=
 OnlyS X w w'/\((∃free own a c a2 c2,flR P (N+1) first [] []=some (free,own)/\free.length<=65536/\own.length<=1024/\e= .returned (.tuple #[.slice a free.length c,.slice a2 own.length c2])/\Own1 3 w.1.size w' a free.length c (on free)/\Own1 3 w.1.size w' a2 own.length c2 (on own)/\S w'/\(∀g,a2=some ⟨g,0,none⟩->a≠some ⟨g,0,none⟩))\/(flR P (N+1) first [] []=none/\e= .panicked bI))
structure LR(S:World->Prop)(X:Nat->Prop)(w:World)(free own:List Int)(a a2:Option Addr)(c c2:Nat)(wr:World):Prop where
 fr:OnlyS X w wr
 src:S wr
 f:Own1 3 w.1.size wr a free.length c (on free)
 o:Own1 3 w.1.size wr a2 own.length c2 (on own)
 sep:∀g,a2=some ⟨g,0,none⟩->a≠some ⟨g,0,none⟩
structure LI(P:Pg)(N:Nat)(S:World->Prop)(X:Nat->Prop)(first:Int)(w:World)(free own:List Int)(a a2:Option Addr)(c c2:Nat)(id:Int)(wr:World):Prop where
 r:LR S X w free own a a2 c c2 wr
 ok:SeenOk own N
 lf:free.length<=64*own.length
 eq:flR P (N+1) first [] []=flR P (N+1-own.length) id own free
 bd:0<=id/\id<4294967296
variable {S:World->Prop} {X:Nat->Prop} {B0 N ty fn:Nat} {v:Value} {P:Pg} {w wr wr':World} {free own:List Int} {a a2:Option Addr} {c c2:Nat}
theorem LR.below(e:Src P B0 ty fn v S X)(f:B0<=w.1.size)(d:LR S X w free own a a2 c c2 wr)(b:Below wr.1.size wr wr'):LR S X w free own a a2 c c2 wr':=
 ⟨d.fr.trans (OnlyS.ofBelow b),e.keep _ _ d.src ⟨b.os,b.tape,b.output,b.size,fun i g=>b.block i (by have:=d.fr.size;omega)⟩ (aV b),d.f.below b,d.o.below b,d.sep⟩
theorem LR.only(j:Src P B0 ty fn v S X)(l:B0<=w.1.size)(f:LR S X w free own a a2 c c2 wr){g t xs}(d:Blk wr t g xs)(m:w.1.size<=g)(h:t≠3)(i:t≠5)(b:OnlyB g wr wr'):LR S X w free own a a2 c c2 wr':=
 ⟨f.fr.transN (OnlyS.ofB b) (fun k d e=>by subst e;omega),j.keep _ _ f.src (OnlyS.below (OnlyS.ofB b) (by have:=f.fr.size;omega) (fun k e=>by subst e;omega)) (aw b d i),f.f.keep (aw b d h),f.o.keep (aw b d h),f.sep⟩
theorem LR.page(g:Src P B0 ty fn v S X)(i:B0<=w.1.size)(d:LR S X w free own a a2 c c2 wr)(h:S wr')(f:OnlyS X wr wr'):LR S X w free own a a2 c c2 wr':=
 ⟨d.fr.trans f,h,xu d.f (fun k b=>f.block k (ld d.f k b).2 (fun e=>by have:=g.low k e;have:=(ld d.f k b).1;omega)),xu d.o (fun k b=>f.block k (ld d.o k b).2 (fun e=>by have:=g.low k e;have:=(ld d.o k b).1;omega)),d.sep⟩
theorem LR.appF(i:Src P B0 ty fn v S X)(o:B0<=w.1.size)(m:LR S X w free own a a2 c c2 wr){x g j w'}(p:Own1 3 w.1.size w' (some ⟨g,0,none⟩) (free.length+1) j (on free++[.int .i64 x]))(f:(wr.alloc (.cells #[.int .i64 x] 3)).grownBy w' (Value.slice a free.length c).ownBlock)(n:a=some ⟨g,0,none⟩\/wr.1.size<g):LR S X w (free++[x]) own (some ⟨g,0,none⟩) a2 j c2 w':=by
 have q:=bAl wr (.cells #[.int .i64 x] 3);have b:=m.below i o q;have r:=b.fr.size;refine⟨b.fr.transN (OnlyS.ofGrown f) (fun k s e=>by have:=(BS m.f k e).1;omega),i.keep _ _ b.src (t2.grown f t7 (fun k e=>by have:=(BS m.f k e).1;omega)) (bD b.f f uv),?_,?_,?_⟩
 ·rw[u7,<-fv];exact p
 ·exact b.o.grown b.f f (fun l d h=>b.sep l h d)
 ·intro l d h;cases h;rcases n with e|e
  ·exact m.sep g d e
  ·have:=ld m.o g (by rw[d];simp[rb]);omega
theorem LR.appO(i:Src P B0 ty fn v S X)(o:B0<=w.1.size)(m:LR S X w free own a a2 c c2 wr){x g j w'}(p:Own1 3 w.1.size w' (some ⟨g,0,none⟩) (own.length+1) j (on own++[.int .i64 x]))(f:(wr.alloc (.cells #[.int .i64 x] 3)).grownBy w' (Value.slice a2 own.length c2).ownBlock)(n:a2=some ⟨g,0,none⟩\/wr.1.size<g):LR S X w free (own++[x]) a (some ⟨g,0,none⟩) c j w':=by
 have q:=bAl wr (.cells #[.int .i64 x] 3);have b:=m.below i o q;have r:=b.fr.size;refine⟨b.fr.transN (OnlyS.ofGrown f) (fun k s e=>by have:=(BS m.o k e).1;omega),i.keep _ _ b.src (t2.grown f t7 (fun k e=>by have:=(BS m.o k e).1;omega)) (bD b.o f uv),?_,?_,?_⟩
 ·exact b.f.grown b.o f (fun l h d=>b.sep l h d)
 ·rw[u7,<-fv];exact p
 ·intro l h d;cases h;rcases n with e|e
  ·exact m.sep g e d
  ·have:=ld m.f g (by rw[d];simp[rb]);omega
theorem SeenOk.snoc{l N}(i:SeenOk l N){id}(d:0<=id)(f:id< (N:Int))(g:id∉l):SeenOk (l++[id]) N:=
 ⟨by
  rw[zd];exact⟨i.nodup,uB,by intro a h b c e;simp at c;subst c;subst e;exact g h⟩,fun x hx=>by
  rcases wE.1 hx with hx|hx
  ·exact i.lt x hx
  ·simp at hx;subst hx;exact⟨d,f⟩⟩
theorem Fp{l}(a:IsB l)(c:4<=l.length):0<=dN l 0/\dN l 0<4294967296:=by
 have:=gX (gR a 4);have b:(l.take 4).length=4:=by rw[wv];omega
 rw[b]at this;simpa [dN]using this
theorem Fq(l:List Int):l.getLastD 0=l.getD (l.length-1) 0:=by
 rw[List.getLastD_eq_getLast?,List.getLast?_eq_getElem?]
 rfl
theorem Fr{w g B l}(b:Cur w g B l):∃xs,Blk w 192 g xs:=by
 obtain⟨a,n,c,b⟩:=b;exact⟨_,b.blk⟩
end
section
def li:Value->Nat
 | .slice _ n _=>n
 |_=>0
variable {S:World->Prop} {X:Nat->Prop} {B0 N ty fn:Nat} {v:Value} {P:Pg}
theorem Fs(bF:PgW P N)(cm:∀t,(P.bd t).length<=256)(q:Src P B0 ty fn v S X)(first w)(cl:S w)(H:B0<=w.1.size)(p:0<=first)(br:first<4294967296):
 Calls prog 115 #[.iface ty v,.int .i64 first] w (RlP P N S X first w):=by
 have dc:=bF.le;have dl:=q.meth;have dd:=q.ent;have c3:Hid (LI P N S X first w [] [] none none 0 0 first w):=⟨⟨OnlyS.refl _ _,cl,cQ _ _ _,cQ _ _ _,fun g e=>by cases e⟩,⟨ya,uB⟩,uB,rfl,p,br⟩;clear cl p br;go_enter func115,ntmps115;go_wp2_with fail;go_loopw [4,5,6] (fun b3 b4 dD wr=> ∃(f b:List Int)(a Y:Option Addr)(c Z:Nat)(id:Int),b3= .slice a f.length c/\b4= .slice Y b.length Z/\dD= .int .i64 id/\LI P N S X first w f b a Y c Z id wr) (fun _ b4 _ _=>N+1-li b4)
 case atStart=>exact⟨[],[],none,none,0,0,first,rfl,rfl,rfl,c3.out⟩
 case round=>
  obtain⟨f,b,a,Y,c,Z,id,rfl,rfl,rfl,an⟩:=hrel;obtain⟨c2,ba⟩:=aa wr;subst ba;have dU:=an.ok.le;have dF:=an.lf;have dV:=an.r.fr.size;have T:=Ff w.1.size Y Z b id c2 an.r.o t7;have n:Hid _:=an;clear an;by_cases a2:id=0
  ·subst a2;have bZ:Hid (flR P (N+1) first [] []=some (f,b)):=by show flR P (N+1) first [] []=some (f,b);rw[n.out.eq,xf]
   clear T;go_wp2_with fail;refine BB (v:= .tuple #[.slice a f.length c,.slice Y b.length Z]) (by simp[results,results115]) rfl ?_;exact⟨n.out.r.fr,u5 ⟨f,b,a,c,Y,Z,bZ.out,t7,t7,rfl,n.out.r.f,n.out.r.o,n.out.r.src,n.out.r.sep⟩⟩
  have a9:Hid (flR P (N+1) first [] []=flR P (N-b.length+1) id b f):=by
   show flR P (N+1) first [] []=flR P (N-b.length+1) id b f;rw[n.out.eq];congr 1;omega
  have dE:(id==0)=false:=by simp[a2]
  have r:Hid (∀w',OnlyS X w w'->eZ P b id=false->RlP P N S X first w (.panicked bI) w'):=fun w' R I=>⟨R,u4 ⟨by rw[a9.out,xg a2 I],rfl⟩⟩;cases ac:b.contains id with
  |true=>
   rw[ac]at T;have I:eZ P b id=false:=by
    rw[<-w6,kY];intro s;exact s.2.2.1 (w5.1 ac)
   clear ac;go_wp2_with fail;refine T.mono ?_;rintro e u ⟨rfl,z⟩;obtain rfl:=z.symm;clear z T;go_wp2_with fail;refine(fi _).mono ?_;rintro e w' ⟨rfl,rfl⟩;go_wp2;exact⟨rfl,r.out _ n.out.r.fr I⟩
  |false=>
   rw[ac]at T;have cg:=q.page c2 id n.out.r.src n.out.bd.1 n.out.bd.2;go_wp2_with fail;refine T.mono ?_;rintro e u ⟨rfl,z⟩;obtain rfl:=z.symm;clear z T;go_wp2_with fail;refine(ez _).mono ?_;rintro e w' ⟨rfl,rfl⟩;go_wp2_with fail;refine cg.mono ?_;rintro e w1 ⟨cX,b1,⟨bv,ab,a0,rfl,a3⟩|⟨cD,k,ab,nb,a0,dX,rfl⟩⟩
   rotate_left
   ·have I:eZ P b id=false:=by
     rw[<-w6,kY,cD];intro s;exact absurd s.1 uv
    have i:Hid (RlP P N S X first w (.panicked bI) w1):=r.out _ (n.out.r.fr.trans b1) I;go_wp2_with fail;refine(fi _).mono ?_;rintro e w' ⟨rfl,j⟩;obtain rfl:=j.symm;clear j;go_wp2;exact⟨rfl,i.out⟩
   have bP:=n.out.r.page q H cX b1;have bu:id∉b:=fun s=>by rw[w5.2 s]at ac;cases ac
   obtain⟨dI,cv⟩:=bF.ok id bv;have cn:=cm id;generalize b0:P.bd id=l at a3 cn ⊢;generalize bs:P.kd id=kd at ⊢;have aX:Hid (P.bd id=l):=b0;have bC:Hid (IsB l):=by show IsB l;rw[<-b0];exact bF.byte id
   have bg:Hid (P.kd id=kd):=bs;have C:=t6 bP a3;have cM:=bP.fr.size;clear b0 bs bP a3 cX b1 ac cg;by_cases a7:kd=4
   rotate_left
   ·have dk:(kd==4)=false:=by simp[a7]
    have I:eZ P b id=false:=by
     rw[<-w6,kY,bg.out];intro s;exact a7 s.2.1
    have i:Hid (RlP P N S X first w (.panicked bI) w1):=r.out _ C.out.1.fr I;go_wp2_with fail;refine(fi _).mono ?_;rintro e w' ⟨rfl,j⟩;obtain rfl:=j.symm;clear j;go_wp2;exact⟨rfl,i.out⟩
   subst a7;go_wp2_with fail;refine(ez _).mono ?_;rintro e w' ⟨rfl,j⟩;obtain rfl:=j.symm;clear j;go_upto_region 7 with(first|(at_builtin;refine iF rfl _ _ co rfl w.1.size Y b.length Z (on b) rfl C.out.1.o (.int .i64 id) rfl rfl t7 t7 cM ?_;intro bW bT bc cS c4 a1 bl)|fail)
   have bR:=C.out.1.appO q H cS a1 bl;have b2:=bAl w1 (.cells #[.int .i64 id] 3);have c0:=C.out.2.keep ((aV b2).trans (bD (bQ C.out.1.o b2) a1 uv));have cV:=bAl bc (.cells #[.slice ab l.length a0] 192);have ch:=bR.below q H cV;have cR:=aq bc 192 #[.slice ab l.length a0];have G:=Fo c0;have ag:=bR.fr.size;have D:Hid (∀w',OnlyS X w w'->(eZ P b id=true->frA (cG l 1) f=none)->RlP P N S X first w (.panicked bI) w'):=fun w' R I=>by
    cases a4:eZ P b id with
    |false=>exact r.out w' R a4
    |true=>exact⟨R,u4 ⟨by rw[a9.out,oH a2 a4,aX.out,I a4];rfl,rfl⟩⟩
   have U:Hid (eZ P b id=true->4<=l.length/\l.length%4=0):=fun s=>by
    have:=(kY.1 s).2.2.2;rw[aX.out]at this;exact this
   have cb:Hid (4<=l.length->l.length%4=0->eZ P b id=true):=fun c8 c9=>kY.2 ⟨bv,bg.out,bu,by rw[aX.out];exact c8,by rw[aX.out];exact c9⟩;have bA:Hid _:=ch;clear bR ch c0 b2 cV cS a1 bl c4 C r;go_upto_region 8 with fail
   generalize bc.alloc (.cells #[.slice ab l.length a0] 192)=bd at*;have bb:Blk bd 192 bc.1.size [.slice ab l.length a0]:=cR;generalize cs:bc.1.size=d at*;clear cs cR;by_cases da:l.length<4
   ·have bE:=nt d d l bd G.cur da;have i:Hid (∀w',OnlyB d bd w'->RlP P N S X first w (.panicked bI) w'):=fun w' R=>D.out w' (bA.out.only q H bb ag uv uv R).fr (fun s=>absurd (U.out s).1 t7);clear G;go_wp2_with fail;refine bE.mono ?_;rintro e c1 ⟨rfl,ap⟩;go_wp2;exact⟨rfl,i.out _ ap⟩
   have W:=xE d d l bd G t7;rw[show low (l.take 4)=dN l 0 by simp[dN]]at W;clear G;go_upto_region 9 with fail
   refine W.mono ?_;rintro e c1 ⟨rfl,ap,b6⟩;have cj:=bA.out.only q H bb ag uv uv ap;have b8:=t6 cj b6;clear W cj b6 ap bA bb;go_wp2_with fail;go_loopw [4] (fun b3 wr=> ∃(k:Nat)(h:List Int)(L:Option Addr)(F:Nat),b3= .slice L h.length F/\LR S X w h (b++[id]) L (some ⟨bW,0,none⟩) F bT wr/\CurT wr d d (l.drop (4*k))/\1<=k/\4*k<=l.length/\h.length+1=f.length+k/\(l.length%4=0->frA (cG l 1) f=frA (cG l k) h)) (fun _ wr=>fk wr d)
   case atStart=>exact⟨1,f,a,c,rfl,b8.out.1,b8.out.2,t7,t7,t7,fun _=>rfl⟩
   case round=>
    obtain⟨k,h,L,F,rfl,bX,O,cz,cA,cr,a5⟩:=hrel;obtain⟨wI,ba⟩:=aa wr;subst ba;have bn:(l.drop (4*k)).length=l.length-4*k:=by rw[vk]
    have ca:Hid _:=iU O.cur;have ak:=nu d d (l.drop (4*k)) wI O.cur;have V:=t6 bX a5;have a8:=n.out.ok.snoc t7 cv bu;have cL:=a8.le;rw[u7,x2]at cL;have ce:Hid _:=a8;clear a8;by_cases af:(l.drop (4*k)).length=0
    ·rw[B2 af]at ak;have cB:4*k=l.length:=t7;have cf:Hid (LI P N S X first w h (b++[id]) L (some ⟨bW,0,none⟩) F bT (dN l 0) wI):=by
      refine⟨V.out.1,ce.out,by rw[u7,x2];omega,?_,Fp bC.out t7⟩;rw[a9.out,oH a2 (cb.out t7 t7),aX.out,V.out.2 t7,wZ t7,frA];show flR P (N-b.length) _ _ _= _;congr 1;rw[u7,x2];omega
     clear O bX a5 bn af cB cr cz cA;go_wp2_with fail;refine ak.mono ?_;rintro e u ⟨rfl,z⟩;obtain rfl:=z.symm;clear z ak;go_wp2_with fail;go_roundw
     case rel=>exact⟨h,b++[id],L,some ⟨bW,0,none⟩,F,bT,dN l 0,rfl,by rw[u7];rfl,rfl,cf.out⟩
     case measure=>simp only[li];omega
    rw[B1 af]at ak;obtain⟨b5,bz⟩:=Fr O.cur;have bf:Hid (Blk wI 192 d b5):=bz;clear bz bX a5;go_upto_region 10 with fail
    refine ak.mono ?_;rintro e u ⟨rfl,z⟩;obtain rfl:=z.symm;clear z ak;go_upto_region 10 with fail
    by_cases db:(l.drop (4*k)).length<4
    ·have bE:=nt d d (l.drop (4*k)) wI O.cur db;have i:Hid (∀w',OnlyB d wI w'->RlP P N S X first w (.panicked bI) w'):=fun w' R=>D.out w' (V.out.1.only q H (show Blk wI 192 d b5 from bf.out) ag uv uv R).fr (fun s=>absurd (U.out s).2 t7);clear O;go_wp2_with fail;refine bE.mono ?_;rintro e c1 ⟨rfl,ap⟩;go_wp2;exact⟨rfl,i.out _ ap⟩
    have W:=xE d d (l.drop (4*k)) wI O t7;rw[show low ((l.drop (4*k)).take 4)=dN l k from rfl,wP,show 4*k+4=4*(k+1)by omega]at W;have ae:cG l k=dN l k::cG l (k+1):=xe t7;have E:Hid _:=ae;clear O ae;generalize hx:dN l k=x at*;clear hx;go_upto_region 11 with fail
    refine W.mono ?_;rintro e B ⟨rfl,cT,aB⟩;have K:=V.out.1.only q H (show Blk wI 192 d b5 from bf.out) ag uv uv cT;have b9:Hid _:=iU aB.cur;have bB:=t6 K aB;have bx:=K.fr.size;have bY:(l.drop (4*(k+1))).length=l.length-4*(k+1):=by rw[vk]
    have cc:Hid (fk B d<fk wI d):=by
     show fk B d<fk wI d;rw[b9.out,ca.out];omega
    have a6:h.length<=65536:=t7;have aS:Hid (∀(o:World),(B.alloc (.cells #[.int .i64 x] 3)).grownBy o (Value.slice L h.length F).ownBlock->CurT o d d (l.drop (4*(k+1)))/\fk o d=fk B d):=fun o m=>by
     have cW:=bAl B (.cells #[.int .i64 x] 3);have cP:∀t,3≠t->KeepT t B o:=fun t dr=>(aV cW).trans (bD (bQ K.f cW) m dr);have b7:=aB.keep (cP _ uv) (cP _ uv);exact⟨b7,by rw[iU b7.cur,iU aB.cur]⟩
    have dP:4*(k+1)<=l.length:=t7;clear W cT aB bn bY af;go_upto_region 11 with fail
    rcases Nat.eq_zero_or_pos h.length with p|p
    ·have cq:=x8 p;subst cq;have am:Own1 3 w.1.size B L 0 F (on []):=K.f;clear K p a6;go_wp2_with fail;refine(ez _).mono ?_;rintro e w' ⟨rfl,j⟩;obtain rfl:=j.symm;clear j;go_wp2_with (at_builtin;refine iF rfl _ _ co rfl w.1.size L 0 F (on []) rfl am (.int .i64 x) rfl rfl t7 t7 bx ?_);intro c6 c5 o aA bS m M;have R8:=bB.out.1.appF q H aA m M;have i:Hid _:=R8;have aT:Hid (l.length%4=0->frA (cG l 1) f=frA (cG l (k+1)) ([]++[x])):=fun s=>by
      rw[V.out.2 s,E.out,frA,BX (fun s=>s.1 rfl)]
     have J:Hid (CurT o d d (l.drop (4*(k+1)))/\fk o d=fk B d):=aS.out o m;clear aA bS m M R8 am;go_wp2_with fail;go_roundw
     case rel=>exact⟨k+1,[]++[x],_,_,rfl,i.out,J.out.1,t7,t7,by rw[u7,x2];omega,aT.out⟩
     case measure=>rw[J.out.2];exact cc.out
    ·obtain⟨A,Q⟩:∃A,h.length=A+1:=⟨h.length-1,t7⟩;obtain⟨c7,rfl,_,_,_,bm⟩:=K.f.at_ p;have cp:=bm A t7;rw[rD h A t7]at cp;have bk:Hid (h.getLastD 0=h.getD A 0):=by
      show h.getLastD 0=h.getD A 0;rw[Fq,Q];rfl
     have am:=K.f;rw[Q]at am;have ad:Hid (h.length=A+1):=Q;simp only[Q];have dp:A<=65536:=t7;clear K bm p a6 Q;generalize ds:h.getD A 0=y at*;clear ds;have dS:((((A+1:Nat):Int))==0)=false:=by simp;omega
     by_cases dW:y<x
     ·have aT:Hid (l.length%4=0->frA (cG l 1) f=frA (cG l (k+1)) (h++[x])):=fun s=>by
       rw[V.out.2 s,E.out,frA,BX (fun s=>by have:=s.2;rw[bk.out]at this;omega)]
      go_wp2_with fail;refine(ez _).mono ?_;rintro e w' ⟨rfl,j⟩;obtain rfl:=j.symm;clear j;go_wp2_with (at_builtin;refine iF rfl _ _ co rfl w.1.size (some ⟨c7,0,none⟩) (A+1) F (on h) rfl am (.int .i64 x) rfl rfl (by have:=ad.out;omega) t7 bx ?_);intro c6 c5 o aA bS m M;rw[<-ad.out]at aA m;have R8:=bB.out.1.appF q H aA m (M.imp (fun e=>by rw[e]) (fun e=>e));have i:Hid _:=R8;have J:Hid (CurT o d d (l.drop (4*(k+1)))/\fk o d=fk B d):=aS.out o m;clear aA bS m M R8 am;go_wp2_with fail;go_roundw
      case rel=>exact⟨k+1,h++[x],_,_,by rw[u7,ad.out];rfl,i.out,J.out.1,t7,t7,by rw[u7,x2];omega,aT.out⟩
      case measure=>rw[J.out.2];exact cc.out
     ·have i:Hid (RlP P N S X first w (.panicked bI) B):=D.out B bB.out.1.fr (fun s=>by
       have dq:h≠[]/\x<=h.getLastD 0:=⟨fun e=>by have ck:=ad.out;rw[e]at ck;simp at ck,by rw[bk.out];omega⟩;rw[V.out.2 (U.out s).2,E.out,frA,BC dq])
      go_wp2_with fail;refine(fi _).mono ?_;rintro e w' ⟨rfl,j⟩;obtain rfl:=j.symm;clear j;go_wp2;exact⟨rfl,i.out⟩
end
theorem xF{a n j}(b:j<n):(upF a n).getD j 0=((a+j:Nat):Int):=by simp[upF,List.getD,b]
theorem Ft{l M j}(a:j<l.length)(b:(srt l).getD j 0≠((2+j:Nat):Int)):eS l M=false:=by
 unfold eS;have:(srt l==upF 2 l.length)=false:=by
  rw[C8];intro e;rw[e,xF a]at b;exact b rfl
 rw[this]
 rfl
theorem Fu{l M}(f:∀j,j<l.length->(srt l).getD j 0=((2+j:Nat):Int)):eS l M=(2+l.length==M):=by
 unfold eS;have:(srt l==upF 2 l.length)=true:=by
  rw[beq_iff_eq];apply List.ext_getElem
  ·rw[iX,Ev]
  ·intro i b d;rw[iX]at b;have e:=f i b;have c:(srt l).getD i 0=(srt l)[i]:=by simp[List.getD,List.getElem?_eq_getElem (show i< (srt l).length by rw[iX];exact b)]
   rw[<-c,e,<-xF (a:=2) b];simp[List.getD,List.getElem?_eq_getElem d]
 rw[this]
 rfl
theorem Fv(B a c l M w)(N:Own1 3 B w a l.length c (on l))(K:l.length<=1048576)(Q:M<=1048576):
 Calls prog 117 #[.slice a l.length c,.int .i64 (M:Nat)] w fun e w'=>e= .returned (.bool (eS l M))/\w.grownBy w' (Value.slice a l.length c).ownBlock:=by
 have A:=xD B a c l w N K;generalize n:eS l M=b at*;have h:Hid _:=n;clear N n;go_enter func117,ntmps117;go_wp2_with fail;refine A.mono ?_;rintro e w1 ⟨rfl,C,v⟩;have r:=t6 C v;have o:∀i,i<l.length->∃g,a=some ⟨g,0,none⟩/\w1.cell? ⟨g,i,none⟩=some (.int .i64 ((srt l).getD i 0)):=fun i t=>by
  obtain⟨g,e,_,_,_,o⟩:=v.at_ t7;exact⟨g,e,by rw[o i t,rD _ i (by rw[iX];exact t)]⟩
 have I:Hid _:=o;clear A o C v;go_wp2_with fail
 go_loop [11] (fun s=> ∃i:Nat,i<=l.length/\s= .int .i64 (i:Nat)/\∀j,j<i->(srt l).getD j 0=((2+j:Nat):Int)) (fun s=>l.length-(intOf s).toNat)
 case atStart=>exact⟨0,u6 _,rfl,fun j u=>absurd u (w8 _)⟩
 case round=>
  obtain⟨i,t,rfl,k⟩:=hrel;have x:Hid _:=k;clear k;by_cases q:i<l.length
  ·have L:(i:Int)< (l.length:Int):=t7;obtain⟨g,rfl,O⟩:=I.out i q;generalize H:(srt l).getD i 0=y at*;have z:Hid ((srt l).getD i 0=y):=H;clear H;by_cases d:y=2+(i:Int)
   ·have D:(y==2+(i:Int))=true:=by simp[d]
    have J:Hid (y=2+(i:Int)):=d;clear d;go_wp2_with fail
    go_round
    case rel=>
     refine⟨i+1,t7,by go_num,fun j u=> ?_⟩;by_cases F:j=i
     ·subst F;rw[z.out,J.out];omega
     ·exact x.out j t7
    case measure=>simp[intOf];omega
   ·have D:(y==2+(i:Int))=false:=by simp[d]
    have p:Hid (b=false):=by
     show b=false;rw[<-h.out];exact Ft q (by rw[z.out];intro e;exact d (by rw[e];omega))
    clear d;go_wp2_with fail;go_ret;exact⟨by rw[p.out];rfl,r.out.1⟩
  ·have E:i=l.length:=t7;have P:¬((i:Int)< (l.length:Int)):=t7;have p:Hid (b=decide ((2:Int)+(l.length:Nat)=(M:Nat))):=by
    show b=decide ((2:Int)+(l.length:Nat)=(M:Nat));rw[<-h.out,Fu (fun j u=>x.out j t7),Bool.eq_iff_iff,beq_iff_eq,DB];omega
   clear E;by_cases f:(2:Int)+(l.length:Nat)=(M:Nat)
   ·have G:((2:Int)+(l.length:Nat)==(M:Nat))=true:=by simp[f]
    have m:Hid (b=true):=by show b=true;rw[p.out];exact B2 f
    clear f;go_wp2_with fail;go_ret;exact⟨by rw[m.out];rfl,r.out.1⟩
   ·have G:((2:Int)+(l.length:Nat)==(M:Nat))=false:=by simp[f]
    have m:Hid (b=false):=by show b=false;rw[p.out];exact B1 f
    clear f;go_wp2_with fail;go_ret;exact⟨by rw[m.out];rfl,r.out.1⟩
def chD(l:List Int)(n p:Nat):Ch×Nat:=
 if l.getD (kyQ l n p) 0%3=2 then((strOfNums (kyL l n p),⟨#[]⟩,true),rdP n (kyQ l n p))
 else((strOfNums (kyL l n p),vaS (vaM (l.getD (rdP n (kyQ l n p)) 0)),false),rdP n (rdP n (kyQ l n p)))
def chG(l:List Int)(n:Nat):Nat->Nat->List Ch->List Ch×Nat
 |0,p,xs=>(xs,p)
 |m+1,p,xs=>if p<n then chG l n m (chD l n p).2 (xs++[(chD l n p).1])else(xs,p)
def fG(l:List Int)(n most p:Nat):List Ch×Nat:=chG l n (l.getD p 0%(most+1:Nat)).toNat (rdP n p) []
theorem Fw(l n p):(kyL l n p).length<=40:=by
 have:=uH (l.getD p 0);unfold kyL;split<;>simp only[A1,List.length_replicate] <;>omega
theorem Fx(k):(vaS (vaM k)).size<=70:=by
 have:=uJ k;unfold vaS;split
 ·rw[ByteArray.size_append,B5,List.length_replicate];decide
 ·rw[ByteArray.size_append,B5,List.length_replicate,show(⟨#[]⟩:ByteArray).size=0 from rfl];omega
theorem Fy(l n p):(chD l n p).1.1.size<=1048575/\(chD l n p).1.2.1.size<=1048575:=by
 have a:=Fw l n p;unfold chD;split
 ·exact⟨by show(strOfNums _).size<=_;rw[B5];omega,by show(0:Nat)<=_;omega⟩
 ·exact⟨by show(strOfNums _).size<=_;rw[B5];omega,by have:=Fx (l.getD (rdP n (kyQ l n p)) 0);show(vaS _).size<=_;omega⟩
theorem rF(l n):∀m p xs,(∀x∈xs,x.1.size<=1048575/\x.2.1.size<=1048575)->(chG l n m p xs).1.length<=xs.length+m/\∀x∈(chG l n m p xs).1,x.1.size<=1048575/\x.2.1.size<=1048575
 |0,p,xs,a=>⟨t1,a⟩
 |m+1,p,xs,a=>by
  unfold chG;split
  ·have:=rF l n m (chD l n p).2 (xs++[(chD l n p).1]) (fun x hx=>by
    rcases wE.1 hx with hx|hx
    ·exact a x hx
    ·rw[List.mem_singleton.1 hx];exact Fy l n p)
   refine⟨?_,this.2⟩;have b:=this.1;rw[u7,x2]at b;omega
  ·exact⟨by show xs.length<=_;omega,a⟩
theorem Fz(g a n c l p w)(d:IsRd w g a n c l p):
 Calls prog 100 #[.pointer (some ⟨g,0,none⟩)] w fun e w'=>e= .returned (.int .i64 ((n:Int)-(p:Int)))/\Below w.1.size w w':=by
 have f:w.cell? ⟨g,0,none⟩=some (.slice a n c):=by rw[CV w g _ _ _ _ d.box];rfl
 have h:w.cell? ⟨g,1,none⟩=some (.int .i64 (p:Nat)):=by rw[CV w g _ _ _ _ d.box];rfl
 have i:=d.le;have j:=d.at_;have b:Hid (Below w.1.size w w.drew):=⟨rfl,rfl,rfl,t1,fun _ _=>rfl⟩;clear d;go_enter func100,ntmps100;go_wp2_with fail;go_region;go_wp2;go_ret;exact⟨rfl,b.out⟩
theorem rG{g w w' a b n c p d B l xs}(f:IsRd w g a n c l p)(h:OCh B w b d xs)(e:OnlyB g w w'):OCh B w' b d xs:=h.keep (cx e f.box uv)
theorem I4(k):prog.built 161 [(0,.string k)]=some #[.string k,.string ⟨#[]⟩,.bool false]:=uA
theorem xG{k B u d a c xs}(h:OCh B u a c xs)(f:OnlyB k u d)(b:(Value.slice a xs.length c).ownBlock≠some k):OCh B d a c xs:=by
 refine⟨h.1,?_⟩;rcases h.2 with h2|⟨g,cap,cur,hv,hg,hh,r⟩
 ·exact u5 h2
 ·refine u4 ⟨g,cap,cur,hv,hg,?_,r⟩;rw[f.block g (vR.1 hh).1 (fun e=>b (by rw[hv,e];rfl))];exact hh
theorem oQ(g a n c l p d w)(ca:IsRd w g a n c l p)(cr:d<=1000)(R)(F:R=fG l n d p):
 Calls prog 57 #[.pointer (some ⟨g,0,none⟩),.int .i64 (d:Nat)] w fun e w'=> ∃r s,e= .returned (.slice r R.1.length s)/\OnlyB g w w'/\IsRd w' g a n c l R.2/\OCh w.1.size w' r s R.1:=by
 have cb:=ca.bs.byte p;have a5:=ca.lt;go_enter func57,ntmps57;go_wp2_with fail;refine(cZ g a n c l p w ca).mono ?_;rintro e w1 ⟨rfl,a9,cg⟩;obtain⟨k,a6⟩:=aa (l.getD p 0);unfold fG at F;rw[<-a6]at cb F ⊢;clear a6;obtain⟨k0,cA⟩:=cb;have cc:0<=k%((d:Int)+1):=Int.emod_nonneg _ t7;have bC:k%((d:Int)+1)< (d:Int)+1:=Int.emod_lt_of_pos _ t7;obtain⟨N,bA⟩:∃N:Nat,k%((d:Int)+1)=(N:Int):=⟨(k%((d:Int)+1)).toNat,t7⟩;have cp:N<=1000:=t7;have X:((d+1:Nat):Int)=(d:Int)+1:=t7;rw[X,bA]at F;have b0:Hid (R=chG l n N (rdP n p) []):=F;have cj:k.tmod ((d:Int)+1)=(N:Int):=by rw[z6 k0,bA]
 have cs:((d:Int)+1)≠0:=t7;have bT:=(Bn w1.1.size w1).alloc t1 (.cells #[] 161);have b1:Hid (OnlyB g w (w1.alloc (.cells #[] 161))/\IsRd (w1.alloc (.cells #[] 161)) g a n c l (rdP n p)/\OCh w.1.size (w1.alloc (.cells #[] 161)) (some ⟨w1.1.size,0,none⟩) 0 []):=⟨a9.thenB bT a9.size,cg.below bT,ORow.mono (lL (f:=chF []) (n:=0) (aq w1 161 #[]) (jC _ _) t1 t7) a9.size⟩;have H:Hid (IsRd w g a n c l p):=ca;clear bT a9 cg ca cc bC bA F X;go_wp2_with fail;go_loopw [6,7] (fun o i wr=> ∃(j:Nat)(xs:List Ch)(q:Nat)(r:Option Addr)(s:Nat),j<=N/\xs.length=j/\i= .int .i64 (j:Nat)/\o= .slice r xs.length s/\R=chG l n (N-j) q xs/\OnlyB g w wr/\IsRd wr g a n c l q/\OCh w.1.size wr r s xs) (fun _ i _=>N-(intOf i).toNat)
 case atStart=>exact⟨0,[],rdP n p,_,0,u6 _,rfl,rfl,rfl,b0.out,b1.out⟩
 case round=>
  obtain⟨j,xs,q,r,s,cv,aS,rfl,rfl,a8,aA,Z,a7⟩:=hrel;obtain⟨cl,ce⟩:=aa wr;subst ce;clear b1 b0;have cn:=aA.size;have cz:=Z.at_;by_cases cq:j<N
  ·have bE:(j:Int)< (N:Int):=t7;have b4:=Fz g a n c l q cl Z;have K:=t6 a8 (u2 aA (u2 Z a7));have T:Hid _:=aS;clear a8 aA Z a7 aS;go_wp2_with fail;refine b4.mono ?_;rintro e bd ⟨rfl,am⟩;clear b4;have a2:=K.out.2.2.1.below am;have ba:=K.out.2.1.thenB am cn;have a4:=K.out.2.2.2.below am;by_cases bn:q<n
   ·have bP:(0:Int)< (n:Int)-(q:Int):=t7;have C:Hid (R=chG l n (N-(j+1)) (chD l n q).2 (xs++[(chD l n q).1])):=by
     show R= _;rw[K.out.1,show N-j=N-(j+1)+1 by omega,chG,BC bn]
    have b3:=BG g a n c l q bd a2;have a3:Hid (OnlyB g w bd/\OCh w.1.size bd r s xs/\IsRd bd g a n c l q):=⟨ba,a4,a2⟩;clear K ba a4 a2 am;go_wp2_with fail;refine b3.mono ?_;rintro e B ⟨rfl,bS,bc⟩;clear b3;have bk:=bc.bs.byte (kyQ l n q);obtain⟨b,aB⟩:=aa (strOfNums (kyL l n q));have bf:Hid _:=aB;rw[<-aB];clear aB;obtain⟨O,W⟩:=aa (B.alloc (.cells #[.string b,.string ⟨#[]⟩,.bool false] 161));have a1:Below B.1.size B O:=by rw[W];exact bAl _ _
    have cf:Blk O 161 B.1.size [.string b,.string ⟨#[]⟩,.bool false]:=by rw[W];exact aq B _ _
    have aX:=a3.out.1.trans bS;have an:=rG a3.out.2.2 a3.out.2.1 bS;have bm:(Value.slice r xs.length s).ownBlock≠some B.1.size:=fun e=>by have:=(BS an _ e).2;omega
    have bZ:=aX.size;have b5:=cZ g a n c l (kyQ l n q) O (bc.below a1);have ac:Hid (OnlyB g w O/\OCh w.1.size O r s xs/\Blk O 161 B.1.size [.string b,.string ⟨#[]⟩,.bool false]/\IsRd O g a n c l (kyQ l n q)):=⟨aX.thenB a1 bZ,an.below a1,cf,bc.below a1⟩;clear a3 bS bc aX an a1 cf;go_upto_region 7 with(refine bt rfl 161 _ _ rfl B #[.string ⟨#[]⟩,.string ⟨#[]⟩,.bool false] #[.string b,.string ⟨#[]⟩,.bool false] 161 rfl rfl mg rfl rfl ?_)
    change Code.wp _ _ _ _ (B.alloc (.cells #[.string b,.string ⟨#[]⟩,.bool false] 161));rw[<-W];have bl:g≠B.1.size:=t7;generalize B.1.size=t at*;clear W;go_wp2_with fail;refine b5.mono ?_;rintro e I ⟨rfl,a0,ab⟩;clear b5;have D:=ac.out.2.2.1.only a0 (DX bl);have ae:=ac.out.1.trans a0;have U:=rG ac.out.2.2.2 ac.out.2.1 a0;obtain⟨x,hx⟩:=aa (l.getD (kyQ l n q) 0);have b2:Hid _:=hx;rw[<-hx]at bk ⊢;clear hx ac;obtain⟨cm,cB⟩:=bk;have br:x.tmod 3=x%3:=z6 cm;by_cases V:x%3=2
    ·rw[V]at br;have bs:Hid (R=chG l n (N-(j+1)) (rdP n (kyQ l n q)) (xs++[(b,⟨#[]⟩,true)])):=by
      show R= _;rw[C.out,chD,<-b2.out,BC V,<-bf.out]
     have b7:I.cell? ⟨t,2,none⟩=some (.bool false):=D.cell 2;have b9:=D.free 2;obtain⟨h,u⟩:=aa (I.setCell ⟨t,2,none⟩ (.bool true));have aT:Blk h 161 t [.string b,.string ⟨#[]⟩,.bool true]:=by rw[u];exact D.set 2 _
     have A:OnlyB t I h:=by rw[u];exact⟨rfl,rfl,rfl,uB,fun k a6 bF=>Below.heap_setCell _ _ _ _ bF⟩
     have P:=A.below bZ ae.size;have L:=ae.thenB P t1;have m:Hid (Blk h 161 t [.string b,.string ⟨#[]⟩,.bool true]/\OnlyB g w h/\IsRd h g a n c l (rdP n (kyQ l n q))/\OCh w.1.size h r s xs):=⟨aT,L,H.out.only L (by rw[P.block g a5];exact ab.box) ab.at_,xG U A bm⟩;clear aT A P L D ae U a0 ab;go_upto_region 10 with fail
     rw[<-u];clear u b7 b9;have v:∀bY y,([.string b,.string ⟨#[]⟩,.bool true]:List Value)[bY]?=some y->h.cell? ⟨t,0+bY,none⟩=some y:=fun bY y bR=>by rw[wg,m.out.1.cell];exact bR
     have E:=(Bn h.1.size h).alloc t1 (.cells #[.string b,.string ⟨#[]⟩,.bool true] 161);have S:=m.out.2.2.2.below E;have R8:=(uZ h (b,⟨#[]⟩,true)).reads;have G:xs.length+[((b,⟨#[]⟩,true):Ch)].length<=1048576:=by rw[T.out];simp;omega
     have z:=u9 m.out.2.1.size E.size;have ag:Hid _:=E;clear E;go_wp2_with (first|(refine dG rfl 161 _ rfl t 0 rfl [.string b,.string ⟨#[]⟩,.bool true] _ v underlying161 rfl mg ?_)|(refine uY rfl _ _ rfl w.1.size r s xs rfl S (some ⟨h.1.size,0,none⟩) 1 [(b,⟨#[]⟩,true)] rfl R8 G z ?_;rintro bx bz ck af ap));have Q:=(ag.out.mono m.out.2.1.size).trans (S.grown ap z);have M:=m.out.2.1.thenB Q t1;have J:=t6 M (u2 (H.out.only M (by rw[Q.block g a5];exact m.out.2.2.1.box) m.out.2.2.1.at_) af);clear v S R8 G z Q M af ap ag;go_wp2_with fail;go_roundw
     case rel=>exact⟨j+1,xs++[(b,⟨#[]⟩,true)],_,bx,bz,t7,by rw[u7,T.out];rfl,by go_num,by rw[u7];rfl,bs.out,J.out.1,J.out.2.1,J.out.2.2⟩
     case measure=>simp[intOf];omega
    ·have ch:¬x.tmod 3=2:=by rw[br];exact V
     obtain⟨ak,bB⟩:=aa (vaS (vaM (l.getD (rdP n (kyQ l n q)) 0)));have bs:Hid (R=chG l n (N-(j+1)) (rdP n (rdP n (kyQ l n q))) (xs++[(b,ak,false)])):=by
      show R= _;rw[C.out,chD,<-b2.out,BX V,<-bf.out,bB]
     have bv:=BI g a n c l (rdP n (kyQ l n q)) I ab;rw[<-bB]at bv;clear bB;have ad:Hid (OnlyB g w I/\OCh w.1.size I r s xs/\Blk I 161 t [.string b,.string ⟨#[]⟩,.bool false]/\IsRd I g a n c l (rdP n (kyQ l n q))):=⟨ae,U,D,ab⟩;clear ae U D a0 ab;go_wp2_with fail;refine bv.mono ?_;rintro e bX ⟨rfl,bb,bW⟩;clear bv;have Y:=ad.out.2.2.1.only bb (DX bl);have bu:=ad.out.1.trans bb;have bg:=rG ad.out.2.2.2 ad.out.2.1 bb;have b6:bX.cell? ⟨t,1,none⟩=some (.string ⟨#[]⟩):=Y.cell 1;have b8:=Y.free 1;obtain⟨h,u⟩:=aa (bX.setCell ⟨t,1,none⟩ (.string ak));have aT:Blk h 161 t [.string b,.string ak,.bool false]:=by rw[u];exact Y.set 1 _
     have A:OnlyB t bX h:=by rw[u];exact⟨rfl,rfl,rfl,uB,fun k a6 bF=>Below.heap_setCell _ _ _ _ bF⟩
     have P:=A.below bZ bu.size;have L:=bu.thenB P t1;have m:Hid (Blk h 161 t [.string b,.string ak,.bool false]/\OnlyB g w h/\IsRd h g a n c l (rdP n (rdP n (kyQ l n q)))/\OCh w.1.size h r s xs):=⟨aT,L,H.out.only L (by rw[P.block g a5];exact bW.box) bW.at_,xG bg A bm⟩;clear aT A P L Y bu bg bb bW ad;go_upto_region 10 with fail
     rw[<-u];clear u b6 b8;have v:∀bY y,([.string b,.string ak,.bool false]:List Value)[bY]?=some y->h.cell? ⟨t,0+bY,none⟩=some y:=fun bY y bR=>by rw[wg,m.out.1.cell];exact bR
     have E:=(Bn h.1.size h).alloc t1 (.cells #[.string b,.string ak,.bool false] 161);have S:=m.out.2.2.2.below E;have R8:=(uZ h (b,ak,false)).reads;have G:xs.length+[((b,ak,false):Ch)].length<=1048576:=by rw[T.out];simp;omega
     have z:=u9 m.out.2.1.size E.size;have ag:Hid _:=E;clear E;go_wp2_with (first|(refine dG rfl 161 _ rfl t 0 rfl [.string b,.string ak,.bool false] _ v underlying161 rfl mg ?_)|(refine uY rfl _ _ rfl w.1.size r s xs rfl S (some ⟨h.1.size,0,none⟩) 1 [(b,ak,false)] rfl R8 G z ?_;rintro bx bz ck af ap));have Q:=(ag.out.mono m.out.2.1.size).trans (S.grown ap z);have M:=m.out.2.1.thenB Q t1;have J:=t6 M (u2 (H.out.only M (by rw[Q.block g a5];exact m.out.2.2.1.box) m.out.2.2.1.at_) af);clear v S R8 G z Q M af ap ag;go_wp2_with fail;go_roundw
     case rel=>exact⟨j+1,xs++[(b,ak,false)],_,bx,bz,t7,by rw[u7,T.out];rfl,by go_num,by rw[u7];rfl,bs.out,J.out.1,J.out.2.1,J.out.2.2⟩
     case measure=>simp[intOf];omega
   ·have bP:¬(0:Int)< (n:Int)-(q:Int):=t7;have C:Hid (R=(xs,q)):=by
     show R= _;rw[K.out.1,show N-j=N-(j+1)+1 by omega,chG,BX bn]
    have m:=t6 ba (u2 a2 a4);clear K ba a4 a2 am;go_wp2_with fail;go_ret;rw[C.out];exact⟨r,s,rfl,m.out⟩
  ·have bE:¬(j:Int)< (N:Int):=t7;have C:Hid (R=(xs,q)):=by
    show R= _;rw[a8,show N-j=0 by omega,chG]
   have m:=t6 aA (u2 Z a7);clear a8 aA Z a7 aS;go_wp2_with fail;go_ret;rw[C.out];exact⟨r,s,rfl,m.out⟩
