import Derived.Test.YtnohmedccbogkaaGreatDoorCo24
import Derived.Test.YtnohmedccbogkaaGreatDoorCo30
namespace Go.Proofs.YtnohmedccbogkaaGreatDoor
open Go.Proofs.Tryz
open Go.RowKit
set_option linter.unusedVariables false
set_option maxRecDepth 100000
set_option maxHeartbeats 32000000
section
def scS(fr:ByteArray)(most:Int)(xs:List (ByteArray×ByteArray))(e:ByteArray×ByteArray):List (ByteArray×ByteArray):=if sle fr e.1=true/\(xs.length:Int)<most then xs++[e]else xs
def scL(fr:ByteArray)(most:Int)(xs es:List (ByteArray×ByteArray)):List (ByteArray×ByteArray):=es.foldl (scS fr most) xs
theorem An(fr most xs es a):scL fr most xs (es++a)=scL fr most (scL fr most xs es) a:=List.foldl_append
theorem Ao{fr most}:∀{es xs:List (ByteArray×ByteArray)},(∀e∈es,sl e.1 fr=true)->scL fr most xs es=xs
 |[],xs,_=>rfl
 |e::es,xs,h=>by
  have b:scS fr most xs e=xs:=by
   unfold scS;rw[q4];intro c;have:=h e kP;have a:=c.1;unfold sle at a;rw[this]at a;exact absurd a kN
  show scL fr most (scS fr most xs e) es=xs;rw[b];exact Ao (fun x hx=>h x (by simp[hx]))
theorem tQ{fr most}:∀{es xs:List (ByteArray×ByteArray)},most<=(xs.length:Int)->scL fr most xs es=xs
 |[],xs,_=>rfl
 |e::es,xs,h=>by
  have a:scS fr most xs e=xs:=by unfold scS;rw[q4];omega
  show scL fr most (scS fr most xs e) es=xs;rw[a];exact tQ h
theorem Ln(fr most xs e):(scS fr most xs e).length<=xs.length+1:=by unfold scS;split<;>simp
theorem ny(fr most):∀(es xs:List (ByteArray×ByteArray)),(scL fr most xs es).length<=xs.length+es.length
 |[],xs=>by simp[scL]
 |e::es,xs=>by
  have a:=Ln fr most xs e;have b:=ny fr most es (scS fr most xs e);show(scL fr most (scS fr most xs e) es).length<=_;simp only[m1];omega
theorem nz:∀a:Tr,aR a=(aM a).map (·.1)
 | .leaf _ _=>rfl
 | .node _ ks=>nz ks
 | .nil=>rfl
 | .cons _ a ks=>by rw[aR,aM,List.map_append,nz a,nz ks]
theorem Lo{fr:ByteArray}{most:Int}{xs es:List (ByteArray×ByteArray)}{j:Nat}(a:j<es.length):scL fr most xs (es.take (j+1))=scS fr most (scL fr most xs (es.take j)) (es.getD j e0):=by
 rw[n6 a,An];simp[scL,List.getD,a]
structure GaQ(S:World->Prop)(X:Nat->Prop)(B:Nat)(w:World)(a:Option Addr)(ys:List (ByteArray×ByteArray))(a':Option Addr)(c':Nat)(w':World):Prop where
 own:ORow 93 2 B w' a' ys.length c' (enF ys)
 fr:OnlyS (fun k=>X k\/k∈rb a) w w'
 low:∀k∈rb a',k<w.1.size->k∈rb a
 src:S w'
variable {S:World->Prop} {X:Nat->Prop} {B0 ty fn:Nat} {v:Value} {P:Pg}
theorem GaQ.below(g:Src P B0 ty fn v S X){B w wr wr' a c f d}(h:GaQ S X B w a f c d wr)(b:Below wr.1.size wr wr')(e:B0<=wr.1.size):GaQ S X B w a f c d wr':=
 ⟨h.own.below b,h.fr.trans (OnlyS.ofBelow b),h.low,g.keep _ _ h.src (b.mono e) (aW b)⟩
theorem GaQ.trans{B w wr w' a d f m j l g}(h:GaQ S X B w a m d l wr)(b:GaQ S X B wr d j f g w'):GaQ S X B w a j f g w':=
 ⟨b.own,h.fr.transN b.fr (fun k c e=>by rcases e with e|e;exact kV e;exact kT (h.low k e c)),fun k c i=>h.low k (b.low k c (by have:=h.fr.size;omega)) i,b.src⟩
theorem GaQ.one(o:Src P B0 ty fn v S X){B w wr w' a d b f g i x cs}(h:GaQ S X B w a b d f wr)(u:B0<=B)(t:B<=wr.1.size)(s:ORow 93 2 B w' (some ⟨g,0,none⟩) (b.length+1) i (dg (enF b) b.length [.string x.1,.string x.2]))(m:(wr.alloc (.cells cs 93)).grownBy w' (Value.slice d b.length f).ownBlock)(l:d=some ⟨g,0,none⟩\/wr.1.size<g):GaQ S X B w a (b++[x]) (some ⟨g,0,none⟩) i w':=by
 have q:=bAl wr (.cells cs 93);have y:=h.fr.size;have ow:=(OnlyS.ofBelow q).transN (OnlyS.ofGrown m) (fun k _ e=>nh k e);refine⟨?_,h.fr.transN ow (fun k r e=>kT (h.low k e r)),?_,o.keep _ _ h.src (ow.below kH (fun k e=>by have:=(dw h.own k e).1;omega)) ((aW q).trans (bJ (cj h.own q) m kN))⟩
 ·rw[kY];exact s.congr (fun j p=>tu _ x j p)
 ·intro k c n;simp[rb]at c;subst c;rcases l with e|e
  ·exact h.low _ (by rw[e];simp[rb]) n
  ·omega
theorem GaQ.start(i:Src P B0 ty fn v S X){B w b n a xs c d}(r:B0<=B)(u:B<=w.1.size)(j:ORow 93 2 B w a xs.length c (enF xs))(p:S b)(m:OnlyS X w b)(l:OnlyB b.1.size (b.alloc (.cells d 162)) n):GaQ S X B w a xs a c n:=by
 have g:=bAl b (.cells d 162);have o:Blk (b.alloc (.cells d 162)) 162 b.1.size d.toList:=ao b 162 d;have s:=m.size;have t:=g.size;have h:=(m.trans (OnlyS.ofBelow g)).transN (OnlyS.ofB l) (fun k f e=>by omega);refine⟨iB j (fun k f=>h.block k (dw j k f).2 (fun e=>by have:=i.low k e;have:=(dw j k f).1;omega)),h.mono (fun k _ e=>kV e),fun k f _=>f,?_⟩;have q:=i.keep _ _ p (g.mono kH) (aW g);exact i.keep _ _ q ((OnlyS.ofB l).below kH (fun k e=>by omega)) (aV l o kN)
theorem Lp{w1 h rest o b G}(m:o.guard=none)(j k){F e s bytes z}(T:ElT F e s z bytes)(D:o.op= .call {callee:= .builtin .append,args:=#[j,k],argTypes:=#[F,F]})(B a n c f)(E:b.eval j= .slice a n c)(i:ORow e s B w1 a n c f)(x)(q:x.length=s)(p:∀H∈x,H.oneCell'=true)(hx:b.eval k= .slice (some ⟨w1.1.size,0,none⟩) 1 1)(C:n<=1048576)(l:bytes<=1048576)(w:B<=w1.1.size)(A:∀g d w',ORow e s B w' (some ⟨g,0,none⟩) (n+1) d (dg f n x)->Below B w1 w'->(w1.alloc (.cells x.toArray e)).grownBy w' (Value.slice a n c).ownBlock->(a=some ⟨g,0,none⟩\/w1.1.size<g)->wpList prog h G rest (b.put o.dst (.slice (some ⟨g,0,none⟩) (n+1) d)) w'):
 wpList prog h G (o::rest) b (w1.alloc (.cells x.toArray e)):=
 sH m fun _ y=>jW j k T D B a n c f E i x q p hx C l w fun g d w' r t u v=>y _ _ (A g d w' r t u v)
def GaC(P:Pg)(S:World->Prop)(X:Nat->Prop)(B0:Nat)(v:Value)(fr:ByteArray)(most:Int)(f:Nat):Prop:= ∀(steps id:Int)(st st':St)(t:Tr)(xs:List (ByteArray×ByteArray))(a:Option Addr)(c B:Nat)(w:World),rdT P f steps st id=some (t,st')->full t true->inn t true->S w->ORow 93 2 B w a xs.length c (enF xs)->B0<=B->B<=w.1.size->xs.length+(aM t).length<=1048576->
 Calls prog 93 #[v,.slice a xs.length c,.int .i64 id,.string fr,.int .i64 most] w fun e w'=> ∃a' c',e= .returned (.slice a' (scL fr most xs (aM t)).length c')/\GaQ S X B w a (scL fr most xs (aM t)) a' c' w'
end
section
variable {S:World->Prop} {X:Nat->Prop} {B0 ty gw:Nat} {P:Pg}
theorem Lq(L:Src P B0 ty 157 (.pointer (some ⟨gw,0,none⟩)) S X)(fr most id)(a5:P.ok id=true)(a2:P.kd id=2)(bl:0<=id)(bn:id<4294967296)(R:(P.bd id).length<=1048576)(es)(U:lfP (P.bd id)=some es)(xs a c B w)(a0:S w)(a4:ORow 93 2 B w a xs.length c (enF xs))(N:B0<=B)(bp:B<=w.1.size)(bq:xs.length+es.length<=1048576)(W:es≠[]):
 Calls prog 93 #[.pointer (some ⟨gw,0,none⟩),.slice a xs.length c,.int .i64 id,.string fr,.int .i64 most] w fun e w'=> ∃n o,e= .returned (.slice n (scL fr most xs es).length o)/\GaQ S X B w a (scL fr most xs es) n o w':=by
 have an:=L.page w id a0 bl bn;have F:=kG a4 (kR U W);have bR:xs.length<=1048576:=kH;clear a4 U a0 W;go_enter func93,ntmps93;go_wp2_with fail;refine an.mono ?_;clear an;rintro e l ⟨bc,ad,⟨_,C,D,rfl,H⟩|⟨y,_⟩⟩
 rotate_left
 ·rw[a5]at y;cases y
 rw[a2];have af:=bAl l (.cells #[.slice C (P.bd id).length D] 162);have a8:=ao l 162 #[.slice C (P.bd id).length D];have G:Cur (l.alloc (.cells #[.slice C (P.bd id).length D] 162)) l.1.size l.1.size (P.bd id):=⟨C,(P.bd id).length,D,⟨a8,H.bs.below af,H.bs.blt⟩⟩;have ah:=yL l.1.size l.1.size (P.bd id) _ G af.size R;have bS:=ad.size;have am:=kG bc ad;have be:Hid ((l.alloc (.cells #[.slice C (P.bd id).length D] 162)).1.size=l.1.size+1):=by show(l.alloc (.cells #[.slice C (P.bd id).length D] 162)).1.size=l.1.size+1;simp
 clear bc ad H af a8 G;go_wp2_with fail;refine ah.mono ?_;rintro e ag ⟨ae,⟨bz,bg,bj,z,_,rfl,hr⟩|⟨y,_⟩⟩
 rotate_left
 ·exfalso;rw[F.out.2.1]at y;rcases y with h|h
  ·cases h
  ·exact F.out.2.2 (sv h)
 rw[F.out.2.1]at z;obtain rfl:=sv z;have ak:=GaQ.start L N bp F.out.1 am.out.1 am.out.2 ae;have Q:=dw hr;have bY:l.1.size+1<=ag.1.size:=by have:=ae.size;have:=be.out;omega
 have K:=kG ak (kR hr (kR Q (dw F.out.1)));clear ah ae z ak hr Q;go_wp2_with fail;go_loopw [1,36] (fun bw bb wr=> ∃(j:Nat)(n:Option Addr)(o:Nat),bw= .slice n (scL fr most xs (es.take j)).length o/\bb= .int .i64 (j:Nat)/\j<=es.length/\GaQ S X B w a (scL fr most xs (es.take j)) n o wr/\(∀k∈rb n,k<ag.1.size->k∈rb a)/\ORow 93 2 0 wr bg es.length bj (enF es)/\ag.1.size<=wr.1.size) (fun _ s _=>es.length-(intOf s).toNat)
 case atStart=>exact⟨0,a,c,rfl,rfl,kX _,K.out.1,fun k u _=>u,K.out.2.1.mono (kX _),kE⟩
 case round=>
  obtain⟨j,n,o,rfl,rfl,b3,E,I,hr,ab⟩:=hrel;obtain⟨r,rfl⟩:∃x,x=wr:=⟨_,rfl⟩;have bP:=E.fr.size;have a6:=ny fr most (es.take j) xs;rw[lw]at a6;by_cases V:j<es.length
  ·have bs:(j:Int)< (es.length:Int):=kH;have p:Hid _:=Lo (fr:=fr) (most:=most) (xs:=xs) V;obtain⟨b,rfl,bE,R⟩:=ip hr kH;have A:=fun m v bt=>(hr.reads (ng es _)).cells j V m v bt;rw[show enF es j=[.string (es.getD j e0).1,.string (es.getD j e0).2]from rfl]at A;generalize es.getD j e0=bk at*;obtain⟨d,f⟩:=bk;have aw:r.cell? ⟨b,j*2,none⟩=some (.string d):=by have:=A 0 _ rfl;simpa using this
   have aH:r.cell? ⟨b,j*2+1,none⟩=some (.string f):=by have:=A 1 _ rfl;simpa using this
   generalize a7:scL fr most xs (es.take j)=i at*;clear a7;have ac:=ao r 93 #[.string d,.string f];have J:=bAl r (.cells #[.string d,.string f] 93);have bu:i.length<=1048576:=kH;have ap:=E.below L J kH;have ba:=hr.below J;have g:=kG ap (kR I (kR ba (k2 ab J.size)));have bd:B<=(r.alloc (.cells #[.string d,.string f] 93)).1.size:=by have:=J.size;omega
   clear A E I hr ap ba J;go_upto_region 7 with(first|(refine aL rfl 93 _ _ rfl r #[.string (strOfNums []),.string (strOfNums [])] #[.string d,.string f] 93 rfl rfl tC rfl rfl ?_))
   change Code.wp _ _ _ _ (r.alloc (.cells #[.string d,.string f] 93));generalize r.alloc (.cells #[.string d,.string f] 93)=ar at*;generalize bF:r.1.size=Y at*;have b0:ar.cell? ⟨Y,0,none⟩=some (.string d):=ac.cell 0;have a9:Blk ar 93 Y [.string d,.string f]:=ac;clear ac aw aH;cases q:sle fr d with
   |false=>
    have aO:Op.bytesLess d.toList fr.toList=true:=by unfold sle sl at q;simpa using q
    have t:Hid (scS fr most i (d,f)=i):=by show scS fr most i (d,f)=i;unfold scS;rw[q4 (fun h=>by rw[q]at h;exact absurd h.1 kN)]
    clear q;go_wp2_with fail;go_roundw
    case rel=>exact⟨j+1,n,o,by rw[p.out,t.out],by go_num,kH,by rw[p.out,t.out];exact g.out.1,g.out.2.1,g.out.2.2.1,g.out.2.2.2⟩
    case measure=>simp[intOf];omega
   |true=>
    have aO:Op.bytesLess d.toList fr.toList=false:=by unfold sle sl at q;simpa using q
    by_cases Z:(i.length:Int)<most
    ·have t:Hid (scS fr most i (d,f)=i++[(d,f)]):=by show scS fr most i (d,f)= _;unfold scS;rw[qb ⟨q,Z⟩]
     have aS:=g.out.1.own;clear q;go_wp2_with (first|(refine qi rfl 93 _ rfl Y rfl 93 #[.string d,.string f] (0,0) _ a9 underlying93 rfl tC ?_)|(refine Lp rfl _ _ pL rfl B n _ o (enF i) rfl aS [.string d,.string f] rfl (by simp[Value.oneCell']) rfl kH kH bd ?_;rintro bh bi b4 bv bx aX M));have bf:=g.out.1.one L (x:=(d,f)) N bd bv aX M;have ow:=(OnlyS.ofBelow (bAl _ _)).transN (OnlyS.ofGrown aX) (fun k _ e=>nh k e);have a1:=K.out.2.2.1 b (by simp[rb]);have b5:=be.out;refine⟨⟨j+1,some ⟨bh,0,none⟩,bi,by rw[p.out,t.out,kY];rfl,by go_num,kH,by rw[p.out,t.out];exact bf,?_,?_,k2 g.out.2.2.2 ow.size⟩,by simp[intOf];omega⟩
     ·intro k u a3;simp[rb]at u;subst u;have b2:=g.out.2.2.2;rcases M with e|e
      ·exact g.out.2.1 _ (by rw[e];simp[rb]) a3
      ·omega
     ·exact iB g.out.2.2.1 (fun k u=>ow.block k (dw g.out.2.2.1 k u).2 (fun e=>by
       simp[rb]at u;subst u;have b1:=(K.out.2.2.2 _ (g.out.2.1 _ e a1.2)).2;omega))
    ·have bH:=Z;have t:Hid (scS fr most i (d,f)=i):=by show scS fr most i (d,f)=i;unfold scS;rw[q4 (fun h=>Z h.2)]
     clear q;go_wp2_with fail;go_roundw
     case rel=>exact⟨j+1,n,o,by rw[p.out,t.out],by go_num,kH,by rw[p.out,t.out];exact g.out.1,g.out.2.1,g.out.2.2.1,g.out.2.2.2⟩
     case measure=>simp[intOf];omega
  ·have T:j=es.length:=kH;have bN:¬(j:Int)< (es.length:Int):=kH;have O:es.take j=es:=by rw[T,ox]
   rw[O]at E ⊢;have ai:Hid _:=E;clear E O T hr;go_wp2_with fail;go_ret;exact⟨n,o,rfl,ai.out⟩
end
