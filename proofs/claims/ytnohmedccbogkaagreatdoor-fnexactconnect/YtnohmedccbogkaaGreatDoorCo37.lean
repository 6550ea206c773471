import Derived.Test.YtnohmedccbogkaaGreatDoorCo35
namespace Go.Proofs.YtnohmedccbogkaaGreatDoor
open Go.Proofs.Tryz
open Go.RowKit
set_option linter.unusedVariables false
set_option maxRecDepth 100000
set_option maxHeartbeats 32000000
def vOf(o:Option (ByteArray×ByteArray)):ByteArray:=match o with|some e=>e.2|none=>strOfNums []
theorem tT(o):gtV o= .tuple #[.string (vOf o),.bool o.isSome]:=by cases o<;>rfl
theorem LL{o}(h:(vOf o).size=36):tpH o=low ((nb (vOf o)).take 4)/\tpI o=(nb (vOf o)).drop 4:=by
 cases o with
 |none=>exact absurd h kN
 |some e=>have h':e.2.size=36:=h;unfold tpH tpI;dsimp only;rw[qb h',qb h'];exact⟨rfl,rfl⟩
theorem LM{o}(h:(vOf o).size≠36):tpH o=0/\tpI o=List.replicate 32 0:=by
 cases o with
 |none=>exact⟨rfl,rfl⟩
 |some e=>have h':¬e.2.size=36:=h;unfold tpH tpI;dsimp only;rw[q4 h',q4 h'];exact⟨rfl,rfl⟩
theorem LQ{K q root o m B B0 gw}(key n){y w d}(t:RDisk y d K)(u:whB K q root o m=true)(r:WoT K root B B0 gw w):
 Calls prog 86 #[.pointer (some ⟨gw,0,none⟩),.string key,.int .i64 n] w fun e w'=> ∃g,e= .returned (.tuple #[.pointer (some ⟨g,0,none⟩),.bool (((vOf (gtE (enL K root) key)).size:Int)==n)])/\OnlyS (fun k=>B<=k/\k<B0) w w'/\WoT K root B B0 gw w'/\w.1.size<=g/\g<w'.1.size/\((vOf (gtE (enL K root) key)).size<=1048576->Cur w' g g (nb (vOf (gtE (enL K root) key)))):=by
 have i:=Ay key t u r;rw[tT]at i;generalize vOf (gtE (enL K root) key)=s at*;generalize (gtE (enL K root) key).isSome=sb at*;clear r t;go_enter func86,ntmps86;go_wp2_with fail;refine i.mono ?_;rintro e a ⟨rfl,l,x⟩;have C:=jc s a;have q3:=jd s a;have z:=ri s a;have j:=fun h=>je s a h;have A:=l.size;generalize grownCap a s.size 0 5=c at*;generalize Go.Lib.bytesWorld a 5 s=b at*;have f:=bAl b (.cells #[.slice (some ⟨a.1.size,0,none⟩) s.size c] 162);have v:=ao b 162 #[.slice (some ⟨a.1.size,0,none⟩) s.size c];have p:Hid (OnlyS (fun k=>B<=k/\k<B0) w (b.alloc (.cells #[.slice (some ⟨a.1.size,0,none⟩) s.size c] 162))/\WoT K root B B0 gw (b.alloc (.cells #[.slice (some ⟨a.1.size,0,none⟩) s.size c] 162))/\w.1.size<=b.1.size/\b.1.size< (b.alloc (.cells #[.slice (some ⟨a.1.size,0,none⟩) s.size c] 162)).1.size/\(s.size<=1048576->Cur (b.alloc (.cells #[.slice (some ⟨a.1.size,0,none⟩) s.size c] 162)) b.1.size b.1.size (nb s))):=by
  refine⟨(l.trans (OnlyS.ofBelow q3)).trans (OnlyS.ofBelow f),(x.below q3).below f,kH,kP,fun h=>⟨some ⟨a.1.size,0,none⟩,s.size,c,⟨v,(j h).below f,(j h).blt⟩⟩⟩
 clear i l q3 f v j z x;go_wp2_with fail
 go_ret2
 exact⟨_,rfl,p.out⟩
theorem Cur.keepU{w w'}{g B k:Nat}{l}(h:Cur w g B l)(d:OnlyB g w w'):KeepT 5 w w':=by
 obtain⟨a,n,c,b⟩:=h;exact aV d b.blk kN
theorem LT{K X root S L B B0 gw an w d}(Y:RDisk an d K)(ab:whB K X root S L=true)(N:WoT K root B B0 gw w):
 Calls prog 43 #[.pointer (some ⟨gw,0,none⟩)] w fun e w'=>e= .returned (.tuple #[.int .i64 (tpH (gtE (enL K root) ⟨#[116]⟩)),hA (tpI (gtE (enL K root) ⟨#[116]⟩))])/\OnlyS (fun k=>B<=k/\k<B0) w w'/\WoT K root B B0 gw w':=by
 have k0:=ao w 32 zH.toArray;have u:=bAl w (.cells zH.toArray 32);have V:=LQ ⟨#[116]⟩ 36 Y ab (N.below u);have aw:=N.le;have af:(prog.info? 32).map (·.size)=some zH.toArray.size:=aJ;have c:=fun h=>LL (o:=gtE (enL K root) ⟨#[116]⟩) h;have p:=fun h=>LM (o:=gtE (enL K root) ⟨#[116]⟩) h;generalize vOf (gtE (enL K root) ⟨#[116]⟩)=v at*;generalize tpH (gtE (enL K root) ⟨#[116]⟩)=y at*;generalize tpI (gtE (enL K root) ⟨#[116]⟩)=z at*;clear N Y;go_enter func43,ntmps43;go_upto_region 1 with fail
 change Code.wp _ _ _ _ (w.alloc (.cells zH.toArray 32));generalize w.alloc (.cells zH.toArray 32)=W at*;have q:Blk W 32 w.1.size zH:=k0;have T:Hid (∀D l,OnlyS (fun k=>B<=k/\k<B0) W D->WoT K root B B0 gw D->Blk D 32 w.1.size zH/\Blk (D.setRow w.1.size (ob l).toArray) 32 w.1.size (ob l)/\OnlyS (fun k=>B<=k/\k<B0) w (D.setRow w.1.size (ob l).toArray)/\WoT K root B B0 gw (D.setRow w.1.size (ob l).toArray)):=fun D l b a2=>by
  have f:=q.onlyS b kH;have i:=aN D w.1.size (ob l).toArray;have aX:=b.size;have ac:=u.size;refine⟨f,f.setRow (ob l),((OnlyS.ofBelow u).trans b).transN (OnlyS.ofB i) (fun k Z e=>by omega),a2.keep (i.below kH kH) (aV i f kN)⟩
 have ac:=q.lt;clear k0 q u;go_wp2_with fail;refine V.mono ?_;rintro e ak ⟨g,rfl,s,x,a0,aH,M⟩;clear V;by_cases a:v.size=36
 ·obtain⟨m,n⟩:=c a;have F:=M kH;have O:((v.size:Int)==36)=true:=by simp[a]
  have C:(nb v).length=36:=by rw[gd,a]
  have J:Hid ((nb v).length=36):=C;have j:Hid (y=low ((nb v).take 4)/\z=(nb v).drop 4):=⟨m,n⟩;have U:=om g g (nb v) ak F kH;have G:=kG s (kR x F);clear c p M a m n C s x F;go_wp2_with fail;refine U.mono ?_;rintro e ap ⟨rfl,r,E⟩;have aO:=r.size;have ah:=G.out.2.1.keep (r.below kH kH) (G.out.2.2.keepU (k:=0) r);have ad:=G.out.1.transN (OnlyS.ofB r) (fun k Z e=>by omega);have I:=oo g g ((nb v).drop 4) ap E kH (by rw[k3,J.out];omega);rw[mm (by rw[k3,J.out];omega)]at I;have H:=kG ad (kR ah E);clear U r E ah ad;generalize low ((nb v).take 4)=a1 at*;go_wp2_with fail;refine I.mono ?_;rintro e ar ⟨rfl,t,am⟩;have ai:=H.out.2.1.keep (t.below kH kH) (H.out.2.2.keepU (k:=0) t);have ae:=H.out.1.transN (OnlyS.ofB t) (fun k Z e=>by omega);obtain⟨f,P,i,R⟩:=T.out ar ((nb v).drop 4) ae ai;have A:((nb v).drop 4).length=32:=by rw[k3,J.out]
  clear I t am ai ae;generalize (nb v).drop 4=Q at*;have ag:(prog.info? 32).map (·.size)=some (ob Q).toArray.size:=by rw[aE,A];exact aJ
  go_wp2_with (refine qB rfl 32 _ _ rfl w.1.size (ob Q).toArray rfl rfl 32 _ f ag ?o1 (bQ _) ?_)
  case o1=>rw[aE,A];rfl
  refine p6 (v:= .tuple #[.int .i64 y,hA z]) ?_ rfl ⟨rfl,i,R⟩;rw[j.out.1,j.out.2];exact lh results43 _ _ w.1.size 32 (ob Q).toArray _ rfl P qa rfl ag rfl
 ·obtain⟨m,n⟩:=p a;have O:((v.size:Int)==36)=false:=by simp;omega
  obtain⟨f,P,i,R⟩:=T.out ak (List.replicate 32 0) s x;have j:Hid (y=0/\z=List.replicate 32 0):=⟨m,n⟩;clear c p M a m n s x;go_wp2_with (first|(refine fK rfl _ _ rfl oh ?_)|(refine qB rfl 32 _ _ rfl w.1.size zH.toArray rfl rfl 32 _ f af rfl oe ?_));refine p6 (v:= .tuple #[.int .i64 y,hA z]) ?_ rfl ⟨rfl,i,R⟩;rw[j.out.1,j.out.2];exact lh results43 _ _ w.1.size 32 (ob (List.replicate 32 0)).toArray _ rfl P qa rfl af rfl
abbrev Ch:=ByteArray×ByteArray×Bool
def ch0:Ch:=(strOfNums [],strOfNums [],false)
def chV(x:Ch):List Value:=[.string x.1,.string x.2.1,.bool x.2.2]
def chF(xs:List Ch):Nat->List Value:=fun i=>chV (xs.getD i ch0)
theorem LU(x):∀a∈chV x,a.oneCell'=true:=by simp[chV,Value.oneCell']
theorem js(xs n):IsRow 3 (chF xs) n:=⟨fun _ _=>rfl,fun i _=>LU _⟩
theorem nA:ElT 65 105 3 (.agg (chV ch0).toArray) 40:=⟨underlying65,kO,by rw[Value.cells];rfl,kH⟩
def OCh(B:Nat)(w:World)(a:Option Addr)(c:Nat)(xs:List Ch):Prop:=ORow 105 3 B w a xs.length c (chF xs)
theorem OCh.below{B w w' a c xs}(h:OCh B w a c xs)(b:Below w.1.size w w'):OCh B w' a c xs:=ORow.below h b
theorem OCh.keep{B w w' a c xs}(h:OCh B w a c xs)(b:KeepT 105 w w'):OCh B w' a c xs:=dL h b
theorem ql(xs):∀n,n<=xs.length->aQ (chF xs) n=((xs.take n).map chV).flatten
 |0,_=>by simp[aQ]
 |n+1,h=>by
  have e:chF xs n=chV xs[n]:=by simp[chF,List.getD,show n<xs.length by omega]
  rw[aQ,ql xs n kH,e,n6 kH];simp only[List.map_append,List.flatten_append,k4,k7,List.flatten_cons,List.flatten_nil,lj]
theorem LV(xs a):aQ (chF (xs++a)) (xs.length+a.length)=aQ (chF xs) xs.length++aQ (chF a) a.length:=by
 rw[ql _ _ kP,ql _ _ kE,ql _ _ kE,ox,ox,<-kY,ox];simp
theorem iC{w}{o:Oper}{h s U}(r p)(C:o.op= .call {callee:= .builtin .append,args:=#[r,p],argTypes:=#[65,65]})(B a c xs)(D:h.eval r= .slice a xs.length c)(k:OCh B w a c xs)(b d f)(hx:h.eval p= .slice b f.length d)(hr:RRow w 3 b f.length d (chF f))(W:xs.length+f.length<=1048576)(L:B<=w.1.size)(y:∀l m w',OCh B w' l m (xs++f)->w.grownBy w' (Value.slice a xs.length c).ownBlock->s (h.put o.dst (.slice l (xs++f).length m)) w'):
 o.wp prog h w s U:=by
 obtain⟨i,z,F,G,H⟩:=sk nA.inf;cases b with
 |none=>
  have N:=hr.nil rfl;have O:f.length=0:=by have:=hr.le;omega
  obtain rfl:f=[]:=oT O;subst N;have q:=run_append_owned_none (P:=prog) (w:=w) B 65 o.type 105 i 3 nA.und z _ _ _ k;have t:=y a c w (by rw[lj];exact k) ⟨rfl,rfl,rfl,kE,fun _ _ _=>rfl⟩;rw[lj]at t;have E:h.eval p= .slice none 0 0:=hx;unfold Oper.wp;simp only[execOp,C,resolve,invoke,builtin,q9,r2,sr,k9,k4,k7,D,E,q];exact t
 |some I=>
  refine wp_append_own _ r p _ C B 105 i _ 3 40 nA.und z F G H nA.cells nA.pos _ xs.length (aQ (chF xs) xs.length) D k I f.length d (aQ (chF f) f.length) hx (by rw[ju _ (js f _)]) ?_ (qC _ (js f _)) (by unfold maxLen;omega) kH L ?_
  ·intro j X A;have T:j<f.length*3:=by have:=(lb.1 A).1;rw[ju _ (js f _)]at this;exact this
   obtain⟨V,off,e,_,M⟩:=hr.at_ kH;cases e;have K:=M (j/3) (j%3) kH kH;have v:=mn f.length (js f _) (j/3) (j%3) kH kH;rw[show j/3*3+j%3=j by omega]at v;rw[sj,show off+j=off+j/3*3+j%3 by omega,K,<-v];exact A
  ·intro v' w' n x _;rw[<-LV]at n;have Q:∃l m,v'= .slice l (xs.length+f.length) m:=by
    rcases n.2 with⟨rfl,J⟩|⟨g,R,S,rfl,_⟩
    ·exact⟨none,0,by rw[J]⟩
    ·exact⟨_,_,rfl⟩
   obtain⟨l,m,rfl⟩:=Q;have u:=y l m w' (by unfold OCh ORow;rw[kY];exact n) x;rw[kY]at u;exact u
theorem tU{w i rest o f x}(m:o.guard=none)(k l)(u:o.op= .call {callee:= .builtin .append,args:=#[k,l],argTypes:=#[65,65]})(B a c xs)(v:f.eval k= .slice a xs.length c)(j:OCh B w a c xs)(b d e)(hx:f.eval l= .slice b e.length d)(hr:RRow w 3 b e.length d (chF e))(t:xs.length+e.length<=1048576)(q:B<=w.1.size)(s:∀g h w',OCh B w' g h (xs++e)->w.grownBy w' (Value.slice a xs.length c).ownBlock->wpList prog i x rest (f.put o.dst (.slice g (xs++e).length h)) w'):
 wpList prog i x (o::rest) f w:=
 sH m fun _ r=>iC k l u B a c xs v j b d e hx hr t q fun g h w' n p=>r _ _ (s g h w' n p)
theorem OCh.reads{B w a c xs}(h:OCh B w a c xs):RRow w 3 a xs.length c (chF xs):=ORow.reads h (js xs _)
theorem iD(w:World)(x):OCh w.1.size (w.alloc (.cells #[.string x.1,.string x.2.1,.bool x.2.2] 105)) (some ⟨w.1.size,0,none⟩) 1 [x]:=
 ut (f:=chF [x]) (n:=1) (ao w 105 (chV x).toArray) (js _ _) kE kH
theorem AI(w:World)(x y):OCh w.1.size (w.alloc (.cells #[.string x.1,.string x.2.1,.bool x.2.2,.string y.1,.string y.2.1,.bool y.2.2] 105)) (some ⟨w.1.size,0,none⟩) 2 [x,y]:=
 ut (f:=chF [x,y]) (n:=2) (ao w 105 (chV x++chV y).toArray) (js _ _) kE kH
theorem OCh.grown{B w w' a c xs}(h:OCh B w a c xs)(d:w.grownBy w' (Value.slice a xs.length c).ownBlock)(b:B<=w.1.size):Below B w w':=kF.grown d b (fun k e=>(qX h k e).1)
def kyH(m:Int)(h:Nat):ByteArray:=strOfNums (m::bW h 4)
def kyM(m:Int)(h:Nat)(i:Int):ByteArray:=strOfNums (m::(bW h 4++[i]))
def dlC(k:ByteArray):Ch:=(k,strOfNums [],true)
def ptC(k v:ByteArray):Ch:=(k,v,false)
def tpT(h:Nat)(l:List Int):ByteArray:=strOfNums (num h 4++l)
theorem AJ(o):0<=tpH o/\tpH o<4294967296:=by
 unfold tpH;split
 ·rename_i e;split
  ·rename_i c;have a:=dR (jB e.2) 4;have h:=gG a;have b:((nb e.2).take 4).length=4:=by rw[lw,gd,c];rfl
   rw[b]at h;exact⟨h.1,kH⟩
  ·omega
 ·omega
def DcP(xs:List Ch)(code:Int)(w:World)(e:Ending)(w':World):Prop:= ∃a c,e= .returned (.tuple #[.slice a xs.length c,.int .i64 code])/\OCh w.1.size w' a c xs/\Below w.1.size w w'
theorem mg:(prog.info? 105).map (·.size)=some 3:=kO
theorem LX(k w):
 Calls prog 104 #[.string k] w fun e w'=>e= .returned (.agg #[.string k,.string (strOfNums []),.bool true])/\Below w.1.size w w':=by
 have a:Hid (Below w.1.size w (w.alloc (.cells #[.string k,.string (strOfNums []),.bool true] 105))):=bAl _ _;have b:=ao w 105 #[.string k,.string (strOfNums []),.bool true];go_enter func104,ntmps104;go_wp2_with (refine aL rfl 105 _ _ rfl w (chV ch0).toArray #[.string k,.string (strOfNums []),.bool true] 105 rfl rfl mg rfl rfl ?_);refine p6 (v:= .agg #[.string k,.string (strOfNums []),.bool true]) ?_ rfl ⟨rfl,a.out⟩;exact r3 results104 _ _ w.1.size 105 #[.string k,.string (strOfNums []),.bool true] (0,0) _ rfl b underlying105 rfl mg
theorem nB(k v w):
 Calls prog 105 #[.string k,.string v] w fun e w'=>e= .returned (.agg #[.string k,.string v,.bool false])/\Below w.1.size w w':=by
 have a:Hid (Below w.1.size w (w.alloc (.cells #[.string k,.string v,.bool false] 105))):=bAl _ _;have b:=ao w 105 #[.string k,.string v,.bool false];go_enter func105,ntmps105;go_wp2_with (refine aL rfl 105 _ _ rfl w (chV ch0).toArray #[.string k,.string v,.bool false] 105 rfl rfl mg rfl rfl ?_);refine p6 (v:= .agg #[.string k,.string v,.bool false]) ?_ rfl ⟨rfl,a.out⟩;exact r3 results105 _ _ w.1.size 105 #[.string k,.string v,.bool false] (0,0) _ rfl b underlying105 rfl mg
theorem AK(m)(h:Nat)(q:h<4294967296)(w):
 Calls prog 106 #[.string (strOfNums [m]),.int .i64 h] w fun e w'=>e= .returned (.string (kyH m h))/\Below w.1.size w w':=by
 have a:=ry w.1.size none 0 0 [] h 4 w (gR _ _) kE kH kH;simp only[ld,m7]at a;have k:Hid (kyH m h=strOfNums [m]++strOfNums (bW h 4)):=by show kyH m h= _;rw[jf];rfl
 have g:((strOfNums (bW h 4)).size:Int)=4:=by rw[rg,km];rfl
 have b:((strOfNums [m]).size:Int)=1:=by rw[rg];rfl
 have j:Hid _:=iG h 4;generalize bW h 4=f at*;generalize strOfNums [m]=l at*;have n:¬(9223372036854775807:Int)< (l.size:Int)+((strOfNums f).size:Int):=kH;go_enter func106,ntmps106;go_wp2_with fail;refine a.mono ?_;rintro e w1 ⟨o,p,rfl,d,i⟩;have r:=aP (i.bs j.out);have c:Hid _:=d;clear a d i g b;generalize strOfNums f=sb at*;go_wp2_with fail;go_ret;rw[k.out];exact⟨rfl,c.out⟩
theorem AL(m)(h:Nat)(i)(V:h<4294967296)(G:0<=i)(H:i<256)(w):
 Calls prog 103 #[.string (strOfNums [m]),.int .i64 h,.int .i64 i] w fun e w'=>e= .returned (.string (kyM m h i))/\Below w.1.size w w':=by
 have o:Hid _:=fun w=>AK m h V w;have E:Hid (kyM m h i=kyH m h++strOfNums [i]):=by show kyM m h i= _;unfold kyH;rw[jf];rfl
 have I:((kyH m h).size:Int)=5:=by unfold kyH;rw[rg,m1,km];rfl
 have v:((strOfNums [i]).size:Int)=1:=by rw[rg];rfl
 generalize kyH m h=J at*;generalize strOfNums [m]=Y at*;obtain⟨K,q⟩:∃Z,strOfNums [i]=Z:=⟨_,rfl⟩;rw[q]at v E;have p:Hid _:=q;have X:¬9223372036854775807<J.size+K.size:=kH;clear q I v;go_enter func103,ntmps103;go_upto_region 1 with fail
 rename_i U u;have j:Hid (∀(W:World){L M N O P Q R S T x y z A B:Value},Below w.1.size w W->U {tmps:=#[L,M,N,O,P,Q,.string (J++K),R,S,T,x,y,z,A,B],defers:=[]} W):=by
  intro W L M N O P Q R S T x y z A B F;have D:Hid _:=F;refine u _ _ ?_;clear F;go_wp2_with fail;go_ret;exact⟨by rw[E.out];rfl,D.out⟩
 obtain⟨c,r⟩:∃c,c=w.drew:=⟨_,rfl⟩;have B0:Hid (Below w.1.size w c):=by show Below w.1.size w c;rw[r];exact⟨rfl,rfl,rfl,kE,fun _ _=>rfl⟩
 refine ay (fun _=>True) (fun k=>decide (9<=k)) kO ?_;rw[<-r];clear r u;refine aa 0 trivial ?_;refine aa 1 trivial ?_;refine aa 3 trivial ?_;refine aa 4 trivial ?_;refine cI 2 5 kO rfl rfl (fun b a=> ?brc5a) (fun b a=> ?brc5b)
 case brc5a=>
  rw[qb (show Region.wanted _ _=true from rfl)];have d:=o.out c;go_wp2_with fail;refine d.mono ?_;rintro e w1 ⟨rfl,C⟩;have g:Hid (Below w.1.size w w1):=B0.out.trans (C.mono B0.out.size);clear d;go_wp2_with fail;refine a.out _ _ (fun _=>trivial) ?_;clear a b;refine aj 5 fun b a=> ?_;have l:=bAl w1 (.cells #[.int .u8 i] 5);have s:=cZ w1 i G H;go_wp2_with fail;have n:Hid (Below w.1.size w (w1.alloc (.cells #[.int .u8 i] 5))):=g.out.trans (l.mono g.out.size);refine al a ?_;clear a b;generalize w1.alloc (.cells #[.int .u8 i] 5)=t at*;refine aj 6 fun b a=> ?_;have f:=aP s;rw[p.out]at f;go_wp2_with fail;clear f;refine al a ?_;clear a b;refine aa 7 trivial ?_;refine aa 8 trivial ?_;refine ax ?_;exact j.out _ n.out
 case brc5b=>
  rw[qb (show Region.wanted _ _=true from rfl)];have C:=bAl c (.cells #[.int .u8 i] 5);have s:=cZ c i G H;go_wp2_with fail;have g:Hid (Below w.1.size w (c.alloc (.cells #[.int .u8 i] 5))):=B0.out.trans (C.mono B0.out.size);refine al a ?_;clear a b;generalize c.alloc (.cells #[.int .u8 i] 5)=w1 at*;refine cI 2 6 kO rfl rfl (fun b a=> ?brc8a) (fun b a=> ?brc8b)
  case brc8a=>
   rw[qb (show Region.wanted _ _=true from rfl)];have d:=o.out w1;go_wp2_with fail;refine d.mono ?_;rintro e t ⟨rfl,l⟩;have n:Hid (Below w.1.size w t):=g.out.trans (l.mono g.out.size);clear d;go_wp2_with fail;refine a.out _ _ (fun _=>trivial) ?_;clear a b;refine aj 6 fun b a=> ?_;have f:=aP (s.below l);rw[p.out]at f;go_wp2_with fail;clear f;refine al a ?_;clear a b;refine aa 7 trivial ?_;refine aa 8 trivial ?_;refine ax ?_;exact j.out _ n.out
  case brc8b=>
   rw[qb (show Region.wanted _ _=true from rfl)];have f:=aP s;rw[p.out]at f;go_wp2_with fail;clear f;refine al a ?_;clear a b;refine aj 2 fun b a=> ?_;have d:=o.out w1;go_wp2_with fail;refine d.mono ?_;rintro e t ⟨rfl,l⟩;have n:Hid (Below w.1.size w t):=g.out.trans (l.mono g.out.size);clear d;go_wp2_with fail;refine al a ?_;clear a b;refine aa 7 trivial ?_;refine aa 8 trivial ?_;refine ax ?_;exact j.out _ n.out
theorem AM(m)(h:Nat)(i)(ap:h<4294967296)(N:0<=i)(O:i<256)(w):
 Calls prog 56 #[.string (strOfNums [m]),.int .i64 h,.int .i64 i] w fun e w'=>e= .returned (.string (kyM m h i))/\Below w.1.size w w':=by
 have t:Hid _:=fun w=>oA h 4 w kH kH;have L:Hid _:=iG h 4;have M:Hid (kyM m h i=(strOfNums [m]++strOfNums (bW h 4))++strOfNums [i]):=by show kyM m h i= _;rw[jf,jf];rfl
 have T:((strOfNums [m]).size:Int)=1:=by rw[rg];rfl
 have C:((strOfNums (bW h 4)).size:Int)=4:=by rw[rg,km];rfl
 have D:((strOfNums [i]).size:Int)=1:=by rw[rg];rfl
 generalize bW h 4=ah at*;generalize strOfNums [m]=z at*;obtain⟨A,u⟩:∃ai,strOfNums ah=ai:=⟨_,rfl⟩;obtain⟨V,v⟩:∃ai,strOfNums [i]=ai:=⟨_,rfl⟩;rw[u]at C M;rw[v]at D M;have g:Hid _:=u;have j:Hid _:=v;have U:((z++A).size:Int)=5:=by rw[ByteArray.size_append];omega
 have an:¬9223372036854775807<z.size+A.size:=kH;have am:¬9223372036854775807<z.size+A.size+V.size:=kH;clear u v T C D U;go_enter func56,ntmps56;go_upto_region 1 with fail
 rename_i ag B;have d:Hid (∀(ak:World){W X Y Z ab ac ad ae af E F G H I J K:Value},Below w.1.size w ak->ag {tmps:=#[W,X,Y,Z,ab,ac,.string ((z++A)++V),ad,ae,af,E,F,G,H,I,J,K],defers:=[]} ak):=by
  intro ak W X Y Z ab ac ad ae af E F G H I J K R;have Q:Hid _:=R;refine B _ _ ?_;clear R;go_wp2_with fail;go_ret;exact⟨by rw[M.out];rfl,Q.out⟩
 obtain⟨o,x⟩:∃o,o=w.drew:=⟨_,rfl⟩;have B0:Hid (Below w.1.size w o):=by show Below w.1.size w o;rw[x];exact⟨rfl,rfl,rfl,kE,fun _ _=>rfl⟩
 refine ay (fun _=>True) (fun k=>decide (11<=k)) kO ?_;rw[<-x];clear x B;refine aa 0 trivial ?_;refine aa 1 trivial ?_;refine aa 5 trivial ?_;refine aa 6 trivial ?_;refine cI 2 7 kO rfl rfl (fun b a=> ?bra5a) (fun b a=> ?bra5b)
 case bra5a=>
  rw[qb (show Region.wanted _ _=true from rfl)];have p:=t.out o;go_wp2_with fail;refine p.mono ?_;rintro e w1 ⟨S,rfl,P,s⟩;have r:=s.bs L.out;have l:Hid (Below w.1.size w w1):=B0.out.trans (P.mono B0.out.size);clear p s;go_wp2_with fail;refine a.out _ _ (fun _=>trivial) ?_;clear a b;refine cI 3 7 kO rfl rfl (fun b a=> ?bra6a) (fun b a=> ?bra6b)
  case bra6a=>
   rw[qb (show Region.wanted _ _=true from rfl)];have c:=aP r;rw[g.out]at c;go_wp2_with fail;clear c;refine a.out _ _ (fun _=>trivial) ?_;clear a b;refine aa 4 trivial ?_;refine aj 7 fun b a=> ?_;have f:=bAl w1 (.cells #[.int .u8 i] 5);have q:=cZ w1 i N O;go_wp2_with fail;have n:Hid (Below w.1.size w (w1.alloc (.cells #[.int .u8 i] 5))):=l.out.trans (f.mono l.out.size);refine al a ?_;clear a b;generalize w1.alloc (.cells #[.int .u8 i] 5)=y at*;refine aj 8 fun b a=> ?_;have c:=aP q;rw[j.out]at c;go_wp2_with fail;clear c;refine al a ?_;clear a b;refine aa 9 trivial ?_;refine aa 10 trivial ?_;refine ax ?_;exact d.out _ n.out
  case bra6b=>
   rw[qb (show Region.wanted _ _=true from rfl)];have f:=bAl w1 (.cells #[.int .u8 i] 5);have q:=cZ w1 i N O;go_wp2_with fail;have n:Hid (Below w.1.size w (w1.alloc (.cells #[.int .u8 i] 5))):=l.out.trans (f.mono l.out.size);refine al a ?_;clear a b;generalize w1.alloc (.cells #[.int .u8 i] 5)=y at*;refine cI 3 8 kO rfl rfl (fun b a=> ?bra10a) (fun b a=> ?bra10b)
   case bra10a=>
    rw[qb (show Region.wanted _ _=true from rfl)];have c:=aP (r.below f);rw[g.out]at c;go_wp2_with fail;clear c;refine a.out _ _ (fun _=>trivial) ?_;clear a b;refine aa 4 trivial ?_;refine aj 8 fun b a=> ?_;have c:=aP q;rw[j.out]at c;go_wp2_with fail;clear c;refine al a ?_;clear a b;refine aa 9 trivial ?_;refine aa 10 trivial ?_;refine ax ?_;exact d.out _ n.out
   case bra10b=>
    rw[qb (show Region.wanted _ _=true from rfl)];have c:=aP q;rw[j.out]at c;go_wp2_with fail;clear c;refine al a ?_;clear a b;refine aj 3 fun b a=> ?_;have c:=aP (r.below f);rw[g.out]at c;go_wp2_with fail;clear c;refine al a ?_;clear a b;refine aa 4 trivial ?_;refine aa 9 trivial ?_;refine aa 10 trivial ?_;refine ax ?_;exact d.out _ n.out
 case bra5b=>
  rw[qb (show Region.wanted _ _=true from rfl)];have P:=bAl o (.cells #[.int .u8 i] 5);have q:=cZ o i N O;go_wp2_with fail;have l:Hid (Below w.1.size w (o.alloc (.cells #[.int .u8 i] 5))):=B0.out.trans (P.mono B0.out.size);refine al a ?_;clear a b;generalize o.alloc (.cells #[.int .u8 i] 5)=w1 at*;refine cI 2 8 kO rfl rfl (fun b a=> ?bra17a) (fun b a=> ?bra17b)
  case bra17a=>
   rw[qb (show Region.wanted _ _=true from rfl)];have p:=t.out w1;go_wp2_with fail;refine p.mono ?_;rintro e y ⟨S,rfl,f,s⟩;have r:=s.bs L.out;have n:Hid (Below w.1.size w y):=l.out.trans (f.mono l.out.size);clear p s;go_wp2_with fail;refine a.out _ _ (fun _=>trivial) ?_;clear a b;refine cI 3 8 kO rfl rfl (fun b a=> ?bra18a) (fun b a=> ?bra18b)
   case bra18a=>
    rw[qb (show Region.wanted _ _=true from rfl)];have c:=aP r;rw[g.out]at c;go_wp2_with fail;clear c;refine a.out _ _ (fun _=>trivial) ?_;clear a b;refine aa 4 trivial ?_;refine aj 8 fun b a=> ?_;have c:=aP (q.below f);rw[j.out]at c;go_wp2_with fail;clear c;refine al a ?_;clear a b;refine aa 9 trivial ?_;refine aa 10 trivial ?_;refine ax ?_;exact d.out _ n.out
   case bra18b=>
    rw[qb (show Region.wanted _ _=true from rfl)];have c:=aP (q.below f);rw[j.out]at c;go_wp2_with fail;clear c;refine al a ?_;clear a b;refine aj 3 fun b a=> ?_;have c:=aP r;rw[g.out]at c;go_wp2_with fail;clear c;refine al a ?_;clear a b;refine aa 4 trivial ?_;refine aa 9 trivial ?_;refine aa 10 trivial ?_;refine ax ?_;exact d.out _ n.out
  case bra17b=>
   rw[qb (show Region.wanted _ _=true from rfl)];have c:=aP q;rw[j.out]at c;go_wp2_with fail;clear c;refine al a ?_;clear a b;refine aj 2 fun b a=> ?_;have p:=t.out w1;go_wp2_with fail;refine p.mono ?_;rintro e y ⟨S,rfl,f,s⟩;have r:=s.bs L.out;have n:Hid (Below w.1.size w y):=l.out.trans (f.mono l.out.size);clear p s;go_wp2_with fail;refine al a ?_;clear a b;refine aj 3 fun b a=> ?_;have c:=aP r;rw[g.out]at c;go_wp2_with fail;clear c;refine al a ?_;clear a b;refine aa 4 trivial ?_;refine aa 9 trivial ?_;refine aa 10 trivial ?_;refine ax ?_;exact d.out _ n.out
theorem LY(k v a w):
 Calls prog 63 #[.agg #[.string k,.string v,.bool a],.agg #[.string k,.string v,.bool a]] w fun e w'=>e= .returned (.bool true)/\Below w.1.size w w':=by
 have b:Hid _:=eT w (.cells #[.string k,.string v,.bool a] 105) (.cells #[.string k,.string v,.bool a] 105);go_enter func63,ntmps63;go_wp2;go_ret;exact⟨rfl,b.out⟩
theorem AQ{B w b xs c j}(h:OCh B w (some ⟨b,0,none⟩) c xs)(a:j<xs.length):w.cell? ⟨b,j*3,none⟩=some (.string (xs.getD j ch0).1)/\w.cell? ⟨b,j*3+1,none⟩=some (.string (xs.getD j ch0).2.1)/\w.cell? ⟨b,j*3+2,none⟩=some (.bool (xs.getD j ch0).2.2):=by
 have k:=fun q d=>kr h (js xs _) j q a d;exact⟨k 0 kH,k 1 kH,k 2 kH⟩
theorem tV(xs a y c A B G w)(h:OCh B w a c xs)(h':OCh G w y A xs)(P:xs.length<=1048576):
 Calls prog 29 #[.slice a xs.length c,.slice y xs.length A] w fun e w'=>e= .returned (.bool true)/\Below w.1.size w w':=by
 go_enter func29,ntmps29;go_wp2_with fail;go_loopw [5] (fun s wr=> ∃j:Nat,s= .int .i64 (j:Nat)/\j<=xs.length/\Below w.1.size w wr) (fun s _=>xs.length-(intOf s).toNat)
 case atStart=>exact⟨0,rfl,kX _,kF⟩
 case round=>
  obtain⟨j,rfl,O,i⟩:=hrel;obtain⟨F,rfl⟩:∃x,x=wr:=⟨_,rfl⟩;by_cases n:j<xs.length
  ·have J:(j:Int)< (xs.length:Int):=kH;obtain⟨b,rfl,_,_⟩:=ip h kH;obtain⟨f,rfl,_,_⟩:=ip h' kH;have g:Hid (∀d,Below w.1.size w d->d.cell? ⟨b,j*3,none⟩=some (.string (xs.getD j ch0).1)/\d.cell? ⟨b,j*3+1,none⟩=some (.string (xs.getD j ch0).2.1)/\d.cell? ⟨b,j*3+2,none⟩=some (.bool (xs.getD j ch0).2.2)/\d.cell? ⟨f,j*3,none⟩=some (.string (xs.getD j ch0).1)/\d.cell? ⟨f,j*3+1,none⟩=some (.string (xs.getD j ch0).2.1)/\d.cell? ⟨f,j*3+2,none⟩=some (.bool (xs.getD j ch0).2.2)):=fun d E=>by
    obtain⟨K,L,M⟩:=AQ (h.below E) n;exact⟨K,L,M,AQ (h'.below E) n⟩
   generalize xs.getD j ch0=I at*;obtain⟨q,r,p⟩:=I;dsimp only at g;have C:=bDr F;have o:=i.trans (C.mono i.size);have cs:=g.out _ o;have t:=LY q r p F.drew;have v:Hid _:=o;clear C o i;go_upto_region 6 with fail
   refine ay (fun d=>d.cell? ⟨b,j*3,none⟩=some (.string q)/\d.cell? ⟨b,j*3+1,none⟩=some (.string r)/\d.cell? ⟨b,j*3+2,none⟩=some (.bool p)/\d.cell? ⟨f,j*3,none⟩=some (.string q)/\d.cell? ⟨f,j*3+1,none⟩=some (.string r)/\d.cell? ⟨f,j*3+2,none⟩=some (.bool p)) (fun k=>decide (10<=k)) kO ?_;refine aa 0 cs ?_;refine aa 1 cs ?_;refine aa 2 cs ?_;refine aa 3 cs ?_;refine aa 4 cs ?_;refine aa 5 cs ?_;refine aa 6 cs ?_;refine aa 7 cs ?_;refine aj 8 fun H D=> ?_;go_wp2_with fail;refine t.mono ?_;rintro e Q ⟨rfl,z⟩;have l:Hid _:=v.out.trans (z.mono v.out.size);have m:=g.out _ l.out;clear t z;go_wp2_with fail;refine al D ?_;clear D H;refine aa 9 m ?_;refine ax ?_;clear cs m;go_wp2_with fail;go_roundw
   case rel=>exact⟨j+1,by go_num,kH,l.out⟩
   case measure=>simp[intOf];omega
  ·have N:¬(j:Int)< (xs.length:Int):=kH;have u:Hid _:=i;clear i h h';go_wp2_with fail;go_ret;exact⟨rfl,u.out⟩
def mhF(k:Int):Nat->List Value:=fun i=>[.string (mkT (k+3*i)),.string (mkT (k+3*i+1)),.bool ((k+3*i+2)%3==0)]
def mhX(k:Int)(f:Nat->List Value)(i:Nat):Nat->List Value:=fun t=>if t<i then mhF k t else f t
theorem qm(k n):IsRow 3 (mhF k) n:=⟨fun _ _=>rfl,fun _ _ b a=>by simp[mhF]at a;rcases a with rfl|rfl|rfl<;>rfl⟩
theorem LZ{k f n}(b:IsRow 3 f n)(i):IsRow 3 (mhX k f i) n:=⟨fun c a=>by unfold mhX;split;rfl;exact b.len c a,fun c a=>by unfold mhX;split;exact(qm k (c+1)).one c kH;exact b.one c a⟩
theorem AR{s f n i q v}(c:IsRow s f n)(g:v.oneCell'=true):IsRow s (dg f i ((f i).set q v)) n:=⟨fun d a=>by
 by_cases e:d=i
 ·subst e;rw[fJ,List.length_set];exact c.len d a
 ·simp only[dg,e,if_false];exact c.len d a,
 fun d a j b=>by
  by_cases e:d=i
  ·subst e;rw[fJ]at b;rcases List.mem_or_eq_of_mem_set b with h|h
   ·exact c.one d a j h
   ·subst h;exact g
  ·simp only[dg,e,if_false]at b;exact c.one d a j b⟩
theorem L0{k f n}(q:IsRow 3 f n){i}(l:i<n){x y z}(hx:x= .string (mkT (k+3*i)))(o:y= .string (mkT (k+3*i+1)))(p:z= .bool ((k+3*i+2)%3==0)){g1 g2}(g:g1=dg (mhX k f i) i ((mhX k f i i).set 0 x))(d:g2=dg g1 i ((g1 i).set 1 y)):dg g2 i ((g2 i).set 2 z)=mhX k f (i+1):=by
 funext t;by_cases e:t=i
 ·subst e;rw[fJ,d,fJ,g,fJ];have m:=q.len t l;have h:mhX k f t t=f t:=by simp[mhX]
  have j:mhX k f (t+1) t=mhF k t:=by simp[mhX]
  rw[h,j,hx,o,p]
  match f t,m with
  |[a,b,c],_=>rfl
 ·rw[d,g];simp only[dg,e,if_false];by_cases d:t<i
  ·simp[mhX,d,Nat.lt_succ_of_lt d]
  ·simp[mhX,d,show¬t<i+1 by omega]
theorem L1(B a n c f w)(h:ORow 105 3 B w a n c f)(am:IsRow 3 f n)(bh:n<=1048576)(bf:B<=w.1.size):
 Calls prog 30 #[.slice a n c,.int .i64 1] w fun e w'=>e= .returned (.int .i64 (1+3*n))/\Below B w w'/\ORow 105 3 B w' a n c (mhF 1):=by
 go_enter func30,ntmps30;go_wp2_with fail;go_loopw [1,5] (fun x i wr=> ∃j:Nat,j<=n/\i= .int .i64 j/\x= .int .i64 (1+3*j)/\Below B w wr/\ORow 105 3 B wr a n c (mhX 1 f j)) (fun _ i _=>n-(intOf i).toNat)
 case atStart=>exact⟨0,kX _,rfl,kP,kF,h.congr (fun i _=>by simp[mhX])⟩
 case round=>
  obtain⟨j,bg,rfl,rfl,u,D⟩:=hrel;obtain⟨U,rfl⟩:∃x,x=wr:=⟨_,rfl⟩;clear h;have r:=LZ (k:=1) am j;by_cases d:j<n
  ·have a7:(j:Int)< (n:Int):=kH;obtain⟨b,rfl,t,a8⟩:=ip D kH;have af:=oU (1+3*j) kH kH U;have ae:=kG u D;have bc:=u.size;have M:Hid _:=fun(g1 g2:Nat->List Value) a4 a5=>L0 (k:=1) am d (x:= .string (mkT (1+3*j))) (y:= .string (mkT (1+3*j+1))) (z:= .bool ((1+3*(j:Int)+2)%3==0)) rfl rfl rfl (g1:=g1) (g2:=g2) a4 a5;clear u D;go_upto_region 4 with fail
   go_wp2_with fail;refine af.mono ?_;rintro e s ⟨rfl,Q⟩;have I:=ae.out.2.below Q;have N:=ae.out.1.trans (Q.mono kH);have g:=r.len j d;obtain⟨L,an,ap,hx⟩:∃L an ap,mhX 1 f j j=[L,an,ap]:=by
    match mhX 1 f j j,g with
    |[x,y,z],_=>exact⟨x,y,z,rfl⟩
   have H:s.cell? ⟨b,j*3+0,none⟩=some L:=by rw[kr I r j 0 d kH,hx];rfl
   have ah:s.cell? ⟨b,j*3,none⟩=some L:=H;have S:s.frozen? ⟨b,j*3,none⟩=false:=sx I _;obtain⟨s3,a1⟩:=rR I r j 0 d kH (.string (mkT (1+3*j)));have E:=AR (i:=j) (q:=0) (v:= .string (mkT (1+3*j))) r rfl;have X:=N.setCell (p:=⟨b,j*3,none⟩) t (.string (mkT (1+3*j)));obtain⟨g1,A⟩:∃g1,g1=dg (mhX 1 f j) j ((mhX 1 f j j).set 0 (.string (mkT (1+3*j)))):=⟨_,rfl⟩;rw[<-A]at s3 E;have G:Hid (ORow 105 3 B (s.setCell ⟨b,j*3,none⟩ (.string (mkT (1+3*j)))) (some ⟨b,0,none⟩) n c g1/\Below B w (s.setCell ⟨b,j*3,none⟩ (.string (mkT (1+3*j))))/\IsRow 3 g1 n):=⟨s3,X,E⟩;have ad:Hid _:=A;clear af Q I N g hx H s3 a1 X E A;go_upto_region 5 with fail
   generalize s.setCell ⟨b,j*3,none⟩ (.string (mkT (1+3*j)))=a0 at*;have ag:=oU (1+3*j+1) kH kH a0;clear ah S;go_wp2_with fail;refine ag.mono ?_;rintro e F ⟨rfl,R⟩;have l:=G.out.2.2;have J:=G.out.1.below R;have O:=G.out.2.1.trans (R.mono (by have:=G.out.2.1.size;omega));have g:=l.len j d;obtain⟨ar,V,aw,ai⟩:∃ar V aw,g1 j=[ar,V,aw]:=by
    match g1 j,g with
    |[x,y,z],_=>exact⟨x,y,z,rfl⟩
   have H:F.cell? ⟨b,j*3+1,none⟩=some V:=by rw[kr J l j 1 d kH,ai];rfl
   have S:F.frozen? ⟨b,j*3+1,none⟩=false:=sx J _;obtain⟨K,a2⟩:=rR J l j 1 d kH (.string (mkT (1+3*j+1)));have o:=AR (i:=j) (q:=1) (v:= .string (mkT (1+3*j+1))) l rfl;have Y:=O.setCell (p:=⟨b,j*3+1,none⟩) t (.string (mkT (1+3*j+1)));have P:=M.out g1 _ ad.out rfl;generalize dg g1 j ((g1 j).set 1 (.string (mkT (1+3*j+1))))=g2 at*;have m:=o.len j d;obtain⟨aH,aO,W,ak⟩:∃aH aO W,g2 j=[aH,aO,W]:=by
    match g2 j,m with
    |[x,y,z],_=>exact⟨x,y,z,rfl⟩
   have a9:(F.setCell ⟨b,j*3+1,none⟩ (.string (mkT (1+3*j+1)))).cell? ⟨b,j*3+2,none⟩=some W:=by rw[kr K o j 2 d kH,ak];rfl
   have ba:(F.setCell ⟨b,j*3+1,none⟩ (.string (mkT (1+3*j+1)))).frozen? ⟨b,j*3+2,none⟩=false:=sx K _;obtain⟨T,a3⟩:=rR K o j 2 d kH (.bool ((1+3*(j:Int)+2)%3==0));rw[P]at T;have Z:=Y.setCell (p:=⟨b,j*3+2,none⟩) t (.bool ((1+3*(j:Int)+2)%3==0));have ac:=kG T Z;have be:1+3*(j:Int)+1+1=1+3*j+2:=kH;clear ag R J O g m ai ak l o K a2 Y T a3 Z P M;go_upto_region 6 with fail
   generalize F.setCell ⟨b,j*3+1,none⟩ (.string (mkT (1+3*j+1)))=bd at*;clear H S;go_wp2_with fail;go_roundw
   case rel=>exact⟨j+1,kH,by go_num,by go_num,ac.out.2,ac.out.1⟩
   case measure=>simp[intOf];omega
  ·have C:j=n:=kH;have bb:¬(j:Int)< (n:Int):=kH;have ab:Hid (Below B w U/\ORow 105 3 B U a n c (mhF 1)):=⟨u,D.congr (fun i a6=>by simp[mhX,C,a6])⟩;have aX:Hid (j=n):=C;clear u D C;go_wp2_with fail;go_ret;exact⟨by rw[aX.out];rfl,ab.out⟩
theorem L3{k B w b n c j}(h:ORow 105 3 B w (some ⟨b,0,none⟩) n c (mhF k))(a:j<n):w.cell? ⟨b,j*3,none⟩=some (.string (mkT (k+3*j)))/\w.cell? ⟨b,j*3+1,none⟩=some (.string (mkT (k+3*j+1)))/\w.cell? ⟨b,j*3+2,none⟩=some (.bool ((k+3*j+2)%3==0)):=
 ⟨kr h (qm k n) j 0 a kH,kr h (qm k n) j 1 a kH,kr h (qm k n) j 2 a kH⟩
theorem L4(B a n c w)(h:ORow 105 3 B w a n c (mhF 1))(X:n<=1048576):
 Calls prog 31 #[.slice a n c,.int .i64 1] w fun e w'=>e= .returned (.int .i64 (1+3*n))/\Below w.1.size w w':=by
 go_enter func31,ntmps31;go_wp2_with fail;go_loopw [1,5] (fun x i wr=> ∃j:Nat,j<=n/\i= .int .i64 j/\x= .int .i64 (1+3*j)/\Below w.1.size w wr) (fun _ i _=>n-(intOf i).toNat)
 case atStart=>exact⟨0,kX _,rfl,kP,kF⟩
 case round=>
  obtain⟨j,W,rfl,rfl,o⟩:=hrel;obtain⟨O,rfl⟩:∃x,x=wr:=⟨_,rfl⟩;by_cases L:j<n
  ·have R:(j:Int)< (n:Int):=kH;obtain⟨b,rfl,_,_⟩:=ip h kH;have f:Hid (∀g,Below w.1.size w g->g.cell? ⟨b,j*3,none⟩=some (.string (mkT (1+3*j)))/\g.cell? ⟨b,j*3+1,none⟩=some (.string (mkT (1+3*j+1)))/\g.cell? ⟨b,j*3+2,none⟩=some (.bool ((1+3*(j:Int)+2)%3==0))):=fun g S=>L3 (h.below S) L;have A:=fun w=>oU (1+3*j) kH kH w;have C:=fun w=>oU (1+3*j+1) kH kH w;have v:Hid _:=A;have y:Hid _:=C;clear A C;generalize mkT (1+3*(j:Int))=M at*;generalize mkT (1+3*(j:Int)+1)=N at*;have l:=bDr O;have d:=o.trans (l.mono o.size);have cs:=f.out _ d;have D:=v.out O.drew;have u:Hid _:=d;clear l d o;go_upto_region 4 with fail
   refine ay (fun g=>g.cell? ⟨b,j*3,none⟩=some (.string M)/\g.cell? ⟨b,j*3+1,none⟩=some (.string N)/\g.cell? ⟨b,j*3+2,none⟩=some (.bool ((1+3*(j:Int)+2)%3==0))) (fun k=>decide (8<=k)) kO ?_;refine aa 0 cs ?_;refine aa 1 cs ?_;refine aa 2 cs ?_;refine aa 3 cs ?_;refine aa 4 cs ?_;refine aa 5 cs ?_;refine aj 6 fun s m=> ?_;go_wp2_with fail;refine D.mono ?_;rintro e P ⟨rfl,F⟩;have r:Hid _:=u.out.trans (F.mono u.out.size);have H:=f.out _ r.out;clear D F;go_wp2_with fail;refine al m ?_;clear m s;refine aa 7 H ?_;refine ax ?_;clear cs;have l:=bDr P;have d:=r.out.trans (l.mono r.out.size);have cs:=f.out _ d;have E:=y.out P.drew;have p:Hid _:=d;clear l d H;go_upto_region 7 with fail
   refine ay (fun g=>g.cell? ⟨b,j*3,none⟩=some (.string M)/\g.cell? ⟨b,j*3+1,none⟩=some (.string N)/\g.cell? ⟨b,j*3+2,none⟩=some (.bool ((1+3*(j:Int)+2)%3==0))) (fun k=>decide (8<=k)) kO ?_;refine aa 0 cs ?_;refine aa 1 cs ?_;refine aa 2 cs ?_;refine aa 3 cs ?_;refine aa 4 cs ?_;refine aa 5 cs ?_;refine aj 6 fun s m=> ?_;go_wp2_with fail;refine E.mono ?_;rintro e Y ⟨rfl,G⟩;have z:Hid _:=p.out.trans (G.mono p.out.size);have I:=f.out _ z.out;clear E G;go_wp2_with fail;refine al m ?_;clear m s;refine aa 7 I ?_;refine ax ?_;obtain⟨J,K,T⟩:=I;have V:1+3*(j:Int)+1+1=1+3*j+2:=kH;clear cs J K;go_wp2_with fail;go_roundw
   case rel=>exact⟨j+1,kH,by go_num,by go_num,z.out⟩
   case measure=>simp[intOf];omega
  ·have q:j=n:=kH;have U:¬(j:Int)< (n:Int):=kH;have t:Hid _:=o;have Q:Hid (j=n):=q;clear o h q;go_wp2_with fail;go_ret;exact⟨by rw[Q.out];rfl,t.out⟩
