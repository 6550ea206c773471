import Derived.Test.YtnohmedccbogkaaGreatDoorCo2
namespace Go.Proofs.YtnohmedccbogkaaGreatDoor
open Go.Proofs.Tryz
open Go.RowKit
set_option linter.unusedVariables false
set_option maxRecDepth 100000
set_option maxHeartbeats 32000000
abbrev LSg:=ByteArray×ByteArray
def wkT(P:Pg)(f:Nat)(steps:Int)(st:St)(x:LSg)(id:Int):Option (Tr×St×LSg):=(rdT P f steps st id).bind fun y=>(orT y.1 true x).map fun z=>(y.1,y.2,z)
def wkK(r:St->LSg->Int->Option (Tr×St×LSg)):List (ByteArray×Int)->Bool->St->LSg->Option (Tr×St×LSg)
 |[],_,st,x=>some (.nil,st,x)
 |(s,id)::ls,b,st,x=>if b=true\/sl x.1 s=true then(r st (x.1,if b=true then x.2 else s) id).bind fun y=>(wkK r ls false y.2.1 y.2.2).map fun z=>(.cons s y.1 z.1,z.2)else none
theorem xw(P f steps):∀(ls:List (ByteArray×Int))(b:Bool)(a:St)(x:LSg),wkK (wkT P f steps) ls b a x=(rdK (rdT P f steps) ls a).bind fun y=>(orT y.1 b x).map fun z=>(y.1,y.2,z)
 |[],b,a,x=>by simp[wkK,rdK,orT]
 |(s,id)::ls,b,a,x=>by
  rw[wkK,rdK];cases hr:rdT P f steps a id with
  |none=>
   simp only[Option.bind_none];split
   ·simp[wkT,hr]
   ·rfl
  |some y=>
   simp only[nn];by_cases d:b=true\/sl x.1 s=true
   ·rw[qb d];cases e:orT y.1 true (x.1,if b=true then x.2 else s)with
    |none=>
     have g:wkT P f steps a (x.1,if b=true then x.2 else s) id=none:=by simp only[wkT,hr,nn,e,Option.map_none]
     rw[g,Option.bind_none];cases h:rdK (rdT P f steps) ls y.2 with
     |none=>rfl
     |some z=>
      simp only[nn];have c:orT (.cons s y.1 z.1) b x=none:=by rw[orT,qb d,e];rfl
      rw[c]
      rfl
    |some o=>
     have g:wkT P f steps a (x.1,if b=true then x.2 else s) id=some (y.1,y.2,o):=by simp only[wkT,hr,nn,e,Option.map_some]
     rw[g,nn,xw P f steps ls false y.2 o];cases h:rdK (rdT P f steps) ls y.2 with
     |none=>rfl
     |some z=>
      simp only[nn];have c:orT (.cons s y.1 z.1) b x=orT z.1 false o:=by rw[orT,qb d,e];rfl
      rw[c];cases orT z.1 false o<;>rfl
   ·rw[q4 d];cases h:rdK (rdT P f steps) ls y.2 with
    |none=>rfl
    |some z=>
     simp only[nn];have c:orT (.cons s y.1 z.1) b x=none:=by rw[orT,q4 d]
     rw[c]
     rfl
def leR(l:List Int)(x:LSg):Option (List (ByteArray×ByteArray)×LSg):=(lfP l).bind fun es=>if es.isEmpty then none else(orE es x).map fun z=>(es,z)
theorem G7{P f steps a x id}(h:eB P a id=false):wkT P (f+1) steps a x id=none:=by
 unfold wkT;rw[rdT,q4 (by rw[h];decide)]
 rfl
theorem G9{P f steps a x id}(h:P.kd id=2)(b:¬(a.tall<0\/a.tall=steps)):wkT P (f+1) steps a x id=none:=by
 unfold wkT;rw[rdT];cases eB P a id with
 |true=>rw[qb rfl,qb h,q4 b];rfl
 |false=>rfl
theorem xx{P f steps a x id}(b:eB P a id=true)(h:P.kd id=2)(c:a.tall<0\/a.tall=steps):wkT P (f+1) steps a x id=(leR (P.bd id) x).map fun y=>(.leaf id y.1,⟨id::a.seen,steps⟩,y.2):=by
 unfold wkT leR;rw[rdT,qb b,qb h,qb c];cases lfP (P.bd id)with
 |none=>rfl
 |some es=>
  simp only[nn];cases d:es.isEmpty with
  |true=>rfl
  |false=>
   simp only[Bool.false_eq_true,if_false,nn,orT];cases orE es x<;>rfl
theorem Ha{P f steps a x id}(b:eB P a id=true)(h:P.kd id≠2):wkT P (f+1) steps a x id=(inP (P.bd id)).bind fun ls=>(wkK (wkT P f (steps+1)) ls true ⟨id::a.seen,a.tall⟩ x).map fun y=>(.node id y.1,y.2.1,y.2.2):=by
 unfold wkT;rw[rdT,qb b,q4 h];cases inP (P.bd id)with
 |none=>rfl
 |some ls=>
  simp only[nn];rw[show(fun a x id=>(rdT P f (steps+1) a id).bind fun y=>(orT y.1 true x).map fun z=>(y.1,y.2,z))=wkT P f (steps+1)from rfl,xw];cases rdK (rdT P f (steps+1)) ls ⟨id::a.seen,a.tall⟩with
  |none=>rfl
  |some y=>
   simp only[Option.map_some,nn,orT];cases orT y.1 true x<;>rfl
def ft:List (ByteArray×Tr)->Tr->Tr
 |[],r=>r
 |x::xs,r=> .cons x.1 x.2 (ft xs r)
theorem xy(xs x r):ft (xs++[x]) r=ft xs (.cons x.1 x.2 r):=by
 induction xs with
 |nil=>rfl
 |cons y a ih=>simp only[List.cons_append,ft,ih]
theorem Hb(x y:Nat)(a:y<256):bits .or .u32 ((x:Int)*256%4294967296) (y:Int)=((x*256%4294967296+y:Nat):Int):=by
 have e:=u32_or_nat (x*256%4294967296) y (m8 _ kH) kH;rw[nat_join 8 _ _ kH kH]at e;rw[<-e];simp
theorem Hc(a b c d:Nat):((((a:Int)+(b:Int))%4294967296+(c:Int))%4294967296+(d:Int))%4294967296=(((a+b+c+d)%4294967296:Nat):Int):=by
 omega
theorem OnlyB.drewN{g w w'}(h:OnlyB g w w')(n):OnlyB g w (w'.drewN n):=⟨h.os,h.tape,h.output,h.size,h.block⟩
theorem Hd(b s v a w)(H:IsH w b v a s):
 Calls prog 241 #[.pointer (some ⟨b,0,none⟩)] w fun e w'=>e= .returned (.agg (ow (fr (wAt a))).toArray)/\Below w.1.size w w':=by
 have O:=H.len;have N:∀(L:World),Below w.1.size w L->∀j ba,(ob a)[j]?=some ba->L.cell? ⟨b,8+j,none⟩=some ba:=fun L G j ba aw=>by
  rw[G.cell (p:=⟨b,8+j,none⟩) H.blk.lt,H.blk.cell];have an:j<64:=by have:=(lb.1 aw).1;rw[au]at this;omega
  rw[Fj v a s j O an,<-aw];exact(de? a j kH).symm
 go_enter func241,ntmps241;have J:Blk ((w.alloc (.cells (ow (fr (fun _=>0))).toArray 337)).alloc (.cells (ow (fr (fun _=>0))).toArray 337)) 337 w.1.size (ow (fr (fun _=>0))):=(ao w 337 (ow (fr (fun _=>0))).toArray).below (bAl _ _);have K:Blk ((w.alloc (.cells (ow (fr (fun _=>0))).toArray 337)).alloc (.cells (ow (fr (fun _=>0))).toArray 337)) 337 (w.1.size+1) (ow (fr (fun _=>0))):=heap_alloc2_new w _ _;have V:Below w.1.size w ((w.alloc (.cells (ow (fr (fun _=>0))).toArray 337)).alloc (.cells (ow (fr (fun _=>0))).toArray 337)):=eT w _ _;go_upto_region 2 with fail
 change Code.wp _ _ _ _ ((w.alloc (.cells (ow (fr (fun _=>0))).toArray 337)).alloc (.cells (ow (fr (fun _=>0))).toArray 337));generalize ((w.alloc (.cells (ow (fr (fun _=>0))).toArray 337)).alloc (.cells (ow (fr (fun _=>0))).toArray 337))=L at*;have M:=N L V;have z:=H.byte;have E:=kG J (kR K (kR V z));have aO:(prog.info? 313).map (·.size)=some (ob a).length:=by rw[au,O];exact Fk
 clear J K V N H;go_wp2_with (refine dm rfl 313 _ rfl b 8 rfl (ob a) _ M underlying313 rfl aO ?_);clear M aO;go_loopw [15] (fun i wr=> ∃j,j<=64/\i= .int .i64 (j:Nat)/\OnlyB (w.1.size+1) L wr/\Blk wr 337 (w.1.size+1) (ow (fr (spF a j)))) (fun i _=>64-(intOf i).toNat)
 case atStart=>exact⟨0,kX _,rfl,OnlyB.refl _ _,E.out.2.1⟩
 case round=>
  obtain⟨j,an,rfl,o,l⟩:=hrel;by_cases C:j<64
  ·have a2:=fun w=>oE w 313 5 64 (ob a) j _ underlying313 _ sM rfl vT C (de? a j kH);have bv:wr.cell? ⟨w.1.size+1,j/4,none⟩=some (.int .u32 (spF a j (j/4):Nat)):=by
    rw[l.cell,iH? _ _ (by rw[kq];omega),rK _ _ kH]
   have bw:=l.free (j/4);have a3:(j:Int)<64:=kH;have bd:(j:Int)/4<64:=kH;have am:=z j;obtain⟨P,U⟩:∃P:Nat,a.getD j 0=(P:Int):=⟨(a.getD j 0).toNat,kH⟩;rw[U]at a2 am;have be:=Hb (spF a j (j/4)) P kH;have t:=l.set (j/4) (.int .u32 ((spF a j (j/4)*256%4294967296+P:Nat):Int));have B:spF a j (j/4)*256%4294967296+P=spF a (j+1) (j/4):=by rw[spF,qb rfl,U];rfl
   rw[rF,B,vV (spF a j) (spF a (j+1)) (j/4) (fun k=>by
    by_cases e:k=j/4
    ·rw[qb e,e]
    ·rw[q4 e,spF,q4 e])]at t
   rw[<-B]at t;have D:=o.trans (aB wr (w.1.size+1) (j/4) (.int .u32 ((spF a j (j/4)*256%4294967296+P:Nat):Int)));have u:=kG t D;clear t D B l o U;generalize spF a j (j/4)*256%4294967296+P=Z at*;generalize spF a j (j/4)=bP at*;go_wp2;go_roundw
   case rel=>exact⟨j+1,kH,by go_num,u.out.2,u.out.1⟩
   case measure=>simp[intOf];omega
  ·have bc:64<=j:=kH;have A:Blk wr 337 (w.1.size+1) (ow (fr (wF a 16))):=by
    have e:fr (spF a j)=fr (wF a 16):=vW fun k l=>by
     rw[show j=64 by omega,Fn a z k,wF];by_cases h:k<16
     ·rw[qb h,qb h,rs a h]
     ·rw[q4 h,q4 h]
    rw[<-e];exact l
   clear l C;go_wp2;go_loopw [6] (fun i wr=> ∃c,16<=c/\c<=64/\i= .int .i64 (c:Nat)/\OnlyB (w.1.size+1) L wr/\Blk wr 337 (w.1.size+1) (ow (fr (wF a c)))) (fun i _=>64-(intOf i).toNat)
   case atStart=>exact⟨16,kE,kH,rfl,o,A⟩
   case round=>
    clear o A;obtain⟨c,a4,bf,rfl,o,l⟩:=hrel;by_cases C:c<64
    ·obtain⟨x,y,p,q,S,T,Q,R,G⟩:=vY a c a4;have m:∀k,k<c->wr.cell? ⟨w.1.size+1,k,none⟩=some (.int .u32 (wAt a k:Nat)):=fun k ar=>by
      rw[l.cell,iH? _ _ (by rw[kq];omega),rK _ _ kH,wF,qb ar]
     have hx:x<4294967296:=by rw[S];exact jg z _
     have I:y<4294967296:=by rw[T];exact jg z _
     have bx:p<4294967296:=by rw[Q];exact jg z _
     have bz:q<4294967296:=by rw[R];exact jg z _
     have ag:=m (c-15) kH;have ah:=m (c-2) kH;have ae:=m (c-7) kH;have af:=m (c-16) kH;have bs:wr.cell? ⟨w.1.size+1,c,none⟩=some (.int .u32 ((fr (wF a c)).getD c 0:Nat)):=by rw[l.cell,iH? _ _ (by rw[kq];omega)]
     have bu:=l.free c;rw[<-S]at ag;rw[<-T]at ah;rw[<-Q]at ae;rw[<-R]at af;have u:Hid (∀n,Blk ((wr.drewN n).setCell ⟨w.1.size+1,c,none⟩ (.int .u32 ((((((sg1 y:Nat):Int)+((p:Nat):Int))%4294967296+((sg0 x:Nat):Int))%4294967296+((q:Nat):Int))%4294967296))) 337 (w.1.size+1) (ow (fr (wF a (c+1))))/\OnlyB (w.1.size+1) L ((wr.drewN n).setCell ⟨w.1.size+1,c,none⟩ (.int .u32 ((((((sg1 y:Nat):Int)+((p:Nat):Int))%4294967296+((sg0 x:Nat):Int))%4294967296+((q:Nat):Int))%4294967296)))):=fun n=>by
      have ap:Blk (wr.drewN n) 337 (w.1.size+1) (ow (fr (wF a c))):=l;have t:=ap.set c (.int .u32 (wAt a c:Nat));have B:wAt a c=wF a (c+1) c:=by rw[wF,qb kH]
      rw[rF,B,vV (wF a c) (wF a (c+1)) c (fun k=>by
       by_cases e:k=c
       ·rw[qb e,e]
       ·rw[q4 e,wF,wF];by_cases h:k<c
        ·rw[qb h,qb kH]
        ·rw[q4 h,q4 kH])]at t
      rw[<-B]at t;have D:=(o.drewN n).trans (aB (wr.drewN n) (w.1.size+1) c (.int .u32 (wAt a c:Nat)));rw[G,<-Hc]at t D;exact⟨t,D⟩
     clear l o m;have X:=di (r:=7) kH hx;have Y:=di (r:=18) kH hx;have ab:=di (r:=17) kH I;have ac:=di (r:=19) kH I;have J:=sX _ _ X Y;have K:=sX _ _ ab ac;have a5:bits .xor .u32 ((az 7 x^^^az 18 x:Nat):Int) ((x:Int)/8)=(sg0 x:Nat):=sX _ (x/8) (xlt X Y) kH;have a6:bits .xor .u32 ((az 17 y^^^az 19 y:Nat):Int) ((y:Int)/1024)=(sg1 y:Nat):=sX _ (y/1024) (xlt ab ac) kH;have F:=kG (fun w=>iT x 7 w kH kH hx) (kR (fun w=>iT x 18 w kH kH hx) (kR (fun w=>iT y 17 w kH kH I) (fun w=>iT y 19 w kH kH I)));clear S T Q R G;generalize az 7 x^^^az 18 x=bH at*;generalize az 17 y^^^az 19 y=bN at*;generalize az 7 x=bi at*;generalize az 18 x=bj at*;generalize az 17 y=bk at*;generalize az 19 y=bl at*;generalize sg0 x=bn at*;generalize sg1 y=bp at*;generalize (fr (wF a c)).getD c 0=bq at*;have ai:(c:Int)-15=((c-15:Nat):Int):=kH;have a1:(c:Int)-2=((c-2:Nat):Int):=kH;have aH:((c-15:Nat):Int)<64:=kH;have a8:((c-2:Nat):Int)<64:=kH;go_wp2_with fail
     go_quiet (fail)
     clear ai a1 aH a8;go_wp2_with fail;refine(F.out.1 _).mono ?_;rintro e w1 ⟨rfl,rfl⟩;go_wp2_with fail;refine(F.out.2.1 _).mono ?_;rintro e w1 ⟨rfl,rfl⟩;go_wp2_with fail;refine(F.out.2.2.1 _).mono ?_;rintro e w1 ⟨rfl,rfl⟩;go_wp2_with fail;refine(F.out.2.2.2 _).mono ?_;rintro e w1 ⟨rfl,rfl⟩;go_wp2_with fail;have bt:IntKind.i64.wrap ((c:Int)-7)=((c-7:Nat):Int):=by rw[jG kH kH];omega
     have bb:IntKind.i64.wrap ((c:Int)-16)=((c-16:Nat):Int):=by rw[jG kH kH];omega
     have bE:((c-7:Nat):Int)<64:=kH;have bg:((c-16:Nat):Int)<64:=kH;have bF:0<=((c-7:Nat):Int):=kH;have bh:0<=((c-16:Nat):Int):=kH;clear J K a5 a6 X Y ab ac ag ah;refine ay (fun v=>v.cell? ⟨w.1.size+1,c-7,none⟩=some (.int .u32 (p:Nat))/\v.cell? ⟨w.1.size+1,c-16,none⟩=some (.int .u32 (q:Nat))) (fun j=>j==15) kO ?_;have d:=kR ae af;refine aa 0 d ?_;refine aa 1 d ?_;refine aa 2 d ?_;refine aa 3 d ?_;refine aa 4 d ?_;refine aa 5 d ?_;refine aa 6 d ?_;refine aa 7 d ?_;refine aa 8 d ?_;refine aa 9 d ?_;refine aa 10 d ?_;refine aa 11 d ?_;refine aa 12 d ?_;refine aa 13 d ?_;refine aa 14 d ?_;refine aT 15 kO rfl (fun aX ak=> ?_);go_simp;refine al ak ?_;clear ak aX;refine ax ?_;go_wp2;go_roundw
     case rel=>exact⟨c+1,kH,kH,by go_num,(u.out _).2,(u.out _).1⟩
     case measure=>simp[intOf];omega
    ·have e:c=64:=kH;subst e;have A:Blk wr 337 (w.1.size+1) (ow (fr (wAt a))):=by
      rw[<-vW (f:=wF a 64) (g:=wAt a) (fun k l=>by rw[wF,qb l])];exact l
     have W:=E.out.1.only o kH;have ad:(prog.info? 337).map (·.size)=some (ow (fr (wAt a))).toArray.size:=by rw[rG,kq];exact Fl
     have a7:=W.setRow (ow (fr (wAt a)));have a9:=aN wr w.1.size (ow (fr (wAt a))).toArray;have a0:=
      (E.out.2.2.1.trans (o.below kH E.out.2.2.1.size)).trans (a9.below kE (Nat.le_of_lt W.lt))
     go_upto_region 14 with fail
     go_wp2_with (first|(refine qi rfl 337 _ rfl (w.1.size+1) rfl 337 (ow (fr (wAt a))).toArray (0,0) _ A underlying337 rfl ad ?_)|(refine qB rfl 337 _ _ rfl w.1.size (ow (fr (wAt a))).toArray rfl rfl 337 _ W ad ?o1 (vQ _) ?_))
     case o1=>rw[rG,rG,kq,kq]
     refine p6 (v:= .agg (ow (fr (wAt a))).toArray) ?_ rfl ⟨rfl,a0⟩;exact r3 results241 _ _ w.1.size 337 (ow (fr (wAt a))).toArray (0,0) _ rfl a7 underlying337 rfl ad
theorem mQ(a b:Nat)(c:a<4294967296)(d:b<4294967296):bits .and .i64 (a:Int) (b:Int)=((a&&&b:Nat):Int):=by
 have hx:a&&&b<4294967296:=alt c;show IntKind.i64.wrap ((BitVec.ofInt 64 (a:Int)&&&BitVec.ofInt 64 (b:Int)).toNat:Int)= _;rw[BitVec.toNat_and,ofInt_u64 a kH,ofInt_u64 b kH];simp[IntKind.wrap,IntKind.bits,IntKind.signed];omega
def nI(l:List Nat):List Int:=l.map fun n:Nat=>(n:Int)
def rI(v:R8):List Int:=nI v.list
def kI:List Int:=nI kW
theorem He(i)(h:i<64):kI.getD i 0=(kW.getD i 0:Nat):=by
 have h':i<kW.length:=h;simp[kI,nI,List.getD,h']
theorem xz(i):kW.getD i 0<4294967296:=by
 by_cases h:i<kW.length
 ·have:=oW.1 (show kW.all (fun x=>decide (x<4294967296))=true by decide) (kW[i]) (o2 h);simpa [List.getD,h]using this
 ·simp[List.getD,h]
theorem Hf(w):
 Calls prog 215 #[] w fun e w'=> ∃g,e= .returned (.slice (some ⟨g,0,none⟩) 64 64)/\Below w.1.size w w'/\OwnI w.1.size w' (some ⟨g,0,none⟩) 64 64 kI:=by
 go_enter func215,ntmps215;go_wp2;go_ret;refine⟨w.1.size,rfl,bAl _ _,?_⟩;exact mF w _ kI 64 rfl rfl kH _ kE
theorem Hg{w t rest o b N}(A:o.guard=none)(s x)(K:o.op= .call {callee:= .builtin .append,args:=#[s,x],argTypes:=#[119,119]})(B G a n c xs)(L:b.eval s= .slice a n c)(r:OwnI B w a n c xs)(g m d l)(hx:b.eval x= .slice (some ⟨g,0,none⟩) m d)(v:OwnI G w (some ⟨g,0,none⟩) m d l)(Q:n+m<=1048576)(y:B<=w.1.size)(h:∀f p w',OwnI B w' f (n+m) p (xs++l)->Below B w w'->wpList prog t N rest (b.put o.dst (.slice f (n+m) p)) w'):wpList prog t N (o::rest) b w:=by
 obtain⟨i,I,D,E,F⟩:=sk rk;refine wpList_append_own w A s x _ K B 3 i _ 1 8 sS I D E F rfl kH _ n (oi xs) L r ⟨g,0,none⟩ m d (oi l) hx (by have:=v.len;simp[oi];omega) ?_ (vr _) (by unfold maxLen;omega) kH y ?_
 ·intro j R u;have C:j<l.length:=by have:=(lb.1 u).1;simpa [oi]using this
  rw[vq? l j C]at u;rw[sj,ld,v.cell j (by have:=v.len;omega)];exact u
 ·intro v' w' q z _;have e:oi xs++oi l=oi (xs++l):=by simp[oi]
  rw[e]at q;have M:∃f p,v'= .slice f (n+m) p:=by
   rcases q.2 with⟨rfl,H⟩|⟨g,O,P,rfl,_⟩
   ·exact⟨none,0,by rw[H]⟩
   ·exact⟨_,_,rfl⟩
  obtain⟨f,p,rfl⟩:=M;exact h f p w' q (kF.grown z y (fun k J=>(qX r k J).1))
theorem xB(v j)(h:j<8):(rI v).getD j 0=(v.list.getD j 0:Nat):=by
 have h':j<v.list.length:=h;simp[rI,nI,List.getD,h']
theorem R8.Ok.at{v:R8}(h:v.Ok)(j):v.list.getD j 0<4294967296:=by
 rcases j with _|_|_|_|_|_|_|_|j
 ·exact h.a
 ·exact h.b
 ·exact h.c
 ·exact h.d
 ·exact h.e
 ·exact h.f
 ·exact h.g
 ·exact h.h
 ·simp[R8.list,List.getD]
def jl(R V:R8)(j:Nat):List Int:=(List.range 8).map fun q=>if q<j then(((R.list.getD q 0+V.list.getD q 0)%4294967296:Nat):Int)else((R.list.getD q 0:Nat):Int)
theorem Hh(a V):jl a V 0=rI a:=rfl
theorem Hi(a V):jl a V 8=rI (a.add V):=rfl
theorem Hj(a V j)(h:j<8):(jl a V j).getD j 0=((a.list.getD j 0:Nat):Int):=by
 simp only[jl,List.getD,pb,List.getElem?_range h,Option.map_some,Option.getD_some,q4 (oP j)]
theorem Hk(b V j)(h:j<8):(jl b V j).set j (((b.list.getD j 0+V.list.getD j 0)%4294967296:Nat):Int)=jl b V (j+1):=by
 apply oS
 ·simp[jl]
 ·intro i c d;rw[List.getElem_set];simp only[jl,List.getElem_map,List.getElem_range];by_cases e:j=i
  ·subst e;rw[qb rfl,qb kH]
  ·rw[q4 e];by_cases a:i<j
   ·rw[qb a,qb kH]
   ·rw[q4 a,q4 kH]
theorem Hl(a b:Nat)(c:a<4294967296)(d:b<4294967296):(wrap64 ((a:Int)+(b:Int))).tmod 4294967296=(((a+b)%4294967296:Nat):Int):=by
 rw[mI kH kH,Int.tmod_eq_emod_of_nonneg kH];omega
theorem OwnI.eight{B g c w v}(h:OwnI B w (some ⟨g,0,none⟩) 8 c (rI v)):
 w.cell? ⟨g,0,none⟩=some (.int .i64 (v.a:Nat))/\w.cell? ⟨g,1,none⟩=some (.int .i64 (v.b:Nat))/\w.cell? ⟨g,2,none⟩=some (.int .i64 (v.c:Nat))/\w.cell? ⟨g,3,none⟩=some (.int .i64 (v.d:Nat))/\
 w.cell? ⟨g,4,none⟩=some (.int .i64 (v.e:Nat))/\w.cell? ⟨g,5,none⟩=some (.int .i64 (v.f:Nat))/\w.cell? ⟨g,6,none⟩=some (.int .i64 (v.g:Nat))/\w.cell? ⟨g,7,none⟩=some (.int .i64 (v.h:Nat)):=
 ⟨h.cell 0 kH,h.cell 1 kH,h.cell 2 kH,h.cell 3 kH,h.cell 4 kH,h.cell 5 kH,h.cell 6 kH,h.cell 7 kH⟩
theorem Hm{w g}{v:R8}(h:Blk w 312 g (ow v.list)):
 w.cell? ⟨g,0,none⟩=some (.int .u32 (v.a:Nat))/\w.cell? ⟨g,1,none⟩=some (.int .u32 (v.b:Nat))/\w.cell? ⟨g,2,none⟩=some (.int .u32 (v.c:Nat))/\w.cell? ⟨g,3,none⟩=some (.int .u32 (v.d:Nat))/\
 w.cell? ⟨g,4,none⟩=some (.int .u32 (v.e:Nat))/\w.cell? ⟨g,5,none⟩=some (.int .u32 (v.f:Nat))/\w.cell? ⟨g,6,none⟩=some (.int .u32 (v.g:Nat))/\w.cell? ⟨g,7,none⟩=some (.int .u32 (v.h:Nat)):=
 ⟨h.cell 0,h.cell 1,h.cell 2,h.cell 3,h.cell 4,h.cell 5,h.cell 6,h.cell 7⟩
theorem Hn(e)(a:e<4294967296):e^^^4294967295=4294967295-e:=by
 have h:=rx BitVec.toNat (BitVec.xor_allOnes (x:=BitVec.ofNat 32 e));rw[BitVec.toNat_xor,BitVec.toNat_not,BitVec.toNat_allOnes,BitVec.toNat_ofNat,Nat.mod_eq_of_lt kH]at h;exact h
theorem Ho(e:Nat)(a:e<4294967296):bits .xor .u32 (if IntKind.u32.signed=true then -1 else IntKind.u32.max) (e:Int)=((4294967295-e:Nat):Int):=by
 have h:=sX 4294967295 e kH a;rw[Nat.xor_comm,Hn e a]at h;exact h
def ie(R V:R8)(j:Nat):List Nat:=(List.range 8).map fun q=>if q<j then(R.list.getD q 0+V.list.getD q 0)%4294967296 else V.list.getD q 0
theorem Hp(a V):ie a V 0=V.list:=rfl
theorem sw(a V j):(ie a V j).length=8:=by simp[ie]
theorem Hq(a V j)(h:j<8):(ie a V j).getD j 0=V.list.getD j 0:=by
 simp only[ie,List.getD,pb,List.getElem?_range h,Option.map_some,Option.getD_some,q4 (oP j)]
theorem Hr(b V j)(h:j<8):(ie b V j).set j ((b.list.getD j 0+V.list.getD j 0)%4294967296)=ie b V (j+1):=by
 apply oS
 ·simp[ie]
 ·intro i c d;rw[List.getElem_set];simp only[ie,List.getElem_map,List.getElem_range];by_cases e:j=i
  ·subst e;rw[qb rfl,qb kH]
  ·rw[q4 e];by_cases a:i<j
   ·rw[qb a,qb kH]
   ·rw[q4 a,q4 kH]
theorem Hs{w1 wr g a xs cells}(d:OnlyB g w1 wr)(e:Blk wr 312 g a)(n)(c:cells=xs.toArray):OnlyB g w1 ((wr.drewN n).setRow g cells)/\Blk ((wr.drewN n).setRow g cells) 312 g xs:=by
 subst c;have b:Blk (wr.drewN n) 312 g a:=e;exact⟨(d.drewN n).trans (aN _ g _),b.setRow xs⟩
theorem eM{P b rest o a w c}(e:o.guard=none)(h:∀K:Act->World->Prop,Shut (∀a w,wpList P b c rest a w->K a w)->o.wp P a w K c):wpList P b c (o::rest) a w:=
 sH e fun K d=>h K d
theorem Ht(a b c d e f g h):(#[.int .u32 a,.int .u32 b,.int .u32 c,.int .u32 d,.int .u32 e,.int .u32 f,.int .u32 g,.int .u32 h]:Array Value).all (·.oneCell')=true:=kO
theorem sz8(a b c d e f g h):(prog.info? 312).map (·.size)=some (#[.int .u32 a,.int .u32 b,.int .u32 c,.int .u32 d,.int .u32 e,.int .u32 f,.int .u32 g,.int .u32 h]:Array Value).size:=lI
theorem Hu(v:R8)(a b c d e f g h):(ow v.list).toArray.size=(#[.int .u32 a,.int .u32 b,.int .u32 c,.int .u32 d,.int .u32 e,.int .u32 f,.int .u32 g,.int .u32 h]:Array Value).size:=rfl
theorem M5(a b c d e f g h):prog.built 312 [(0,.int .u32 a),(1,.int .u32 b),(2,.int .u32 c),(3,.int .u32 d),(4,.int .u32 e),(5,.int .u32 f),(6,.int .u32 g),(7,.int .u32 h)]=some #[.int .u32 a,.int .u32 b,.int .u32 c,.int .u32 d,.int .u32 e,.int .u32 f,.int .u32 g,.int .u32 h]:=kO
theorem xD(b s v d w)(T:Tabs w)(H:IsH w b v d s):
 Calls prog 217 #[.pointer (some ⟨b,0,none⟩)] w fun e w'=>e= .returned (.tuple #[])/\OnlyB b w w'/\IsH w' b (kj v d) d s:=by
 have cH:=H.byte;have bi:=H.ok;have bs:∀j bE,(ow v.list)[j]?=some bE->w.cell? ⟨b,0+j,none⟩=some bE:=fun j bE bp=>by
  have aO:j<8:=(lb.1 bp).1;rw[ld,H.blk.cell,vS v d s j aO,<-bp];exact(iH? v.list j aO).symm
 have k0:=ao w 312 (ow v.list).toArray;have ag:=bAl w (.cells (ow v.list).toArray 312);go_enter func217,ntmps217;go_wp2_with (first|(refine dm rfl 312 _ rfl b 0 rfl (ow v.list) _ bs underlying312 rfl lI ?_)|(refine aL rfl 312 _ _ rfl w _ (ow v.list).toArray 312 rfl rfl lI rfl (vQ _) ?_));have a3:=H.below ag;refine(Hd b s v d _ a3).mono ?_;rintro e w1 ⟨rfl,ah⟩;have bt:=k0.below ah;have G:=ag.trans (ah.mono kP);have ba:=T.below G;have a4:=H.below G;have X:=T.lt;have W:=H.blk.lt;have o:=kG bt (kR G (kR ba a4));clear k0 ag a3 ah bt G ba a4 bs T H;go_wp2;go_loopw [17] (fun i wr=> ∃k,k<=64/\i= .int .i64 (k:Nat)/\OnlyB w.1.size w1 wr/\Blk wr 312 w.1.size (ow (fq v d k).list)) (fun i _=>64-(intOf i).toNat)
 case atStart=>exact⟨0,kX _,rfl,OnlyB.refl _ _,o.out.1⟩
 case round=>
  obtain⟨k,bk,rfl,m,O⟩:=hrel;by_cases y:k<64
  ·have bh:=mH bi d k;have bj:=fun w=>
    oE w 337 311 64 (ow (fr (wAt d))) k _ underlying337 _ underlying311 rfl rH y (by rw[iH? _ _ (by rw[kq];exact y),rK _ _ y])
   have Tr:=o.out.2.2.1.only m kH kH;have b5:=Tr.k k y;have a:=xz k;have af:Hid (fq v d (k+1)=rnd (fq v d k) (kW.getD k 0) (wAt d k)):=rfl;have R:=kG m O;obtain⟨hA,I,aH,b1,u,be,bf,b2⟩:=bh;obtain⟨ai,ak,am,an,ap,ar,aw,bc⟩:=Hm O;have b4:(k:Int)<64:=kH;clear Tr m O;generalize fq v d k=E at*;obtain⟨f,h,C,bP,g,M,N,L⟩:=E;simp only at hA I aH b1 u be bf b2 ai ak am an ap ar aw bc;generalize kW.getD k 0=K at*;generalize wAt d k=bb at*;have aX:=di (r:=6) kH u;have P:=di (r:=11) kH u;have Y:=di (r:=25) kH u;have V:=di (r:=2) kH hA;have J:=di (r:=13) kH hA;have Q:=di (r:=22) kH hA;have ce:=sX _ _ aX P;have cf:bits .xor .u32 ((az 6 g^^^az 11 g:Nat):Int) (az 25 g:Nat)=(bs1 g:Nat):=sX _ _ (xlt aX P) Y;have bH:=sX _ _ V J;have bN:bits .xor .u32 ((az 2 f^^^az 13 f:Nat):Int) (az 22 f:Nat)=(bs0 f:Nat):=sX _ _ (xlt V J) Q;have cb:=Ho g u;have bS:=u32_and_nat g M u be;have bY:=u32_and_nat (4294967295-g) N kH bf;have b0:bits .xor .u32 ((g&&&M:Nat):Int) ((4294967295-g&&&N:Nat):Int)=(chf g M N:Nat):=sX _ _ (alt u) (alt kH);have b6:=u32_and_nat f h hA I;have b7:=u32_and_nat f C hA aH;have b8:=u32_and_nat h C I aH;have b9:=sX (f&&&h) (f&&&C) (alt hA) (alt hA);have ca:bits .xor .u32 (((f&&&h)^^^(f&&&C):Nat):Int) ((h&&&C:Nat):Int)=(jD f h C:Nat):=sX _ _ (xlt (alt hA) (alt hA)) (alt I);have bz:∀w,Calls prog 242 #[.int .u32 (g:Nat),.int .i64 6] w fun e w'=>e= .returned (.int .u32 (az 6 g:Nat))/\w'=w:=fun w=>iT g 6 w kH kH u;have Z:∀w,Calls prog 242 #[.int .u32 (g:Nat),.int .i64 11] w fun e w'=>e= .returned (.int .u32 (az 11 g:Nat))/\w'=w:=fun w=>iT g 11 w kH kH u;have ad:∀w,Calls prog 242 #[.int .u32 (g:Nat),.int .i64 25] w fun e w'=>e= .returned (.int .u32 (az 25 g:Nat))/\w'=w:=fun w=>iT g 25 w kH kH u;have bx:∀w,Calls prog 242 #[.int .u32 (f:Nat),.int .i64 2] w fun e w'=>e= .returned (.int .u32 (az 2 f:Nat))/\w'=w:=fun w=>iT f 2 w kH kH hA;have ab:∀w,Calls prog 242 #[.int .u32 (f:Nat),.int .i64 13] w fun e w'=>e= .returned (.int .u32 (az 13 f:Nat))/\w'=w:=fun w=>iT f 13 w kH kH hA;have ac:∀w,Calls prog 242 #[.int .u32 (f:Nat),.int .i64 22] w fun e w'=>e= .returned (.int .u32 (az 22 f:Nat))/\w'=w:=fun w=>iT f 22 w kH kH hA;have D:=kG bz (kR Z (kR ad (kR bx (kR ab ac))));clear bz Z ad bx ab ac;have ae:Hid (rnd ⟨f,h,C,bP,g,M,N,L⟩ K bb=⟨((L+bs1 g+chf g M N+K+bb)%4294967296+bs0 f+jD f h C)%4294967296,f,h,C,(bP+(L+bs1 g+chf g M N+K+bb)%4294967296)%4294967296,g,M,N⟩):=rfl;generalize az 6 g^^^az 11 g=cx at*;generalize az 2 f^^^az 13 f=cz at*;generalize az 6 g=cw at*;generalize az 11 g=ch at*;generalize az 25 g=cl at*;generalize az 2 f=cv at*;generalize az 13 f=ci at*;generalize az 22 f=ck at*;generalize bs1 g=a9 at*;generalize bs0 f=U at*;generalize chf g M N=a2 at*;generalize jD f h C=S at*;generalize 4294967295-g=bR at*;generalize (f&&&h)^^^(f&&&C)=cu at*;generalize f&&&h=cr at*;generalize f&&&C=cs at*;generalize h&&&C=ct at*;generalize g&&&M=cp at*;generalize bR&&&N=cq at*;go_upto_region 6 with fail
   clear cb bS bY b0 b6 b7 b8 b9 ca;go_cut [7] (fun cc a1=>cc= .int .u32 (((L+a9+a2+K+bb)%4294967296:Nat):Int)/\∃n,a1=wr.drewN n)
   case first=>
    clear ae af R bH bN V J Q bk y W X o
    go_quiet (first|(go_at_call_of 242 (Value.int IntKind.i64 6);exact sW (D.out.1 _))|(go_at_call_of 242 (Value.int IntKind.i64 11);exact sW (D.out.2.1 _))|(go_at_call_of 242 (Value.int IntKind.i64 25);exact sW (D.out.2.2.1 _)))
    go_wp2_with fail
    go_meet
    exact⟨rx (Value.int .u32) kH,_,rfl⟩
   case rest=>
   obtain⟨rfl,p,rfl⟩:=hcut;have a8:OnlyB w.1.size w1 (wr.drewN p)/\Blk (wr.drewN p) 312 w.1.size (ow (R8.mk f h C bP g M N L).list):=⟨R.out.1.drewN p,R.out.2⟩;have F:Hid _:=a8;have cA:(wr.drewN p).cell? ⟨w.1.size,0,none⟩=some (.int .u32 (f:Nat)):=ai;have cB:(wr.drewN p).cell? ⟨w.1.size,1,none⟩=some (.int .u32 (h:Nat)):=ak;have cC:(wr.drewN p).cell? ⟨w.1.size,2,none⟩=some (.int .u32 (C:Nat)):=am;have cD:(wr.drewN p).cell? ⟨w.1.size,3,none⟩=some (.int .u32 (bP:Nat)):=an;have cE:(wr.drewN p).cell? ⟨w.1.size,4,none⟩=some (.int .u32 (g:Nat)):=ap;have cF:(wr.drewN p).cell? ⟨w.1.size,5,none⟩=some (.int .u32 (M:Nat)):=ar;have cG:(wr.drewN p).cell? ⟨w.1.size,6,none⟩=some (.int .u32 (N:Nat)):=aw;clear ce cf ai ak am an ap ar aw bc b5 bj R a8 aX P Y V J Q;generalize wr.drewN p=a0 at*;generalize (L+a9+a2+K+bb)%4294967296=cg at*;go_upto_region 7 with fail
   go_cut [8] (fun cd a1=>cd= .int .u32 (((U+S)%4294967296:Nat):Int)/\∃n,a1=a0.drewN n)
   case first=>
    clear ae af F bk y W X o
    go_quiet (first|(go_at_call_of 242 (Value.int IntKind.i64 2);exact sW (D.out.2.2.2.1 _))|(go_at_call_of 242 (Value.int IntKind.i64 13);exact sW (D.out.2.2.2.2.1 _))|(go_at_call_of 242 (Value.int IntKind.i64 22);exact sW (D.out.2.2.2.2.2 _)))
    go_wp2_with fail
    go_meet
    exact⟨rx (Value.int .u32) kH,_,rfl⟩
   case rest=>
   obtain⟨rfl,p,rfl⟩:=hcut;have bd:Hid (∀z,(z+(U+S)%4294967296)%4294967296=(z+U+S)%4294967296):=fun z=>by omega
   generalize (U+S)%4294967296=cm at*;go_upto_region 8 with fail
   clear bH bN D;have bq:=F.out.2;refine wp_region_lit ?_;refine eM rfl (fun c a=> ?_);go_simp;refine a.out _ _ ?_;clear a c;refine eM rfl (fun c a=> ?_);go_simp;refine a.out _ _ ?_;clear a c;refine eM rfl (fun c a=> ?_);go_simp;refine a.out _ _ ?_;clear a c;refine eM rfl (fun c a=> ?_);go_simp;refine a.out _ _ ?_;clear a c;refine eM rfl (fun c a=> ?_);go_simp;refine a.out _ _ ?_;clear a c;refine eM rfl (fun c a=> ?_);go_simp;refine a.out _ _ ?_;clear a c;refine eM rfl (fun c a=> ?_);go_simp;refine a.out _ _ ?_;clear a c;refine eM rfl (fun c a=> ?_);go_simp;refine a.out _ _ ?_;clear a c;refine eM rfl (fun c a=> ?_);go_simp;refine a.out _ _ ?_;clear a c;refine eM rfl (fun c a=> ?_);go_simp;refine a.out _ _ ?_;clear a c;refine eM rfl (fun c a=> ?_);go_simp;refine a.out _ _ ?_;clear a c;refine eM rfl (fun c a=> ?_);go_simp;refine a.out _ _ ?_;clear a c;refine eM rfl (fun c a=> ?_);go_simp;refine a.out _ _ ?_;clear a c;refine eM rfl (fun c a=> ?_);go_simp;refine a.out _ _ ?_;clear a c;refine eM rfl (fun c a=> ?_);go_simp;refine a.out _ _ ?_;clear a c;refine eM rfl (fun c a=> ?_);go_simp;refine a.out _ _ ?_;clear a c;refine eM rfl (fun c a=> ?_);go_simp;refine a.out _ _ ?_;clear a c;refine eM rfl (fun c a=> ?_);go_simp;refine a.out _ _ ?_;clear a c;refine eM rfl (fun c a=> ?_);go_simp;refine a.out _ _ ?_;clear a c;refine eM rfl (fun c a=> ?_);go_simp;refine a.out _ _ ?_;clear a c;refine eM rfl (fun c a=> ?_);refine s5 312 _ _ rfl w.1.size _ rfl rfl 312 _ bq ?sz ?sz2 ?all ?_
   case sz=>exact sz8 _ _ _ _ _ _ _ _
   case sz2=>exact Hu _ _ _ _ _ _ _ _ _
   case all=>exact Ht _ _ _ _ _ _ _ _
   refine a.out _ _ ?_;clear a c;go_wp2;go_roundw
   case rel=>
    have key:∀n cells,cells=(ow (fq v d (k+1)).list).toArray->OnlyB w.1.size w1 ((a0.drewN n).setRow w.1.size cells)/\Blk ((a0.drewN n).setRow w.1.size cells) 312 w.1.size (ow (fq v d (k+1)).list):=fun n cells b3=>Hs F.out.1 F.out.2 n b3;refine⟨k+1,kH,by go_num,key _ _ ?_⟩;rw[af.out,ae.out,<-bd.out];simp[ow,R8.list]
   case measure=>simp[intOf];omega
  ·have co:64<=k:=kH;have bg:kj v d=(fq v d k).add v:=by rw[show k=64 by omega];rfl
   have bh:=mH bi d k;generalize fq v d k=E at*;have a5:Blk wr 315 b (ow (ie E v 0)++(ob d++[.int .i64 (s:Int)])):=by
    rw[Hp];exact o.out.2.2.2.blk.only m kH
   have bu:OnlyB b w wr:=⟨m.os.trans o.out.2.1.os,m.tape.trans o.out.2.1.tape,m.output.trans o.out.2.1.output,k2 o.out.2.1.size m.size,fun q bn cL=>(m.block q (lk bn o.out.2.1.size) kH).trans (o.out.2.1.block q bn)⟩;have bv:(prog.info? 312).map (·.size)=some (ow E.list).toArray.size:=lI;have a6:=o.out.2.2.2;have A:=kG bu (kR a5 (kR a6 bg));go_upto_region 10 with fail
   go_wp2_with (refine qi rfl 312 _ rfl w.1.size rfl 312 (ow E.list).toArray (0,0) _ O underlying312 rfl bv ?_);clear O bv m bu a5 a6 bg;go_loopw [107] (fun i bF=> ∃j,j<=8/\i= .int .i64 (j:Nat)/\OnlyB b w bF/\Blk bF 315 b (ow (ie E v j)++(ob d++[.int .i64 (s:Int)]))) (fun i _=>8-(intOf i).toNat)
   case atStart=>exact⟨0,kX _,rfl,A.out.1,A.out.2.1⟩
   case round=>
    obtain⟨j,aO,rfl,m,B⟩:=hrel;by_cases l:j<8
    ·have bj:=fun w=>
      oE w 312 311 8 (ow E.list) j _ underlying312 _ underlying311 rfl rH l (iH? E.list j l)
     have t:wr.cell? ⟨b,j,none⟩=some (.int .u32 (v.list.getD j 0:Nat)):=by
      rw[B.cell,l7 (by rw[rE,sw];exact l),iH? _ j (by rw[sw];exact l),Hq E v j l]
     have f1:=B.free j;have cn:(j:Int)<8:=kH;have a7:Hid (∀n x,x=(((E.list.getD j 0+v.list.getD j 0)%4294967296:Nat):Int)->OnlyB b w ((wr.drewN n).setCell ⟨b,j,none⟩ (.int .u32 x))/\Blk ((wr.drewN n).setCell ⟨b,j,none⟩ (.int .u32 x)) 315 b (ow (ie E v (j+1))++(ob d++[.int .i64 (s:Int)]))):=fun n x hx=>by
      subst hx;have bl:Blk (wr.drewN n) 315 b (ow (ie E v j)++(ob d++[.int .i64 (s:Int)])):=B;have bw:=bl.set j (.int .u32 (((E.list.getD j 0+v.list.getD j 0)%4294967296:Nat):Int));rw[List.set_append_left _ _ (by rw[rE,sw];exact l),rF,Hr E v j l]at bw;exact⟨(m.drewN n).trans (aB _ b j _),bw⟩
     clear m B;generalize E.list.getD j 0=cM at*;generalize v.list.getD j 0=cy at*;go_wp2_with fail;refine ay (fun bE=>bE.cell? ⟨b,j,none⟩=some (.int .u32 (cy:Nat))) (fun j=>j==11) kO ?_;refine aa 0 t ?_;refine aa 1 t ?_;refine aa 2 t ?_;refine aa 3 t ?_;refine aa 4 t ?_;refine aa 5 t ?_;refine aa 6 t ?_;refine aa 7 t ?_;refine aa 8 t ?_;refine aa 9 t ?_;refine aa 10 t ?_;refine aT 11 kO rfl (fun c a=> ?_);go_simp;refine al a ?_;clear a c;refine ax ?_;go_wp2;go_roundw
     case rel=>exact⟨j+1,kH,by go_num,a7.out _ _ kH⟩
     case measure=>simp[intOf];omega
    ·have e:j=8:=kH;subst e;go_wp2
     go_end0
     refine⟨rfl,m,?_,A.out.2.2.1.len,A.out.2.2.1.byte,?_,A.out.2.2.1.ne1,A.out.2.2.1.ne2⟩
     ·rw[A.out.2.2.2];exact B
     ·rw[A.out.2.2.2];exact vF _ _
theorem Hv(B D a0 V a c q w)(aX:V.Ok)(ad:OwnI B w (some ⟨D,0,none⟩) 8 a0 (rI V))(h:Bs w a 64 c q):
 Calls prog 196 #[.slice (some ⟨D,0,none⟩) 8 a0,.slice a 64 c] w fun e w'=> ∃g ba,e= .returned (.slice (some ⟨g,0,none⟩) 8 ba)/\Below w.1.size w w'/\OwnI w.1.size w' (some ⟨g,0,none⟩) 8 ba (rI (kj V q)):=by
 have bq:=h.byte;have ah:D<w.1.size:=by
  obtain⟨bk,O,_,P⟩:=ad.addr kH;cases O;exact P
 have ag:∀j,j<8->w.cell? ⟨D,j,none⟩=some (.int .i64 (V.list.getD j 0:Nat)):=fun j a1=>by rw[ad.cell j a1,xB V j a1]
 have a7:=kG ag ah;clear ag ah;go_enter func196,ntmps196;go_wp2_with fail;refine(Fq a c q w h).mono ?_;rintro e w1 ⟨gw,cF,rfl,I,ow⟩;go_wp2_with fail;refine(Hf w1).mono ?_;rintro e a6 ⟨cG,rfl,ac,bv⟩;have ak:=ow.below ac;have R:=(ad.below I).below ac;have L:=I.trans (ac.mono I.size);clear ow ad I ac;go_wp2_with (at_builtin;refine Hg rfl _ _ rfl a6.1.size B (some ⟨a6.1.size,0,none⟩) 0 0 [] rfl ?own D 8 a0 (rI V) rfl ?src ?len ?B ?_)
 case own=>exact mF a6 #[] [] 0 rfl rfl kH _ kE
 case src=>exact R.below (bAl _ _)
 case len=>omega
 case B=>simp
 intro a8 bS bw a2 a9;have C:=(bAl _ _).trans a9;have A:=L.trans (C.mono L.size);have U:=ak.below C;have ai:=R.below C;have T:=bv.below C;obtain⟨bY,rfl,q3,_⟩:=a2.addr kH;have M:=OwnI.mono a2 L.size;clear ak R bv a2 a9 C L;go_wp2;go_loopw [7,8] (fun o i wr=> ∃k g c,k<=64/\i= .int .i64 (k:Nat)/\o= .slice (some ⟨g,0,none⟩) 8 c/\Below bw.1.size bw wr/\OwnI w.1.size wr (some ⟨g,0,none⟩) 8 c (rI (fq V q k))) (fun _ i _=>64-(intOf i).toNat)
 case atStart=>exact⟨0,bY,bS,kX _,rfl,rfl,kF,M⟩
 case round=>
  obtain⟨k,g,bb,cL,rfl,rfl,u,s⟩:=hrel;by_cases n:k<64
  ·have aO:=mH aX q k;have bt:=(T.below u).cell k n;have bu:=(U.below u).cell k n;rw[He k n]at bt;rw[mK _ _ _ n]at bu;have z:=xz k;have cH:=jg bq k;have ab:Hid (fq V q (k+1)=rnd (fq V q k) (kW.getD k 0) (wAt q k)):=rfl;obtain⟨hA,Q,aH,b0,t,bl,bn,b1⟩:=aO;obtain⟨bc,bd,be,bf,bg,bh,bi,bj⟩:=s.eight;have ap:Hid _:=u;have bE:=kG A M;have x:g<wr.1.size:=by
    obtain⟨bk,O,_,P⟩:=s.addr kH;cases O;exact P
   clear u U T ai A M s;generalize fq V q k=v at*;obtain⟨l,d,y,Z,m,E,F,G⟩:=v;simp only at hA Q aH b0 t bl bn b1 bc bd be bf bg bh bi bj;generalize kW.getD k 0=K at*;generalize wAt q k=aw at*;have a4:=di (r:=6) kH t;have W:=di (r:=11) kH t;have an:=di (r:=25) kH t;have a3:=di (r:=2) kH hA;have X:=di (r:=13) kH hA;have am:=di (r:=22) kH hA;have b8:=gI _ _ a4 W;have b9:bits .xor .i64 ((az 6 m^^^az 11 m:Nat):Int) (az 25 m:Nat)=(bs1 m:Nat):=gI _ _ (xlt a4 W) an;have ca:=gI _ _ a3 X;have cb:bits .xor .i64 ((az 2 l^^^az 13 l:Nat):Int) (az 22 l:Nat)=(bs0 l:Nat):=gI _ _ (xlt a3 X) am;have co:=En t;have cn:=Em hA;have bH:=mQ m E t bl;have b7:(4294967295:Int)-(m:Int)=((4294967295-m:Nat):Int):=kH;have bN:=mQ (4294967295-m) F kH bn;have a8:bits .xor .i64 ((m&&&E:Nat):Int) ((4294967295-m&&&F:Nat):Int)=(chf m E F:Nat):=gI _ _ (alt t) (alt kH);have b2:=mQ l d hA Q;have b3:=mQ l y hA aH;have b4:=mQ d y Q aH;have b5:=gI (l&&&d) (l&&&y) (alt hA) (alt hA);have b6:bits .xor .i64 (((l&&&d)^^^(l&&&y):Nat):Int) ((d&&&y:Nat):Int)=(jD l d y:Nat):=gI _ _ (xlt (alt hA) (alt hA)) (alt Q);have ch:=Eo (f:=E) (g:=F) t;have cl:=Ep (c:=y) hA Q;have S:(((G:Int)+(bs1 m:Nat)+(chf m E F:Nat)+(K:Nat)+(aw:Nat))%4294967296)=(jE ⟨l,d,y,Z,m,E,F,G⟩ K aw:Nat):=by unfold jE;simp
   have cm:jE ⟨l,d,y,Z,m,E,F,G⟩ K aw<4294967296:=m8 _ kH;have H:=kG (fun w=>iS m 6 w kH t) (kR (fun w=>iS m 11 w kH t) (kR (fun w=>iS m 25 w kH t) (kR (fun w=>iS l 2 w kH hA) (kR (fun w=>iS l 13 w kH hA) (fun w=>iS l 22 w kH hA)))));have bz:Hid (rnd ⟨l,d,y,Z,m,E,F,G⟩ K aw=⟨(jE ⟨l,d,y,Z,m,E,F,G⟩ K aw+bs0 l+jD l d y)%4294967296,l,d,y,(Z+jE ⟨l,d,y,Z,m,E,F,G⟩ K aw)%4294967296,m,E,F⟩):=rfl;generalize jE ⟨l,d,y,Z,m,E,F,G⟩ K aw=cc at*;generalize az 6 m^^^az 11 m=cC at*;generalize az 2 l^^^az 13 l=cE at*;generalize az 6 m=cy at*;generalize az 11 m=cd at*;generalize az 25 m=cg at*;generalize az 2 l=cx at*;generalize az 13 l=ce at*;generalize az 22 l=cf at*;generalize bs1 m=cA at*;generalize bs0 l=cz at*;generalize chf m E F=cr at*;generalize jD l d y=cw at*;generalize 4294967295-m=bF at*;generalize (l&&&d)^^^(l&&&y)=cv at*;generalize l&&&d=cs at*;generalize l&&&y=ct at*;generalize d&&&y=cu at*;generalize m&&&E=cp at*;generalize bF&&&F=cq at*;go_wp2_with fail;refine(H.out.1 _).mono ?_;rintro e Y ⟨rfl,cM,rfl⟩;go_wp2_with fail;refine(H.out.2.1 _).mono ?_;rintro e Y ⟨rfl,cO,rfl⟩;go_wp2_with fail;refine(H.out.2.2.1 _).mono ?_;rintro e Y ⟨rfl,cP,rfl⟩;go_wp2_with fail
   go_quiet (fail)
   go_wp2_with fail
   go_quiet (fail)
   go_wp2_with fail;rw[S];refine(H.out.2.2.2.1 _).mono ?_;rintro e Y ⟨rfl,cR,rfl⟩;go_wp2_with fail;refine(H.out.2.2.2.2.1 _).mono ?_;rintro e Y ⟨rfl,cS,rfl⟩;go_wp2_with fail;refine(H.out.2.2.2.2.2 _).mono ?_;rintro e Y ⟨rfl,cT,rfl⟩;go_wp2_with fail
   go_quiet (fail)
   go_wp2_with fail;clear H bt bu b8 b9 ca cb b7 bH bN a8 b2 b3 b4 b5 b6 S bj a4 W an a3 X am;have ae:Hid (∀v:World,Below wr.1.size wr v->v.cell? ⟨g,0,none⟩=some (.int .i64 (l:Nat))/\v.cell? ⟨g,1,none⟩=some (.int .i64 (d:Nat))/\v.cell? ⟨g,2,none⟩=some (.int .i64 (y:Nat))/\v.cell? ⟨g,3,none⟩=some (.int .i64 (Z:Nat))/\v.cell? ⟨g,4,none⟩=some (.int .i64 (m:Nat))/\v.cell? ⟨g,5,none⟩=some (.int .i64 (E:Nat))/\v.cell? ⟨g,6,none⟩=some (.int .i64 (F:Nat))):=fun v J=>
    ⟨(J.cell (p:=⟨g,0,none⟩) x).trans bc,(J.cell (p:=⟨g,1,none⟩) x).trans bd,(J.cell (p:=⟨g,2,none⟩) x).trans be,(J.cell (p:=⟨g,3,none⟩) x).trans bf,(J.cell (p:=⟨g,4,none⟩) x).trans bg,(J.cell (p:=⟨g,5,none⟩) x).trans bh,(J.cell (p:=⟨g,6,none⟩) x).trans bi⟩
   refine ay (fun v=>v.cell? ⟨g,0,none⟩=some (.int .i64 (l:Nat))/\v.cell? ⟨g,1,none⟩=some (.int .i64 (d:Nat))/\v.cell? ⟨g,2,none⟩=some (.int .i64 (y:Nat))/\v.cell? ⟨g,3,none⟩=some (.int .i64 (Z:Nat))/\v.cell? ⟨g,4,none⟩=some (.int .i64 (m:Nat))/\v.cell? ⟨g,5,none⟩=some (.int .i64 (E:Nat))/\v.cell? ⟨g,6,none⟩=some (.int .i64 (F:Nat))) (fun j=>j==31) kO ?_;have b:=ae.out _ kF;refine aa 0 b ?_;refine aa 1 b ?_;refine aa 2 b ?_;refine aa 3 b ?_;refine aa 4 b ?_;refine aa 5 b ?_;refine aa 6 b ?_;refine aa 7 b ?_;refine aa 8 b ?_;refine aa 9 b ?_;refine aa 10 b ?_;refine aa 11 b ?_;refine aa 12 b ?_;refine aa 13 b ?_;refine aa 14 b ?_;refine aa 15 b ?_;refine aa 16 b ?_;refine aa 17 b ?_;refine aa 18 b ?_;refine aa 19 b ?_;refine aa 20 b ?_;refine aa 21 b ?_;refine aa 22 b ?_;refine aa 23 b ?_;refine aa 24 b ?_;refine aa 25 b ?_;refine aa 26 b ?_;refine aa 27 b ?_;refine aa 28 b ?_;refine aa 29 b ?_;refine aT 30 kO rfl (fun N z=> ?_);go_simp;refine z.out _ _ (fun _=>ae.out _ ((sP kF _).alloc kE _)) ?_;clear z N;refine aT 31 kO rfl (fun N z=> ?_);go_simp;refine al z ?_;clear z N;refine ax ?_;go_wp2;go_roundw
   case rel=>
    refine⟨k+1,_,_,kH,by go_num,rfl,(sP ap.out _).alloc ap.out.size _,?_⟩;rw[ab.out,bz.out];exact mF _ _ _ 8 rfl rfl kH _ (by have:=ap.out.size;have:=bE.out.1.size;show w.1.size<=wr.1.size;omega)
   case measure=>simp[intOf];omega
  ·have ck:64<=k:=kH;have af:=A.trans (u.mono A.size);have aO:=mH aX q k;have bp:kj V q=(fq V q k).add V:=by rw[show k=64 by omega];rfl
   have bs:w.1.size<=g:=by
    obtain⟨bk,O,P,_⟩:=s.addr kH;cases O;exact P
   rw[<-Hh (fq V q k) V]at s;generalize fq V q k=ar at*;clear U ai T M u A n;have bx:Hid _:=bp;clear bp;go_wp2;go_loopw [16] (fun i wr=> ∃j,j<=8/\i= .int .i64 (j:Nat)/\Below w.1.size w wr/\OwnI w.1.size wr (some ⟨g,0,none⟩) 8 bb (jl ar V j)) (fun i _=>8-(intOf i).toNat)
   case atStart=>exact⟨0,kX _,rfl,af,s⟩
   case round=>
    clear s af;obtain⟨j,a1,rfl,u,s⟩:=hrel;by_cases n:j<8
    ·have bP:wr.cell? ⟨g,j,none⟩=some (.int .i64 (ar.list.getD j 0:Nat)):=by rw[s.cell j n,Hj ar V j n]
     have bR:wr.cell? ⟨D,j,none⟩=some (.int .i64 (V.list.getD j 0:Nat)):=by rw[u.cell (p:=⟨D,j,none⟩) a7.out.2];exact a7.out.1 j n
     have f1:=sx s j;have a5:=World.ownsRow.stored s j (.int .i64 (((ar.list.getD j 0+V.list.getD j 0)%4294967296:Nat):Int));rw[DY,Hk ar V j n,<-Hl _ _ (aO.at j) (aX.at j)]at a5;have I:=u.setCell (p:=⟨g,j,none⟩) bs (.int .i64 ((wrap64 ((ar.list.getD j 0:Nat)+(V.list.getD j 0:Nat):Int)).tmod 4294967296));have ab:=kG a5.1 I;have ci:(j:Int)<8:=kH;clear a5 I s u;generalize ar.list.getD j 0=cB at*;generalize V.list.getD j 0=cD at*;go_wp2_with fail;refine ay (fun v=>v.cell? ⟨g,j,none⟩=some (.int .i64 (cB:Nat))/\v.cell? ⟨D,j,none⟩=some (.int .i64 (cD:Nat))) (fun j=>j==13) kO ?_;have b:=kR bP bR;refine aa 0 b ?_;refine aa 1 b ?_;refine aa 2 b ?_;refine aa 3 b ?_;refine aa 4 b ?_;refine aa 5 b ?_;refine aa 6 b ?_;refine aa 7 b ?_;refine aa 8 b ?_;refine aa 9 b ?_;refine aa 10 b ?_;refine aa 11 b ?_;refine aa 12 b ?_;refine aT 13 kO rfl (fun N z=> ?_);go_simp;refine al z ?_;clear z N;refine ax ?_;go_wp2;go_roundw
     case rel=>exact⟨j+1,kH,by go_num,ab.out.2.drew,ab.out.1⟩
     case measure=>simp[intOf];omega
    ·have e:j=8:=kH;subst e;go_wp2;go_ret;refine⟨g,bb,rfl,u,?_⟩;rw[bx.out,<-Hi];exact s
