import Derived.Test.YtnohmedccbogkaaGreatDoorCo33
import Derived.Test.YtnohmedccbogkaaGreatDoorCo34
import Derived.Test.YtnohmedccbogkaaGreatDoorCo31
namespace Go.Proofs.YtnohmedccbogkaaGreatDoor
open Go.Proofs.Tryz
open Go.RowKit
set_option linter.unusedVariables false
set_option maxRecDepth 100000
set_option maxHeartbeats 32000000
theorem Aq{r}(hr:∀b id d a,b.seen.Nodup->r b id=some (d,a)->a.seen.Nodup):∀(ls:List (ByteArray×Int))(b:St)(d:Tr)(a:St),b.seen.Nodup->rdK r ls b=some (d,a)->a.seen.Nodup
 |[],b,d,a,c,h=>by rw[rdK]at h;cases h;exact c
 |(s,id)::ls,b,d,a,c,h=>by
  rw[rdK]at h;obtain⟨x,e,f⟩:=m5.1 h;obtain⟨y,g,i⟩:=m5.1 f;cases i;exact Aq hr ls x.2 y.1 y.2 (hr b id x.1 x.2 c e) g
theorem tR{P}:∀(f:Nat)(steps:Int)(a:St)(id:Int)(k:Tr)(b:St),a.seen.Nodup->rdT P f steps a id=some (k,b)->b.seen.Nodup
 |0,steps,a,id,k,b,_,h=>by rw[rdT]at h;cases h
 |f+1,steps,a,id,k,b,o,h=>by
  rw[rdT]at h;cases d:eB P a id with
  |false=>rw[q4 (by rw[d];decide)]at h;cases h
  |true=>
   rw[qb d]at h;have i:=o9.2 ⟨(gV.1 d).2.2.1,o⟩;by_cases g:P.kd id=2
   ·rw[qb g]at h;by_cases j:a.tall<0\/a.tall=steps
    ·rw[qb j]at h;obtain⟨es,l,c⟩:=m5.1 h;by_cases e:es.isEmpty=true
     ·rw[qb e]at c;cases c
     ·rw[q4 e]at c;cases c;exact i
    ·rw[q4 j]at h;cases h
   ·rw[q4 g]at h;obtain⟨ls,l,c⟩:=m5.1 h;obtain⟨y,m,n⟩:=n7.1 c;cases n;exact Aq (fun a id k b=>tR f (steps+1) a id k b) ls ⟨id::a.seen,a.tall⟩ y.1 y.2 i m
theorem Ar{K}(b:bK K=true)(d:PgW (pgD K) (nPg K))(root):ldT K root=rtO (pgD K) (nPg K) root:=by
 unfold ldT rtO;rw[b];show(if root=0 then _ else _)= _;by_cases a:root=0
 ·rw[qb a,qb a]
 ·rw[q4 a,q4 a];unfold wkT;cases hr:rdT (pgD K) (nPg K+1) 0 ⟨[], -1⟩ root with
  |none=>rfl
  |some y=>
   have c:=jQ d (nPg K+1) 0 ⟨[], -1⟩ root y.1 y.2 hr;have e:=Cp c.full c.keys;show(if okT y.1 true (strOfNums []) (strOfNums [])=true then some (some y.1)else none)=Option.map _ ((orT y.1 true x00).map _);rw[e];show(if(orT y.1 true x00).isSome=true then _ else _)= _;cases orT y.1 true x00<;>rfl
theorem Lv{K}(d:bK K=true)(f:PgW (pgD K) (nPg K)){root o}(h:ldT K root=some o):(pgO o).Nodup/\∀x∈pgO o,0<=x/\x< ((nPg K:Nat):Int):=by
 unfold ldT at h;rw[d]at h;change (if root=0 then _ else _)= _ at h;by_cases b:root=0
 ·rw[qb b]at h;cases h;exact⟨o0,fun x hx=>by simp[pgO]at hx⟩
 ·rw[q4 b]at h;obtain⟨y,hr,a⟩:=m5.1 h;have e:=jQ f (nPg K+1) 0 ⟨[], -1⟩ root y.1 y.2 hr;have g:=tR (nPg K+1) 0 ⟨[], -1⟩ root y.1 y.2 o0 hr;split at a
  ·cases a;have c:=e.seen.nodup_iff.1 g;rw[lj]at c;exact⟨c,fun x hx=>by have:=e.pgs x hx;omega⟩
  ·cases a
theorem Lw(o):(dK o).Perm (pgO o):=by
 cases o with
 |none=>exact List.Perm.refl _
 |some T=>exact l6 T
theorem As{w d K}(h:RDisk w d K)(c root b a):whS K c root b a=whB K c root b a:=by
 unfold whS whB;cases e:bK K with
 |false=>rfl
 |true=>
  have g:=jS h (jj e);show(true&&gY c root b a&&decide (b<=((nPg K:Nat):Int))&&jU K root a b.toNat)=hoB (pgD K) (nPg K) ((nPg K:Nat):Int) c root b a;unfold hoB;rw[o5];congr 1;unfold jU hoR;rw[<-Ar e g root,show flT K a=flR (pgD K) (nPg K+1) a [] []by unfold flT;rw[e]];cases m:flR (pgD K) (nPg K+1) a [] []with
  |none=>cases ldT K root<;>rfl
  |some p=>
   cases f:ldT K root with
   |none=>
    show(tpB K root&&_)=false;unfold tpB;rw[f];rfl
   |some o=>
    obtain⟨k,l⟩:=Lv e g f;show(tpB K root&&mrk b.toNat (tpL K root) p.1 p.2)=fI (srt (dK o)++(p.1++p.2)) b.toNat;have i:tpB K root=true:=by unfold tpB;rw[f];rfl
    have j:tpL K root=mkd (pgO o) (nPg K):=by unfold tpL;rw[f]
    rw[i,j,o5];exact Ke (((p7 _).trans (Lw o)).trans (tH l k).symm)
theorem Au{K g root f c w d}(u:RDisk w d K)(h:whB K g root f c=true):dOk K/\((root=0/\enL K root=[])\/(root≠0/\∃T s,rdT (pgD K) (nPg K+1) 0 ⟨[], -1⟩ root=some (T,s)/\full T true/\inn T true/\enL K root=aM T/\(aM T).length<=262144)):=by
 unfold whB at h;cases a:bK K with
 |false=>rw[a]at h;cases h
 |true=>
  rw[a]at h;have j:=jj a;have n:=jS u j;refine⟨j,?_⟩;have hr:rtO (pgD K) (nPg K) root≠none:=fun e=>by
   have t:hoB (pgD K) (nPg K) ((nPg K:Nat):Int) g root f c=false:=by
    unfold hoB;rw[Ab (kV e),Bool.and_false]
   have i:hoB (pgD K) (nPg K) ((nPg K:Nat):Int) g root f c=true:=h;rw[t]at i;cases i
  rw[<-Ar a n root]at hr;by_cases l:root=0
  ·refine kV ⟨l,?_⟩;unfold enL ldT;rw[a];simp[l,enO]
  ·refine kT ⟨l,?_⟩;cases q:ldT K root with
   |none=>exact absurd q hr
   |some o=>
    have b:=q;unfold ldT at b;rw[a]at b;change (if root=0 then _ else _)= _ at b;rw[q4 l]at b;obtain⟨y,m,p⟩:=m5.1 b;have k:=jQ n _ _ _ _ _ _ m;split at p
    ·rename_i r;cases p;have v:=tR (nPg K+1) 0 ⟨[], -1⟩ root y.1 y.2 o0 m;have i:=k.seen.nodup_iff.1 v;rw[lj]at i;have z:SeenOk (bB y.1) (nPg K):=⟨i,fun x hx=>by have:=k.pgs x hx;omega⟩;have C:=z.le;have A:=n.le;have B:=tK (fun D=>mN j D) _ _ _ _ _ _ m;exact⟨y.1,y.2,m,k.full,((mz y.1 true _ _ k.full).1 r).1,by unfold enL;rw[q];rfl,kH⟩
    ·cases p
structure WoT(K:DK)(root:Int)(B B0 gw:Nat)(w':World):Prop where
 ok:dOk K
 ex:∃(S:World->Prop)(X:Nat->Prop),Src (pgD K) B0 83 157 (.pointer (some ⟨gw,0,none⟩)) S X/\S w'/\B0<=w'.1.size/\(∀u,S u->u.cell? ⟨gw,4,none⟩=some (.int .i64 root))/\(∀k,X k->B<=k)/\B<=B0
theorem WoS.top{K root B gw w}(h:WoS K root B gw w):∃B0,WoT K root B B0 gw w:=by
 obtain⟨B0,a,b,r⟩:=h.ex;exact⟨B0,h.ok,a,b,r⟩
theorem WoT.le{K root B B0 gw w}(h:WoT K root B B0 gw w):B<=B0/\B0<=w.1.size:=by
 obtain⟨c,d,_,_,a,_,_,b⟩:=h.ex;exact⟨b,a⟩
theorem WoT.keep{K root B B0 gw w w'}(h:WoT K root B B0 gw w)(b:Below B0 w w')(d:KeepT 5 w w'):WoT K root B B0 gw w':=by
 obtain⟨f,g,a,e,c,r⟩:=h.ex;exact⟨h.ok,f,g,a,a.keep _ _ e b d,k2 c b.size,r⟩
theorem WoT.below{K root B B0 gw w w'}(h:WoT K root B B0 gw w)(a:Below w.1.size w w'):WoT K root B B0 gw w':=h.keep (a.mono h.le.2) (aW a)
theorem Lx{K z root x v B B0 gw}(fr most){J w d}(p:RDisk J d K)(G:whB K z root x v=true)(n:WoT K root B B0 gw w):
 Calls prog 51 #[.pointer (some ⟨gw,0,none⟩),.string fr,.int .i64 most] w fun e w'=> ∃a c,e= .returned (.slice a (scL fr most [] (enL K root)).length c)/\ORow 93 2 w.1.size w' a (scL fr most [] (enL K root)).length c (enF (scL fr most [] (enL K root)))/\OnlyS (fun k=>B<=k/\k<B0) w w'/\WoT K root B B0 gw w':=by
 have y:Hid _:=n;obtain⟨M,N,u,m,q,b,D,C⟩:=n.ex;have I:=b w m;obtain⟨E,o⟩:=Au p G;rcases o with⟨l,f⟩|⟨l,T,H,s,r,i,f,L⟩
 ·have A:(root==0)=true:=by simp[l]
  rw[f];have g:Hid (ORow 93 2 w.1.size w none (scL fr most [] []).length 0 (enF (scL fr most [] []))):=eU _ _ _ _ _;clear f p m n;go_enter func51,ntmps51;go_wp2_with fail;go_ret;exact⟨none,0,rfl,g.out,OnlyS.refl _ _,y.out⟩
 ·have A:(root==0)=false:=by simp[l]
  have t:=Ap (jS p E) u fr most (nPg K+1) 0 root ⟨[], -1⟩ H T [] none 0 w.1.size w s r i m (eU _ _ _ _ _) q kE (by simp;omega);rw[f];have F:=ny fr most (aM T) [];rw[List.length_nil]at F;have j:=kG D (kR b C);rw[List.length_nil]at t;clear s r i f p m D l b n;go_enter func51,ntmps51;go_wp2_with fail;refine t.mono ?_;rintro e w1 ⟨a,c,rfl,h⟩;have g:Hid (ORow 93 2 w.1.size w1 a (scL fr most [] (aM T)).length c (enF (scL fr most [] (aM T)))/\OnlyS (fun k=>B<=k/\k<B0) w w1/\WoT K root B B0 gw w1):=⟨h.own,h.fr.mono (fun k _ e=>by rcases e with e|e;exact⟨j.out.1 k e,u.low k e⟩;simp[rb]at e),⟨y.out.ok,M,N,u,h.src,k2 q h.fr.size,j.out.2.1,j.out.1,j.out.2.2⟩⟩;clear t h I;go_wp2_with fail;go_ret;exact⟨a,c,rfl,g.out⟩
theorem Av{a b:ByteArray}(h:a≠b):(a.toList==b.toList)=false:=by rw[sV];exact fun e=>h (qH e)
theorem sc1(key):∀es:List (ByteArray×ByteArray),scL key 1 [] es=(es.find? (fun e=>sle key e.1)).toList
 |[]=>rfl
 |e::es=>by
  show scL key 1 (scS key 1 [] e) es= _;unfold scS;cases h:sle key e.1 with
  |true=>
   rw[qb ⟨rfl,kP⟩,m7,tQ kP,List.find?_cons_of_pos (p:=fun e:ByteArray×ByteArray=>sle key e.1) h]
   rfl
  |false=>
   rw[q4 (fun a=>absurd a.1 kN),sc1 key es,List.find?_cons_of_neg (by rw[h];decide)]
def gtE(es:List (ByteArray×ByteArray))(key:ByteArray):Option (ByteArray×ByteArray):=es.find? (fun e=>decide (e.1=key))
theorem Aw(key):∀es:List (ByteArray×ByteArray),(es.map (·.1)).Pairwise (fun a b=>sl a b=true)->gtE es key=(es.find? (fun e=>sle key e.1)).filter (fun e=>decide (e.1=key))
 |[],_=>rfl
 |e::es,d=>by
  rw[k4,o8]at d;unfold gtE;cases h:sle key e.1 with
  |true=>
   rw[List.find?_cons_of_pos (p:=fun e:ByteArray×ByteArray=>sle key e.1) h];by_cases c:e.1=key
   ·rw[List.find?_cons_of_pos (by simpa using c)];simp[Option.filter,c]
   ·rw[List.find?_cons_of_neg (by simpa using c)];have:es.find? (fun e=>decide (e.1=key))=none:=by
     rw[List.find?_eq_none];intro x hx i;have f:x.1=key:=by simpa using i
     have g:=d.1 x.1 (oj.2 ⟨x,hx,rfl⟩);rw[f]at g;unfold sle at h;rw[g]at h;cases h
    rw[this];simp[Option.filter,c]
  |false=>
   have c:e.1≠key:=fun c=>by
    rw[c]at h;rw[qN]at h;cases h
   rw[List.find?_cons_of_neg (by simpa using c),List.find?_cons_of_neg (p:=fun e:ByteArray×ByteArray=>sle key e.1) (by rw[h];decide)];exact Aw key es d.2
def gtV:Option (ByteArray×ByteArray)->Value
 |some e=> .tuple #[.string e.2,.bool true]
 |none=> .tuple #[.string (strOfNums []),.bool false]
theorem Ax{K g root f c w d}(i:RDisk w d K)(h:whB K g root f c=true):((enL K root).map (·.1)).Pairwise (fun a b=>sl a b=true):=by
 obtain⟨_,⟨_,e⟩|⟨_,T,l,_,j,k,e,_⟩⟩:=Au i h
 ·rw[e];simp
 ·rw[e,<-nz];exact lB T true j k
theorem Ay{K u root t r B B0 gw}(key){A w d}(s:RDisk A d K)(j:whB K u root t r=true)(x:WoT K root B B0 gw w):
 Calls prog 91 #[.pointer (some ⟨gw,0,none⟩),.string key] w fun e w'=>e= .returned (gtV (gtE (enL K root) key))/\OnlyS (fun k=>B<=k/\k<B0) w w'/\WoT K root B B0 gw w':=by
 have q:=Lx key 1 s j x;rw[Aw key _ (Ax s j)];rw[sc1]at q;generalize (enL K root).find? (fun e=>sle key e.1)=o at*;clear s j x;go_enter func91,ntmps91;go_wp2_with fail;refine q.mono ?_;rintro e w1 ⟨a,c,rfl,hr,l⟩;clear q;cases o with
 |none=>
  have h:Hid _:=l;clear hr l;rw[show(Option.toList (none:Option (ByteArray×ByteArray))).length=0 from rfl];go_wp2_with fail
  go_ret2
  exact⟨rfl,h.out⟩
 |some y=>
  obtain⟨f,g⟩:=y;rw[show(Option.toList (some (f,g))).length=1 from rfl]at hr ⊢;obtain⟨b,rfl,_,_⟩:=ip hr kH;have i:=fun m v z=>(hr.reads (ng _ _)).cells 0 kH m v z;have C:w1.cell? ⟨b,0,none⟩=some (.string f):=by have:=i 0 (.string f) rfl;simpa using this
  have D:w1.cell? ⟨b,1,none⟩=some (.string g):=by have:=i 1 (.string g) rfl;simpa using this
  have h:Hid _:=l;clear hr l i;by_cases n:f=key
  ·have p:Hid (Option.filter (fun e:ByteArray×ByteArray=>decide (e.1=key)) (some (f,g))=some (f,g)):=by show Option.filter (fun e:ByteArray×ByteArray=>decide (e.1=key)) (some (f,g))= _;simp[Option.filter,n]
   subst n;go_wp2_with fail
   go_ret2
   rw[p.out];exact⟨rfl,h.out⟩
  ·have p:Hid (Option.filter (fun e:ByteArray×ByteArray=>decide (e.1=key)) (some (f,g))=none):=by show Option.filter (fun e:ByteArray×ByteArray=>decide (e.1=key)) (some (f,g))= _;simp[Option.filter,n]
   have E:=Av n;go_wp2_with fail
   go_ret2
   rw[p.out];exact⟨rfl,h.out⟩
noncomputable def alL(K:DK)(gen root used free:Int):List (ByteArray×ByteArray):=if whB K gen root used free=true then enL K root else []
theorem Ly{K w d}(g:RDisk w d K)(f root e c):((alL K f root e c).map (·.1)).Pairwise (fun a b=>sl a b=true):=by
 unfold alL;split
 ·rename_i h;exact Ax g h
 ·simp
theorem Az{es:List (ByteArray×ByteArray)}(e:(es.map (·.1)).Pairwise (fun a b=>sl a b=true)){i j}(c:i<j)(d:j<es.length):sl (es.getD i e0).1 (es.getD j e0).1=true:=by
 have h:=(List.pairwise_iff_getElem.1 e) i j (by simp;omega) (by simpa using d) c;simpa [List.getD,show i<es.length by omega,d]using h
theorem AA{es:List (ByteArray×ByteArray)}(e:(es.map (·.1)).Pairwise (fun a b=>sl a b=true)){i j}(c:i<=j)(d:j<es.length):sle (es.getD i e0).1 (es.getD j e0).1=true:=by
 rcases Nat.eq_or_lt_of_le c with rfl|h
 ·exact qN _
 ·exact mt (Az e h d)
structure FndI(es:List (ByteArray×ByteArray))(key:ByteArray)(lo hi:Nat):Prop where
 le:lo<=hi
 top:hi<=es.length
 low:∀i,i<lo->sl (es.getD i e0).1 key=true
 high:∀i,hi<=i->i<es.length->sl (es.getD i e0).1 key=false
theorem FndI.right{es key f c m}(e:(es.map (·.1)).Pairwise (fun a b=>sl a b=true))(h:FndI es key f c)(j:m<c)(d:sl (es.getD m e0).1 key=true):FndI es key (m+1) c:=
 ⟨kH,h.top,fun i g=>qJ (AA e kH (by have:=h.top;omega)) d,h.high⟩
theorem FndI.left{es key c d m}(l:(es.map (·.1)).Pairwise (fun a b=>sl a b=true))(h:FndI es key c d)(n:m<d)(k:c<=m)(j:sl (es.getD m e0).1 key=false):FndI es key c m:=
 ⟨k,by have:=h.top;omega,h.low,fun i e f=>by
  cases g:sl (es.getD i e0).1 key with
  |false=>rfl
  |true=>exact absurd (qJ (AA l e f) g) (by rw[j];decide)⟩
theorem Lz{es key}(h:∀i,i<es.length->(es.getD i e0).1≠key):gtE es key=none:=by
 unfold gtE;rw[List.find?_eq_none];intro x hx;obtain⟨i,a,rfl⟩:=List.getElem_of_mem hx;have:=h i a;simpa [List.getD,a]using this
theorem FndI.out_none{es key c}(m:(es.map (·.1)).Pairwise (fun a b=>sl a b=true))(h:FndI es key c c)(l:c<es.length->(es.getD c e0).1≠key):gtE es key=none:=by
 refine Lz fun i g e=> ?_;by_cases j:i<c
 ·have:=h.low i j;rw[e,lq]at this;cases this
 ·by_cases k:i=c
  ·subst k;exact l g e
  ·have d:=Az m (show c<i by omega) g;have f:=h.high c kE kH;rw[e]at d;rw[d]at f;cases f
theorem FndI.out_some{es key c}(m:(es.map (·.1)).Pairwise (fun a b=>sl a b=true))(h:FndI es key c c)(g:c<es.length)(k:(es.getD c e0).1=key):gtE es key=some (es.getD c e0):=by
 unfold gtE;rw[List.find?_eq_some_iff_getElem];refine⟨by simpa using k,c,g,by simp[List.getD,g],fun j l=> ?_⟩;have d:=h.low j l;have f:j<es.length:=kH;have i:(es.getD j e0).1≠key:=fun e=>by rw[e,lq]at d;cases d
 simpa [List.getD,f]using i
theorem LA{K e root c b w d}(f:RDisk w d K)(h:whB K e root c b=true):tpB K root=true:=by
 rw[<-As f]at h;unfold whS jU at h;simp only[ly]at h;have a:=h.2;split at a
 ·simp only[ly]at a;exact a.1
 ·cases a
theorem LE(d K g root f b w)(h:RDisk w d K):
 Calls prog 38 #[.agg (stV d K g root f b).toArray] w fun e w'=> ∃a c,e= .returned (.tuple #[.slice a (alL K g root f b).length c,.bool (whB K g root f b)])/\Below w.1.size w w'/\ORow 93 2 w.1.size w' a (alL K g root f b).length c (enF (alL K g root f b))/\(alL K g root f b).length<=262144:=by
 obtain⟨j,m⟩:∃J,J=w.alloc (.cells (stV d K g root f b).toArray 40):=⟨_,rfl⟩;have u:Below w.1.size w j:=by rw[m];exact bAl _ _
 have M:j.1.size=w.1.size+1:=by rw[m];simp
 have n:Blk j 40 w.1.size (stV d K g root f b):=by rw[m];exact ao w _ _
 have y:j.cell? ⟨w.1.size,0,none⟩=some (.slice d.sa K.n d.sc):=n.cell 0;have z:j.cell? ⟨w.1.size,1,none⟩=some (.slice d.pa K.m d.pc):=n.cell 1;have G:j.cell? ⟨w.1.size,2,none⟩=some (.int .i64 g):=n.cell 2;have A:j.cell? ⟨w.1.size,3,none⟩=some (.int .i64 root):=n.cell 3;have H:j.cell? ⟨w.1.size,4,none⟩=some (.int .i64 f):=n.cell 4;have I:j.cell? ⟨w.1.size,5,none⟩=some (.int .i64 b):=n.cell 5;have s:=Lr d K g root f b j (h.below u);rw[As (h.below u)]at s;have p:=kG h (kR u n);unfold bC eG at s;clear u h n;go_enter func38,ntmps38;go_upto_region 1 with fail
 change Code.wp _ _ _ _ (w.alloc (.cells (stV d K g root f b).toArray 40));rw[<-m];clear m;go_wp2_with fail;refine s.mono ?_;rintro e o ⟨rfl,t⟩;have l:=p.out.2.1.trans (t.mono p.out.2.1.size);have q:=p.out.2.2.below t;clear s y z G A H I;cases i:whB K g root f b with
 |false=>
  have r:Hid (whB K g root f b=false):=i;have x:Hid (alL K g root f b=[]):=by show alL K g root f b=[];unfold alL;rw[i];rfl
  have q3:=bAl o (.cells #[] 93);have k:=kG (l.trans (q3.mono l.size)) (mo 93 2 w.1.size o l.size (enF []));clear i l t q q3;go_wp2_with fail
  go_ret2
  rw[x.out];exact⟨_,_,by first|rfl|(rw[r.out];rfl),k.out.1,k.out.2,kP⟩
 |true=>
  have r:Hid (tpB K root=true/\whB K g root f b=true):=⟨LA p.out.1 i,i⟩;have x:Hid (alL K g root f b=enL K root):=by show alL K g root f b= _;unfold alL;rw[qb i]
  have y:o.cell? ⟨w.1.size,0,none⟩=some (.slice d.sa K.n d.sc):=q.cell 0;have z:o.cell? ⟨w.1.size,1,none⟩=some (.slice d.pa K.m d.pc):=q.cell 1;have A:o.cell? ⟨w.1.size,3,none⟩=some (.int .i64 root):=q.cell 3;have v:=Ku d K root o (p.out.1.below l);unfold bC at v;have B:Hid _:=l;have E:=l.size;clear i l t q;go_wp2_with fail;refine v.mono ?_;rintro e L ⟨a,c,rfl,C,F,D⟩;have k:=kG (B.out.trans (C.mono B.out.size)) (F.mono E);clear v C F y z A;go_wp2_with fail
  go_ret2
  rw[x.out];exact⟨a,c,by(show Ending.returned (.tuple #[.slice a (enL K root).length c,.bool (tpB K root)])= _;rw[r.out.1,r.out.2]),k.out.1,k.out.2,D⟩
theorem tS(es)(O:(es.map (·.1)).Pairwise (fun a b=>sl a b=true))(ad:es.length<=1048576)(a c B key w)(h:ORow 93 2 B w a es.length c (enF es)):
 Calls prog 57 #[.slice a es.length c,.string key] w fun e w'=>e= .returned (gtV (gtE es key))/\w'=w:=by
 have l:=kG O h;clear O h;go_enter func57,ntmps57;go_wp2_with fail;go_loopw [6,7] (fun F G wr=> ∃d g:Nat,F= .int .i64 (d:Nat)/\G= .int .i64 (g:Nat)/\FndI es key d g/\wr=w) (fun F G _=>(intOf G).toNat-(intOf F).toNat)
 case atStart=>exact⟨0,es.length,rfl,rfl,⟨kX _,kE,fun i g=>by omega,fun i J Q=>by omega⟩,rfl⟩
 case round=>
  obtain⟨d,g,rfl,rfl,j,A⟩:=hrel;obtain rfl:=A.symm;clear A;have J:=j.le;have Q:=j.top;by_cases Y:d<g
  ·have S:(d:Int)< (g:Int):=kH;obtain⟨m,T⟩:∃m:Nat,m=(d+g)/2:=⟨_,rfl⟩;have ab:((d:Int)+(g:Int))/2=(m:Int):=kH;have N:d<=m:=kH;have z:m<g:=kH;have Z:(m:Int)< (es.length:Int):=kH;have o:=l.out.2;obtain⟨b,rfl,K,L⟩:=ip o kH;have f:=fun q v E=>(ORow.reads o (ng es _)).cells m kH q v E;rw[show enF es m=[.string (es.getD m e0).1,.string (es.getD m e0).2]from rfl]at f;have x:Hid _:=fun k=>j.right l.out.1 z k;have t:Hid _:=fun k=>j.left l.out.1 z N k;generalize (es.getD m e0).1=p at*;have H:w.cell? ⟨b,m*2,none⟩=some (.string p):=by have:=f 0 _ rfl;simpa using this
   clear f o j T J;cases r:sl p key with
   |true=>
    have I:Op.bytesLess p.toList key.toList=true:=r;have C:Hid _:=x.out r;clear r x t;go_wp2_with fail;go_roundw
    case rel=>exact⟨m+1,g,by go_num,rfl,C.out,trivial⟩
    case measure=>simp[intOf];omega
   |false=>
    have I:Op.bytesLess p.toList key.toList=false:=r;have C:Hid _:=t.out r;clear r x t;go_wp2_with fail;go_roundw
    case rel=>exact⟨d,m,rfl,by go_num,C.out,trivial⟩
    case measure=>simp[intOf];omega
  ·have M:d=g:=kH;subst M;have ac:¬(d:Int)< (d:Int):=kH;by_cases y:d<es.length
   ·have D:(d:Int)< (es.length:Int):=kH;have o:=l.out.2;obtain⟨b,rfl,K,L⟩:=ip o kH;have f:=fun q v E=>(ORow.reads o (ng es _)).cells d y q v E;rw[show enF es d=[.string (es.getD d e0).1,.string (es.getD d e0).2]from rfl]at f;have u:Hid _:=fun U=>j.out_none l.out.1 U;have n:Hid _:=fun R=>j.out_some l.out.1 y R;generalize es.getD d e0=P at*;obtain⟨p,V⟩:=P;have H:w.cell? ⟨b,d*2,none⟩=some (.string p):=by have:=f 0 _ rfl;simpa using this
    have W:w.cell? ⟨b,d*2+1,none⟩=some (.string V):=by have:=f 1 _ rfl;simpa using this
    clear f o j;by_cases k:p=key
    ·have s:Hid _:=n.out k;clear u n;subst k;go_wp2_with fail
     go_ret2
     rw[s.out];exact⟨rfl,rfl⟩
    ·have s:Hid _:=u.out (fun _=>k);have X:=Av k;clear u n;go_wp2_with fail
     go_ret2
     rw[s.out];exact⟨rfl,rfl⟩
   ·have D:¬(d:Int)< (es.length:Int):=kH;have s:Hid _:=j.out_none l.out.1 (fun h=>absurd h y);clear j;go_wp2_with fail
    go_ret2
    rw[s.out];exact⟨rfl,rfl⟩
theorem lh{P:Program}{b:Func}{p q:Tmp}{a:TypeId}(h:b.results=#[.tmp q,.cell p a])(tmps:Array Value)(w:World)(g:Nat)(n:TypeId)(cs:Array Value)(d:TypeDesc){v:Value}
 (k:tmps.getD p undef= .pointer (some ⟨g,0,none⟩))(i:w.heap[g]?=some (.cells cs n (0,0)))
 (m:P.underlying a=some d)(f:(match d with| .struct _| .array _ _=>true|_=>false)=true)(j:(P.info? a).map (·.size)=some cs.size)(l:tmps.getD q undef=v):
 (results b tmps).run P w= .ok (.tuple #[v,.agg cs]) w:=by
 have c:tmps[p]?.getD undef= .pointer (some ⟨g,0,none⟩):=by simpa using k
 have e:tmps[q]?.getD undef=v:=by simpa using l
 simp[results,h,c,e,asAddr,run_loadVar_row w g n a cs (0,0) d i m f j]
def tpH(o:Option (ByteArray×ByteArray)):Int:=match o with|some e=>if e.2.size=36 then low ((nb e.2).take 4)else 0|none=>0
def tpI(o:Option (ByteArray×ByteArray)):List Int:=match o with|some e=>if e.2.size=36 then(nb e.2).drop 4 else List.replicate 32 0|none=>List.replicate 32 0
theorem AB(o):(tpI o).length=32:=by
 unfold tpI;split
 ·split
  ·rw[k3,gd];omega
  ·simp
 ·simp
theorem qk(v k)(a:k<=v.size):nb (v.extract 0 k)=(nb v).take k:=by
 unfold nb;rw[<-List.map_take];congr 1;simp[ByteArray.data_extract]
theorem AD(v k)(a:k<=v.size):nb (v.extract k v.size)=(nb v).drop k:=by
 unfold nb;rw[<-List.map_drop];congr 1;rw[ByteArray.data_extract,Array.toList_extract];simp;exact mm (by rw[k3];exact kE)
theorem LG{w a f g l}(k0:Blk a 32 g zH)(e:Below w.1.size w a)(h:w.1.size<=g)(b:Below a.1.size a f):Blk f 32 g zH/\Below w.1.size w (f.setRow g (ob l).toArray)/\Blk (f.setRow g (ob l).toArray) 32 g (ob l):=by
 have d:=k0.below b;have i:=aN f g (ob l).toArray;have c:=e.trans (b.mono e.size);exact⟨d,c.trans (i.below h c.size),d.setRow (ob l)⟩
theorem LJ(es)(ab:(es.map (·.1)).Pairwise (fun a b=>sl a b=true))(af:es.length<=1048576)(a c B w)(h:ORow 93 2 B w a es.length c (enF es)):
 Calls prog 39 #[.slice a es.length c] w fun e w'=>e= .returned (.tuple #[.int .i64 (tpH (gtE es ⟨#[116]⟩)),hA (tpI (gtE es ⟨#[116]⟩))])/\Below w.1.size w w':=by
 have k0:=ao w 32 zH.toArray;have Y:=bAl w (.cells zH.toArray 32);have I:=tS es ab af a c B ⟨#[116]⟩ (w.alloc (.cells zH.toArray 32)) (h.below Y);have T:(prog.info? 32).map (·.size)=some zH.toArray.size:=aJ;clear h ab;generalize gtE es ⟨#[116]⟩=o at I ⊢;go_enter func39,ntmps39;go_upto_region 1 with fail
 change Code.wp _ _ _ _ (w.alloc (.cells zH.toArray 32));generalize w.alloc (.cells zH.toArray 32)=M at*;have W:Blk M 32 w.1.size zH:=k0;have P:Hid (∀ac l,Below M.1.size M ac->Blk ac 32 w.1.size zH/\Below w.1.size w (ac.setRow w.1.size (ob l).toArray)/\Blk (ac.setRow w.1.size (ob l).toArray) 32 w.1.size (ob l)):=fun ac l b=>LG W Y kE b;clear k0 W Y;cases o with
 |none=>
  unfold gtV at I;go_wp2_with fail;refine I.mono ?_;rintro e w1 ⟨rfl,j⟩;obtain rfl:=j.symm;clear j I;obtain⟨G,C,F⟩:=P.out M (List.replicate 32 0) kF;go_wp2_with (first|(refine fK rfl _ _ rfl oh ?_)|(refine qB rfl 32 _ _ rfl w.1.size zH.toArray rfl rfl 32 _ G T rfl oe ?_));refine p6 (v:= .tuple #[.int .i64 (tpH none),hA (tpI none)]) ?_ rfl ⟨rfl,C⟩;exact lh results39 _ _ w.1.size 32 (ob (List.replicate 32 0)).toArray _ rfl F qa rfl T rfl
 |some ae=>
  obtain⟨S,v⟩:=ae;unfold gtV at I;dsimp only at I;go_wp2_with fail;refine I.mono ?_;rintro e w1 ⟨rfl,j⟩;obtain rfl:=j.symm;clear j I;by_cases s:v.size=36
  ·have X:(v.size:Int)=36:=kH;have x:Hid (tpH (some (S,v))=low ((nb v).take 4)/\tpI (some (S,v))=(nb v).drop 4):=by
    unfold tpH tpI;dsimp only;rw[qb s,qb s];exact⟨rfl,rfl⟩
   have r:Hid (v.size=36):=s;clear s;have V:(v.extract 0 4).size=4:=by rw[<-gd,qk v 4 (by rw[r.out];omega),lw,gd,r.out];rfl
   have Q:(v.extract 4 v.size).size=32:=by rw[<-gd,AD v 4 (by rw[r.out];omega),k3,gd,r.out]
   rw[<-qk v 4 (by rw[r.out];omega),<-AD v 4 (by rw[r.out];omega)]at x;go_upto_region 4 with fail
   have D:=bDr M;refine ay (fun _=>True) (fun k=>decide (10<=k)) kO ?_;refine aa 0 trivial ?_;refine aa 1 trivial ?_;refine aa 4 trivial ?_;refine aa 5 trivial ?_;generalize v.extract 0 4=q at*;generalize v.extract 4 v.size=f at*;have N:Hid (q.size=4):=V;have i:Hid (f.size=32):=Q;have E:(nb f).length=32:=by rw[gd,i.out]
   have O:(prog.info? 32).map (·.size)=some (ob (nb f)).toArray.size:=by rw[aE,E];exact aJ
   clear V Q r;generalize M.drew=z at*;refine cI 2 6 kO rfl rfl (fun g d=> ?xf) (fun g d=> ?xs)
   case xf=>
    rw[qb (show Region.wanted _ _=true from rfl)];have m:=jc q z;have t:=jd q z;have A:=je q z (by rw[N.out];omega);rw[N.out]at m A;generalize grownCap z 4 0 5=Z at*;generalize Go.Lib.bytesWorld z 5 q=n at*;go_wp2_with fail;clear m;refine d.out _ _ (fun _=>trivial) ?_;clear d g;refine cI 3 6 kO rfl rfl (fun g d=> ?yf) (fun g d=> ?ys)
    case yf=>
     rw[qb (show Region.wanted _ _=true from rfl)];have K:=iR _ _ _ _ n A kH;go_wp2_with fail;refine K.mono ?_;rintro e ad ⟨rfl,j⟩;obtain rfl:=j.symm;clear j K;go_wp2_with fail;refine d.out _ _ (fun _=>trivial) ?_;clear d g;refine aj 6 fun g d=> ?_;have m:=jc f n;have u:=jd f n;have p:=je f n (by rw[i.out];omega);rw[i.out]at m p;generalize grownCap n 32 0 5=U at*;generalize Go.Lib.bytesWorld n 5 f=y at*;go_wp2_with fail;clear m;refine al d ?_;clear d g;refine aj 7 fun g d=> ?_;have J:=lE _ _ _ y p;have H:Hid _:=D.trans ((t.mono D.size).trans (u.mono (by have:=D.size;have:=t.size;omega)));go_wp2_with fail;refine J.mono ?_;rintro e R ⟨rfl,L⟩;obtain⟨G,C,F⟩:=P.out R (nb f) (H.out.trans (L.mono H.out.size));clear J L;go_wp2_with fail;refine al d ?_;clear d g;refine aa 8 trivial ?_;refine aj 9 fun g d=> ?_;refine s5 32 _ _ rfl w.1.size (ob (nb f)).toArray rfl rfl 32 _ G O (by rw[aE,E];rfl) (bQ _) ?_;refine al d ?_;clear d g;refine ax ?_;go_wp2_with fail;rw[x.out.1,x.out.2];refine p6 (v:= .tuple #[.int .i64 (low (nb q)),hA (nb f)]) ?_ rfl ⟨rfl,C⟩;exact lh results39 _ _ w.1.size 32 (ob (nb f)).toArray _ rfl F qa rfl O rfl
    case ys=>
     rw[qb (show Region.wanted _ _=true from rfl)];have m:=jc f n;have u:=jd f n;have p:=je f n (by rw[i.out];omega);rw[i.out]at m p;generalize grownCap n 32 0 5=U at*;generalize Go.Lib.bytesWorld n 5 f=y at*;go_wp2_with fail;clear m;refine al d ?_;clear d g;refine aj 3 fun g d=> ?_;have K:=iR _ _ _ _ y (A.below u) kH;go_wp2_with fail;refine K.mono ?_;rintro e ad ⟨rfl,j⟩;obtain rfl:=j.symm;clear j K;go_wp2_with fail;refine al d ?_;clear d g;refine aj 7 fun g d=> ?_;have J:=lE _ _ _ y p;have H:Hid _:=D.trans ((t.mono D.size).trans (u.mono (by have:=D.size;have:=t.size;omega)));go_wp2_with fail;refine J.mono ?_;rintro e R ⟨rfl,L⟩;obtain⟨G,C,F⟩:=P.out R (nb f) (H.out.trans (L.mono H.out.size));clear J L;go_wp2_with fail;refine al d ?_;clear d g;refine aa 8 trivial ?_;refine aj 9 fun g d=> ?_;refine s5 32 _ _ rfl w.1.size (ob (nb f)).toArray rfl rfl 32 _ G O (by rw[aE,E];rfl) (bQ _) ?_;refine al d ?_;clear d g;refine ax ?_;go_wp2_with fail;rw[x.out.1,x.out.2];refine p6 (v:= .tuple #[.int .i64 (low (nb q)),hA (nb f)]) ?_ rfl ⟨rfl,C⟩;exact lh results39 _ _ w.1.size 32 (ob (nb f)).toArray _ rfl F qa rfl O rfl
   case xs=>
    rw[qb (show Region.wanted _ _=true from rfl)];have m:=jc f z;have u:=jd f z;have p:=je f z (by rw[i.out];omega);rw[i.out]at m p;generalize grownCap z 32 0 5=U at*;generalize Go.Lib.bytesWorld z 5 f=y at*;go_wp2_with fail;clear m;refine al d ?_;clear d g;refine aj 2 fun g d=> ?_;have m:=jc q y;have t:=jd q y;have A:=je q y (by rw[N.out];omega);rw[N.out]at m A;generalize grownCap y 4 0 5=Z at*;generalize Go.Lib.bytesWorld y 5 q=n at*;go_wp2_with fail;clear m;refine al d ?_;clear d g;refine aj 3 fun g d=> ?_;have K:=iR _ _ _ _ n A kH;go_wp2_with fail;refine K.mono ?_;rintro e ad ⟨rfl,j⟩;obtain rfl:=j.symm;clear j K;go_wp2_with fail;refine al d ?_;clear d g;refine aj 7 fun g d=> ?_;have J:=lE _ _ _ n (p.below t);have H:Hid _:=D.trans ((u.mono D.size).trans (t.mono (by have:=D.size;have:=u.size;omega)));go_wp2_with fail;refine J.mono ?_;rintro e R ⟨rfl,L⟩;obtain⟨G,C,F⟩:=P.out R (nb f) (H.out.trans (L.mono H.out.size));clear J L;go_wp2_with fail;refine al d ?_;clear d g;refine aa 8 trivial ?_;refine aj 9 fun g d=> ?_;refine s5 32 _ _ rfl w.1.size (ob (nb f)).toArray rfl rfl 32 _ G O (by rw[aE,E];rfl) (bQ _) ?_;refine al d ?_;clear d g;refine ax ?_;go_wp2_with fail;rw[x.out.1,x.out.2];refine p6 (v:= .tuple #[.int .i64 (low (nb q)),hA (nb f)]) ?_ rfl ⟨rfl,C⟩;exact lh results39 _ _ w.1.size 32 (ob (nb f)).toArray _ rfl F qa rfl O rfl
  ·have X:¬(v.size:Int)=36:=kH;have x:Hid (tpH (some (S,v))=0/\tpI (some (S,v))=List.replicate 32 0):=by
    unfold tpH tpI;dsimp only;rw[q4 s,q4 s];exact⟨rfl,rfl⟩
   clear s;obtain⟨G,C,F⟩:=P.out M (List.replicate 32 0) kF;go_wp2_with (first|(refine fK rfl _ _ rfl oh ?_)|(refine qB rfl 32 _ _ rfl w.1.size zH.toArray rfl rfl 32 _ G T rfl oe ?_));rw[x.out.1,x.out.2];refine p6 (v:= .tuple #[.int .i64 0,hA (List.replicate 32 0)]) ?_ rfl ⟨rfl,C⟩;exact lh results39 _ _ w.1.size 32 (ob (List.replicate 32 0)).toArray _ rfl F qa rfl T rfl
