import Derived.Test.YtglbanolhhjjiaaGreatDoorRows
import Derived.WalkSpells
import Derived.WalkLawsBesides
import Derived.BigQuiet
import Derived.Deep.Onto
import Derived.OpenShut
import Derived.Laws.AppendOwnNone
import Derived.Deep.WholeRow
namespace Go.Proofs.YtglbanolhhjjiaaGreatDoor
open Go.Proofs.Tryz
open Go.RowKit
set_option linter.unusedVariables false
set_option maxRecDepth 100000
set_option maxHeartbeats 32000000
theorem t6{n:Nat}:n<=n:=Nat.le_refl n
theorem t7{n:Nat}{w:World}:Below n w w:=Below.refl n w
theorem uv{p q:Prop}(a:p)(b:q):Hid (p/\q):=And.intro a b
theorem uA{p:Prop}(h:p:=by omega):p:=h
theorem uB{p:Prop}(h:p:=by decide):p:=h
theorem vk{p:Prop}(h:p:=by kernel_rfl):p:=h
theorem vo{p:Prop}(h:p:=by simp):p:=h
theorem vJ:type_of% @And.intro:=@And.intro
theorem vR:type_of% @Nat.le_refl:=@Nat.le_refl
theorem v6:type_of% @Or.inr:=@Or.inr
theorem v7:type_of% @Or.inl:=@Or.inl
theorem wa:type_of% @Nat.zero_le:=@Nat.zero_le
theorem wb:type_of% @List.length_append:=@List.length_append
theorem wg:type_of% @Nat.le_trans:=@Nat.le_trans
theorem wi:type_of% @List.length_drop:=@List.length_drop
theorem ws:type_of% @List.map_cons:=@List.map_cons
theorem wv:type_of% @List.append_assoc:=@List.append_assoc
theorem wy:type_of% @Array.getElem?_eq_some_iff:=@Array.getElem?_eq_some_iff
theorem wz:type_of% @List.map_nil:=@List.map_nil
theorem wA:type_of% @List.size_toArray:=@List.size_toArray
theorem wB:type_of% @List.map_toArray:=@List.map_toArray
theorem wC:type_of% @List.getElem?_eq_some_iff:=@List.getElem?_eq_some_iff
theorem wE:type_of% @Nat.zero_add:=@Nat.zero_add
theorem wP:type_of% @List.append_nil:=@List.append_nil
theorem wQ:type_of% @Nat.lt_of_lt_of_le:=@Nat.lt_of_lt_of_le
theorem wR:type_of% @List.length_take:=@List.length_take
theorem wS:type_of% @List.getElem?_eq_getElem:=@List.getElem?_eq_getElem
theorem wX:type_of% @Bool.and_eq_true:=@Bool.and_eq_true
theorem w3:type_of% @List.mem_cons:=@List.mem_cons
theorem w4:type_of% @List.getElem?_append_left:=@List.getElem?_append_left
theorem w5:type_of% @List.take_of_length_le:=@List.take_of_length_le
theorem w6:type_of% @List.mem_append:=@List.mem_append
theorem w7:type_of% @List.drop_drop:=@List.drop_drop
theorem w8:type_of% @List.length_cons:=@List.length_cons
theorem w9:type_of% @Nat.add_zero:=@Nat.add_zero
theorem xa:type_of% @List.mem_range:=@List.mem_range
theorem xb:type_of% @List.getElem?_append_right:=@List.getElem?_append_right
theorem xc:type_of% @Option.bind_eq_some_iff:=@Option.bind_eq_some_iff
theorem xd:type_of% @List.nil_append:=@List.nil_append
theorem xr:type_of% @List.contains_iff_mem:=@List.contains_iff_mem
theorem xA:type_of% @Bool.not_eq_true:=@Bool.not_eq_true
theorem xC:type_of% @Option.bind_some:=@Option.bind_some
theorem xN:type_of% @Nat.not_lt_zero:=@Nat.not_lt_zero
theorem xP:type_of% @Nat.lt_or_ge:=@Nat.lt_or_ge
theorem x0:type_of% @Nat.le_succ:=@Nat.le_succ
theorem x2:type_of% @Int.eq_ofNat_of_zero_le:=@Int.eq_ofNat_of_zero_le
theorem x3:type_of% @Nat.lt_succ_self:=@Nat.lt_succ_self
theorem x4:type_of% @List.take_succ_eq_append_getElem:=@List.take_succ_eq_append_getElem
theorem x5:type_of% @Option.map_eq_some_iff:=@Option.map_eq_some_iff
theorem x6:type_of% @Nat.one_mul:=@Nat.one_mul
theorem x7:type_of% @List.mem_map:=@List.mem_map
theorem x8:type_of% @List.getElem?_eq_none:=@List.getElem?_eq_none
theorem x9:type_of% @Nat.add_mul:=@Nat.add_mul
theorem ya:type_of% @List.take_length:=@List.take_length
theorem yb:type_of% @List.length_singleton:=@List.length_singleton
theorem yc:type_of% @List.getD_eq_getElem?_getD:=@List.getD_eq_getElem?_getD
theorem yv:type_of% @List.drop_eq_getElem_cons:=@List.drop_eq_getElem_cons
theorem y0:type_of% @List.take_append_of_le_length:=@List.take_append_of_le_length
theorem y1:type_of% @Nat.mul_le_mul_right:=@Nat.mul_le_mul_right
theorem y2:type_of% @List.length_map:=@List.length_map
theorem y3:type_of% @List.eq_nil_of_length_eq_zero:=@List.eq_nil_of_length_eq_zero
theorem y4:type_of% @List.all_eq_true:=@List.all_eq_true
theorem y6:type_of% @List.nodup_nil:=@List.nodup_nil
theorem za:type_of% @List.getElem_mem:=@List.getElem_mem
theorem zb:type_of% @List.ext_getElem?:=@List.ext_getElem?
theorem zd:type_of% @Bool.true_and:=@Bool.true_and
theorem zs:type_of% @List.pairwise_cons:=@List.pairwise_cons
theorem zz:type_of% @List.nodup_cons:=@List.nodup_cons
theorem zP:type_of% @List.getElem?_map:=@List.getElem?_map
theorem zW:type_of% @List.drop_eq_nil_iff:=@List.drop_eq_nil_iff
theorem z1:type_of% @List.cons_append:=@List.cons_append
theorem z2:type_of% @Int.tdiv_eq_ediv_of_nonneg:=@Int.tdiv_eq_ediv_of_nonneg
theorem z6:type_of% @Bool.false_and:=@Bool.false_and
theorem z7:type_of% @List.set_cons_zero:=@List.set_cons_zero
theorem z8:type_of% @List.nodup_append:=@List.nodup_append
theorem AC:type_of% @List.mem_cons_of_mem:=@List.mem_cons_of_mem
theorem AF:type_of% @List.map_append:=@List.map_append
theorem AO:type_of% @List.length_nil:=@List.length_nil
theorem A0:type_of% @List.drop_of_length_le:=@List.drop_of_length_le
theorem A1:type_of% @Nat.mul_le_mul_left:=@Nat.mul_le_mul_left
theorem A2:type_of% @Nat.le_of_lt:=@Nat.le_of_lt
theorem A3:type_of% @Int.tmod_eq_emod_of_nonneg:=@Int.tmod_eq_emod_of_nonneg
theorem A4:type_of% @Int.le_refl:=@Int.le_refl
theorem A5:type_of% @List.take_append_drop:=@List.take_append_drop
theorem A6:type_of% @List.take_add_one:=@List.take_add_one
theorem Bn:type_of% @List.setIfInBounds_toArray:=@List.setIfInBounds_toArray
theorem BB:type_of% @List.map_take:=@List.map_take
theorem BC:type_of% @List.map_drop:=@List.map_drop
theorem BD:type_of% @List.length_set:=@List.length_set
theorem BO:type_of% @List.getElem?_set:=@List.getElem?_set
theorem BS:type_of% @List.set_cons_succ:=@List.set_cons_succ
theorem BV:type_of% @List.getElem?_set_ne:=@List.getElem?_set_ne
theorem BX:type_of% @List.take_succ_cons:=@List.take_succ_cons
theorem B1:type_of% @List.getD_cons_succ:=@List.getD_cons_succ
theorem B2:type_of% @Below.refl:=@Below.refl
theorem B3:type_of% @bodyPost_ret:=@bodyPost_ret
theorem B4:type_of% @if_pos:=@if_pos
theorem B5:type_of% @wpList_load_row:=@wpList_load_row
theorem B8:type_of% @wpList_store_row:=@wpList_store_row
theorem Ct:type_of% @World.ownsRow.lt:=@World.ownsRow.lt
theorem CC:type_of% @Calls.mono:=@Calls.mono
theorem CH:type_of% @if_neg:=@if_neg
theorem CP:type_of% @decide_eq_false:=@decide_eq_false
theorem CR:type_of% @decide_eq_true:=@decide_eq_true
theorem CT:type_of% @Sem.run_bind:=@Sem.run_bind
theorem CV:type_of% @World.ownsRow.alloc:=@World.ownsRow.alloc
theorem C0:type_of% @strOfNums_size:=@strOfNums_size
theorem C1:type_of% @congrArg:=@congrArg
theorem C2:type_of% @Sem.run_pure:=@Sem.run_pure
theorem C3:type_of% @of_decide_eq_true:=@of_decide_eq_true
theorem C4:type_of% @underlying3:=@underlying3
theorem C5:type_of% @World.cell?_of_block:=@World.cell?_of_block
theorem C8:type_of% @Addr.add_lit:=@Addr.add_lit
theorem DB:type_of% @info_parts:=@info_parts
theorem DC:type_of% @cell_of_row:=@cell_of_row
theorem DI:type_of% @Result.andThen_ok:=@Result.andThen_ok
theorem DP:type_of% @World.ownsRow.cellAt:=@World.ownsRow.cellAt
theorem DR:type_of% @wpList_plain:=@wpList_plain
theorem DX:type_of% @run_loadVar_row:=@run_loadVar_row
theorem D0:type_of% @underlying5:=@underlying5
theorem D1:type_of% @below_drewN:=@below_drewN
theorem D2:type_of% @beq_eq_false_iff_ne:=@beq_eq_false_iff_ne
theorem D3:type_of% @decide_eq_true_eq:=@decide_eq_true_eq
theorem D5:type_of% @Value.slice.injEq:=@Value.slice.injEq
theorem D6:type_of% @heap_alloc_new:=@heap_alloc_new
theorem D7:type_of% @underlying9:=@underlying9
theorem EB:type_of% @World.size_drew:=@World.size_drew
theorem ED:type_of% @Ne.symm:=@Ne.symm
theorem bAl(w:World)(o:Obj):Below w.1.size w (w.alloc o):=t7.alloc t6 _
theorem bDr(w:World):Below w.1.size w w.drew:=⟨rfl,rfl,rfl,t6,fun _ _=>rfl⟩
theorem y5:prog.cellsOf 5=1:=vk
theorem jM:(prog.info? 5).map (fun i=>(i.zero,i.size,i.bytes))=some (some (.int .u8 0),1,1):=vk
def ob(l:List Int):List Value:=l.map (Value.int .u8)
def IsB(l:List Int):Prop:= ∀i,0<=l.getD i 0/\l.getD i 0<256
structure Bs(w:World)(a:Option Addr)(len cap:Nat)(l:List Int):Prop where
 len_eq:l.length=len
 le:len<=cap
 le':cap<=maxLen
 nil:a=none->cap=0
 at_:0<len->∃b off,a=some ⟨b,off,none⟩/\b<w.1.size/\∀i,i<len->w.cell? ⟨b,off+i,none⟩=some (.int .u8 (l.getD i 0))
 byte:IsB l
theorem Bs.below{w w' a d c l}(h:Bs w a d c l)(g:Below w.1.size w w'):Bs w' a d c l:=
 ⟨h.len_eq,h.le,h.le',h.nil,fun n=>by
  obtain⟨b,f,e,j,k⟩:=h.at_ n;refine⟨b,f,e,wQ j g.size,fun i m=> ?_⟩;rw[g.cell (p:=⟨b,f+i,none⟩) j];exact k i m,h.byte⟩
theorem jN?(l:List Int)(j:Nat)(h:j<l.length):(ob l)[j]?=some (.int .u8 (l.getD j 0)):=by
 simp[ob,List.getD,h]
theorem pB(l):∀u∈ob l,u.oneCell'=true:=ints_oneCell .u8 l
theorem y7{w}{base e:Nat}{v n l}(h:w.ownsRow base e 1 v n (ob l))(c:IsB l):∃a b,v= .slice a n b/\Bs w a n b l:=by
 have d:l.length=n:=by have:=h.1;simpa [ob]using this
 rcases h.2 with⟨rfl,rfl⟩|⟨g,b,m,rfl,q,k,f,j,o,p⟩
 ·exact⟨none,0,rfl,d,t6,wa _,fun _=>rfl,fun h=>absurd h uA,c⟩
 ·refine⟨_,b,rfl,d,f,j,fun e=>(by cases e),fun s=>⟨g,0,rfl,(wy.1 k).1,fun i r=> ?_⟩,c⟩;have:=h.cells (g:=g) rfl i (.int .u8 (l.getD i 0)) (jN? l i uA);rw[C8]at this;exact this
theorem bQ{w w'}{base e size:Nat}{v n xs}(h:w.ownsRow base e size v n xs)(a:Below w.1.size w w'):w'.ownsRow base e size v n xs:=by
 refine⟨h.1,?_⟩;rcases h.2 with h2|⟨g,cap,cur,hv,hg,hh,r⟩
 ·exact v7 h2
 ·exact v6 ⟨g,cap,cur,hv,hg,by rw[a.block g (wy.1 hh).1];exact hh,r⟩
theorem fK(w a b):Below w.1.size w ((w.alloc a).alloc b):=(bAl _ _).alloc vo _
theorem eX:IsB []:=fun i=>by simp
theorem gR{l}(h:IsB l)(k):IsB (l.take k):=fun i=>by
 by_cases a:i<k
 ·have:=h i;simpa [List.getD,List.getElem?_take,a]using this
 ·simp[List.getD,List.getElem?_take,a]
theorem y8{n}(h:(Lit.int .u8 n).wf=true):0<=n/\n<256:=by
 have:=bounds_u8 h;omega
theorem y9{w a d c f}(h:(a=none/\d=0/\c=0/\f=[])\/∃x,a=some x/\d<=c/\c<=maxLen/\f.length=c/\(∀i,i<f.length->w.cell? (x.add i)=some (.int .u8 (f.getD i 0)))/\∀n∈f,(Lit.int .u8 n).wf=true):
 Bs w a d c (f.take d):=by
 rcases h with⟨rfl,rfl,rfl,rfl⟩|⟨x,rfl,p,q,s,l,r⟩
 ·exact⟨rfl,t6,wa _,fun _=>rfl,fun h=>absurd h uA,fun i=>by simp⟩
 ·refine⟨by simp;omega,p,q,fun e=>(by cases e),fun t=> ?_,gR (fun i=> ?_) d⟩
  ·obtain⟨b,o,k⟩:=x;have m:=l 0 uA;have j:k=none:=by simpa [Addr.add]using World.cell?_spot m
   subst j;refine⟨b,o,rfl,World.block_lt_of_cell? w _ m,fun i g=> ?_⟩;have:=l i uA;rw[C8]at this;rw[this];simp[List.getD,g]
  ·by_cases g:i<f.length
   ·have:=y8 (r (f[i]) (za g));simpa [List.getD,g]using this
   ·simp[List.getD,g]
def Own(B:Nat)(w:World)(a:Option Addr)(n c:Nat)(l:List Int):Prop:=w.ownsRow B 5 1 (.slice a n c) n (ob l)
theorem Own.len{B w a n c l}(h:Own B w a n c l):l.length=n:=by
 have:=h.1;simpa [ob]using this
theorem Own.bs{B w a n c l}(h:Own B w a n c l)(b:IsB l):Bs w a n c l:=by
 obtain⟨f,g,e,d⟩:=y7 h b;cases e;exact d
theorem Own.below{B w w' a n c l}(h:Own B w a n c l)(b:Below w.1.size w w'):Own B w' a n c l:=bQ h b
theorem Own.mono{B B' w a n c l}(h:Own B w a n c l)(b:B'<=B):Own B' w a n c l:=World.ownsRow.mono h b
theorem jO(B w):Own B w none 0 0 []:=World.ownsRow_nil w B _ _
theorem eI(w:World)(l n)(b:l.length=n)(h:n<=1048576)(B)(a:B<=w.1.size):Own B (w.alloc (.cells (ob l).toArray 5)) (some ⟨w.1.size,0,none⟩) n n l:=by
 have:=World.ownsRow_lit (base:=B) (e:=5) (size:=1) w (ob l).toArray n a (by unfold maxLen;omega) (by simp[ob];omega);exact this
theorem jP{x}(a:0<=x)(b:x<256):IsB [x]:=fun i=>by
 cases i with
 |zero=>simpa using⟨a,b⟩
 |succ i=>simp
theorem dC{l m}(a:IsB l)(b:IsB m):IsB (l++m):=fun i=>by
 by_cases h:i<l.length
 ·have:=a i;simpa [List.getD,List.getElem?_append_left h]using this
 ·have:=b (i-l.length);simpa [List.getD,List.getElem?_append_right (Nat.le_of_not_lt h)]using this
theorem pD{x l}(a:0<=x)(b:x<256)(h:IsB l):IsB (x::l):=dC (jP a b) h
theorem lH(n):IsB (List.replicate n 0):=fun i=>by
 by_cases h:i<n<;>simp[List.getD,h]
theorem mK(w:World)(l n)(b:l.length=n)(h:n<=1048576)(a:IsB l):Bs (w.alloc (.cells (ob l).toArray 5)) (some ⟨w.1.size,0,none⟩) n n l:=
 (eI w l n b h 0 (wa _)).bs a
theorem fL(w:World)(x)(a:0<=x)(b:x<256):Bs (w.alloc (.cells #[.int .u8 x] 5)) (some ⟨w.1.size,0,none⟩) 1 1 [x]:=
 mK w [x] 1 rfl uA (jP a b)
theorem ta(w:World)(x y)(a:0<=x)(b:x<256)(c:0<=y)(d:y<256):Bs (w.alloc (.cells #[.int .u8 x,.int .u8 y] 5)) (some ⟨w.1.size,0,none⟩) 2 2 [x,y]:=
 mK w [x,y] 2 rfl uA (pD a b (jP c d))
theorem zc(w:World):Bs (w.alloc (.cells #[.int .u8 0,.int .u8 0,.int .u8 0,.int .u8 0] 5)) (some ⟨w.1.size,0,none⟩) 4 4 [0,0,0,0]:=
 mK w [0,0,0,0] 4 rfl uA (lH 4)
theorem eu{w A rest o q U}(z:o.guard=none)(s x)(H:o.op= .call {callee:= .builtin .append,args:=#[s,x],argTypes:=#[56,56]})(B a n c xs)(I:q.eval s= .slice a n c)(f:Own B w a n c xs)(b m d l)(hx:q.eval x= .slice b m d)(p:Bs w b m d l)(R:n+m<=140737488355328)(D:B<=w.1.size)(h:∀r t w',Own B w' r (n+m) t (xs++l)->Below B w w'->w.grownBy w' (Value.slice a n c).ownBlock->wpList prog A U rest (q.put o.dst (.slice r (n+m) t)) w'):wpList prog A U (o::rest) q w:=by
 obtain⟨i,E,J,K,L⟩:=DB jM;cases b with
 |none=>
  have P:=p.nil rfl;have S:m=0:=by have:=p.le;omega
  subst P;subst S;have G:=y3 p.len_eq;subst G;refine wpList_append_own_none z s x _ H B 5 i 1 underlying56 E _ n (ob xs) I f hx ?_;exact h a c w (by simpa using f) t7 ⟨rfl,rfl,rfl,t6,fun _ _ _=>rfl⟩
 |some M=>
  refine wpList_append_own w z s x _ H B 5 i _ 1 1 underlying56 E J K L rfl uA _ n (ob xs) I f M m d (ob l) hx (by simp[ob,p.len_eq]) ?_ (pB l) (by unfold maxLen;omega) uA D ?_
  ·intro j u C;have F:j<l.length:=by have:=(wC.1 C).1;simpa [ob]using this
   obtain⟨Y,X,e,_,O⟩:=p.at_ (by have:=p.len_eq;omega);cases e;rw[jN? l j F]at C;rw[C8,O j (by have:=p.len_eq;omega)];exact C
  ·intro v' w' v y _;have e:ob xs++ob l=ob (xs++l):=by simp[ob]
   rw[e]at v;have T:∃r t,v'= .slice r (n+m) t:=by
    rcases v.2 with⟨rfl,N⟩|⟨g,V,W,rfl,_⟩
    ·exact⟨none,0,by rw[N]⟩
    ·exact⟨_,_,rfl⟩
   obtain⟨r,t,rfl⟩:=T;exact h r t w' v (t7.grown y D (fun k Q=>(f.lt k Q).1)) y
theorem ze(l i x):(ob l).set i (.int .u8 x)=ob (l.set i x):=by simp[ob,List.map_set]
theorem aa{b:Type}(a:b):∃x,x=a:=⟨_,rfl⟩
theorem cO{b:Type}(a:b):∃x,a=x:=⟨_,rfl⟩
structure OnlyB(g:Nat)(w w':World):Prop where
 os:w'.os=w.os
 tape:w'.tape=w.tape
 output:w'.output=w.output
 size:w.1.size<=w'.1.size
 block:∀k,k<w.1.size->k≠g->w'.heap[k]?=w.heap[k]?
theorem OnlyB.refl(g w):OnlyB g w w:=⟨rfl,rfl,rfl,t6,fun _ _ _=>rfl⟩
theorem OnlyB.trans{g a b c}(h:OnlyB g a b)(k:OnlyB g b c):OnlyB g a c:=
 ⟨k.os.trans h.os,k.tape.trans h.tape,k.output.trans h.output,wg h.size k.size,fun i d e=>(k.block i (wQ d h.size) e).trans (h.block i d e)⟩
theorem Below.onlyB{w w'}(h:Below w.1.size w w')(g):OnlyB g w w':=⟨h.os,h.tape,h.output,h.size,fun k a _=>h.block k a⟩
theorem OnlyB.below{g B w w'}(h:OnlyB g w w')(c:B<=g)(b:B<=w.1.size):Below B w w':=⟨h.os,h.tape,h.output,h.size,fun k a=>h.block k (wQ a b) uA⟩
theorem OnlyB.own{g B w w' a n c l}(h:OnlyB g w w')(b:Own B w a n c l)(d:(Value.slice a n c).ownBlock≠some g):Own B w' a n c l:=by
 refine⟨b.1,?_⟩;rcases b.2 with h2|⟨k,cap,cur,hv,hg,hh,r⟩
 ·exact v7 h2
 ·exact v6 ⟨k,cap,cur,hv,hg,by rw[h.block k (wy.1 hh).1 (fun e=>d (by rw[hv,e];rfl))];exact hh,r⟩
theorem OnlyB.drew{g w w'}(h:OnlyB g w w'):OnlyB g w w'.drew:=⟨h.os,h.tape,h.output,h.size,h.block⟩
def hA(l:List Int):Value:= .agg (ob l).toArray
def Blk(w:World)(t g:Nat)(xs:List Value):Prop:=w.heap[g]?=some (.cells xs.toArray t (0,0))
theorem Blk.lt{w t g xs}(h:Blk w t g xs):g<w.1.size:=(wy.1 h).1
theorem Blk.cell{w t g xs}(h:Blk w t g xs)(j):w.cell? ⟨g,j,none⟩=xs[j]?:=by
 rw[DC w g j _ _ _ h];simp
theorem Blk.free{w t g xs}(h:Blk w t g xs)(j):w.frozen? ⟨g,j,none⟩=false:=frozen_of_row w g j _ _ h
theorem Blk.below{w w' t g xs}(h:Blk w t g xs)(a:Below w.1.size w w'):Blk w' t g xs:=by
 unfold Blk;rw[a.block g h.lt];exact h
theorem Blk.only{w w' t g k xs}(h:Blk w t g xs)(b:OnlyB k w w')(a:g≠k):Blk w' t g xs:=by
 unfold Blk;rw[b.block g h.lt a];exact h
theorem Blk.set{w t g xs}(h:Blk w t g xs)(j v):Blk (w.setCell ⟨g,j,none⟩ v) t g (xs.set j v):=by
 have:=heap_setCell_same w g j xs.toArray t v h;unfold Blk;rw[this];simp
theorem ax(w g j v):OnlyB g w (w.setCell ⟨g,j,none⟩ v):=⟨rfl,rfl,rfl,vo,fun k b a=>Below.heap_setCell _ _ _ _ a⟩
theorem aq(w:World)(t:Nat)(cs):Blk (w.alloc (.cells cs t)) t w.1.size cs.toList:=by
 unfold Blk;rw[heap_alloc_last]
theorem bt{P d rest o a m}(g:o.guard=none)(f x y)(k:o.op= .store f x y)(w:World)(c b t)(hx:a.eval x= .pointer (some ⟨w.1.size,0,none⟩))(l:a.eval y= .agg b)(j:(P.info? f).map (·.size)=some b.size)(e:c.size=b.size)(i:b.all (·.oneCell')=true)(h:wpList P d m rest (a.put o.dst undef) (w.alloc (.cells b t))):wpList P d m (o::rest) a (w.alloc (.cells c t)):=by
 refine B8 g f x y k w.1.size b hx l t c (heap_alloc_last w _) j e i ?_;rw[World.setRow_alloc_new];exact h
theorem du(w g cs):OnlyB g w (w.setRow g cs):=
 ⟨rfl,rfl,rfl,by simp[World.setRow],fun k b a=>by simp[World.setRow,Array.getElem?_modify,Ne.symm a]⟩
theorem Blk.setRow{w t g xs}(h:Blk w t g xs)(a):Blk (w.setRow g a.toArray) t g a:=setRow_heap w g _ _ t _ h
theorem tc{P:Program}(w:World)(g a:Nat)(b:TypeId)(cs:List Value)(d:TypeDesc)(k:∀j v,cs[j]?=some v->w.cell? ⟨g,a+j,none⟩=some v)
 (n:P.underlying b=some d)(p:(match d with| .struct _| .array _ _=>true|_=>false)=true)(f:(P.info? b).map (·.size)=some cs.length):
 (loadVar b ⟨g,a,none⟩).run P w= .ok (.agg cs.toArray) w:=by
 have l:=
  run_loadCells_list (P:=P) w ⟨g,a,none⟩ cs (fun j v o=>by rw[C8];exact k j v o)
 cases e:P.info? b with
 |none=>simp[e]at f
 |some i=>
  have m:i.size=cs.length:=by simpa [e]using f
  have c:(isAgg b).run P w= .ok true w:=by
   unfold isAgg;rw[CT,run_underlying n w];cases d<;>simp_all
  simp[loadVar,Sem.run_bind,c,sizeOf,typeInfo,e,m,l]
theorem dG{P:Program}{e:Array Oper}{rest:List Oper}{o:Oper}{a:Act}{w:World}{q:Exit->Act->World->Prop}(f:o.guard=none)(c:TypeId)(x:Operand)(n:o.op= .load c x)
 (g b:Nat)(hx:a.eval x= .pointer (some ⟨g,b,none⟩))(cs:List Value)(d:TypeDesc)(k:∀j v,cs[j]?=some v->w.cell? ⟨g,b+j,none⟩=some v)
 (p:P.underlying c=some d)(l:(match d with| .struct _| .array _ _=>true|_=>false)=true)(m:(P.info? c).map (·.size)=some cs.length)
 (h:wpList P e q rest (a.put o.dst (.agg cs.toArray)) w):wpList P e q (o::rest) a w:=
 DR f fun _ i=>by
  unfold Oper.wp execOp;simp only[n,hx,Instr.loadAt,Instr.sureAddr,CT,C2,DI,tc w g b c cs d k p l m];exact i _ _ h
theorem bo{P w t}{b:Operand->Value}{x o p v}(a:o.op= .load t x)(hx:b x=p)(h:(Instr.loadAt t p).run P w= .ok v w):(execOp b o).run P w= .ok (.value v) w:=by
 unfold execOp;simp only[a,hx,CT,h,DI,C2]
def aK(f:Nat->List Value):Nat->List Value
 |0=>[]
 |k+1=>aK f k++f k
structure IsRow(s:Nat)(f:Nat->List Value)(n:Nat):Prop where
 len:∀i,i<n->(f i).length=s
 one:∀i,i<n->∀u∈f i,u.oneCell'=true
theorem IsRow.mono{s f n k}(H:IsRow s f n)(b:k<=n):IsRow s f k:=⟨fun i a=>H.len i uA,fun i a=>H.one i uA⟩
theorem gU{s f}:∀n,IsRow s f n->(aK f n).length=n*s
 |0,_=>by simp[aK]
 |n+1,H=>by
  rw[aK,wb,gU n (H.mono uA),H.len n uA,x9,x6]
theorem mL{s f}:∀n,IsRow s f n->∀i q,i<n->q<s->(aK f n)[i*s+q]?=(f i)[q]?
 |0,_,i,_,a,_=>by omega
 |n+1,H,i,q,a,d=>by
  rw[aK];have b:=gU n (H.mono uA);by_cases e:i=n
  ·subst e;rw[xb uA,b,show i*s+q-i*s=q by omega]
  ·have c:(i+1)*s<=n*s:=y1 _ uA;rw[x9,x6]at c;rw[w4 uA];exact mL n (H.mono uA) i q uA d
theorem lI{f f'}:∀n,(∀i,i<n->f i=f' i)->aK f n=aK f' n
 |0,_=>rfl
 |n+1,H=>by rw[aK,aK,lI n (fun i a=>H i uA),H n uA]
theorem pE{s f}:∀n,IsRow s f n->∀u∈aK f n,u.oneCell'=true
 |0,_,u,a=>by simp[aK]at a
 |n+1,H,u,a=>by
  rw[aK,w6]at a;rcases a with a|a
  ·exact pE n (H.mono uA) u a
  ·exact H.one n uA u a
structure RRow(w:World)(s:Nat)(a:Option Addr)(n c:Nat)(f:Nat->List Value):Prop where
 ok:IsRow s f n
 le:n<=c
 le':c<=maxLen
 nil:a=none->c=0
 at_:0<n->∃b off,a=some ⟨b,off,none⟩/\b<w.1.size/\∀i q,i<n->q<s->w.cell? ⟨b,off+i*s+q,none⟩=(f i)[q]?
theorem RRow.below{w w' s a n c f}(H:RRow w s a n c f)(g:Below w.1.size w w'):RRow w' s a n c f:=
 ⟨H.ok,H.le,H.le',H.nil,fun m=>by
  obtain⟨b,d,e,j,k⟩:=H.at_ m;exact⟨b,d,e,wQ j g.size,fun i q l o=>by rw[g.cell (p:=⟨b,d+i*s+q,none⟩) j];exact k i q l o⟩⟩
theorem RRow.cells{w s n c b a f}(H:RRow w s (some ⟨b,a,none⟩) n c f)(i)(d:i<n):∀j v,(f i)[j]?=some v->w.cell? ⟨b,a+i*s+j,none⟩=some v:=fun j v g=>by
 have l:j<s:=by have:=(wC.1 g).1;rw[H.ok.len i d]at this;exact this
 obtain⟨o,m,e,_,k⟩:=H.at_ uA;cases e;rw[k i j d l,g]
def ORow(e s B:Nat)(w:World)(a:Option Addr)(n c:Nat)(f:Nat->List Value):Prop:=w.ownsRow B e s (.slice a n c) n (aK f n)
theorem ORow.reads{e s B w a n c f}(H:ORow e s B w a n c f)(d:IsRow s f n):RRow w s a n c f:=by
 rcases H.2 with⟨b,v⟩|⟨g,t,u,b,z,m,k,l,x,y⟩
 ·cases b;exact⟨d,uA,wa _,fun _=>rfl,fun j=>absurd j uA⟩
 ·cases b;refine⟨d,k,l,fun e=>(by cases e),fun j=>⟨g,0,rfl,(wy.1 m).1,fun i q o r=> ?_⟩⟩;have p:(i+1)*s<=n*s:=y1 _ uA;rw[x9,x6]at p;rw[show 0+i*s+q=i*s+q by omega,DP H (i*s+q) uA];exact mL n d i q o r
theorem ORow.below{e s B w w' a n c f}(H:ORow e s B w a n c f)(b:Below w.1.size w w'):ORow e s B w' a n c f:=bQ H b
theorem ORow.mono{e s B B' w a n c f}(H:ORow e s B w a n c f)(b:B'<=B):ORow e s B' w a n c f:=World.ownsRow.mono H b
theorem ORow.congr{e s B w a n c f f'}(H:ORow e s B w a n c f)(h:∀i,i<n->f i=f' i):ORow e s B w a n c f':=by
 unfold ORow at H ⊢;rw[<-lI n h];exact H
theorem lJ(e s B w f):ORow e s B w none 0 0 f:=World.ownsRow_nil w B _ _
theorem td(e s B)(w:World)(a:B<=w.1.size)(f):ORow e s B (w.alloc (.cells #[] e)) (some ⟨w.1.size,0,none⟩) 0 0 f:=by
 have:=World.ownsRow_lit (base:=B) (e:=e) (size:=s) w #[] 0 a (by unfold maxLen;omega) vo;simpa [ORow,aK]using this
def cH(f:Nat->List Value)(n:Nat)(x:List Value):Nat->List Value:=fun i=>if i=n then x else f i
theorem iJ(f n x):cH f n x n=x:=by simp[cH]
theorem jQ(f){n i}(x)(a:i<n):cH f n x i=f i:=by simp[cH,Nat.ne_of_lt a]
theorem lK(f n x):aK (cH f n x) (n+1)=aK f n++x:=by
 rw[aK,iJ,lI n (fun i a=>jQ f x a)]
structure ElT(t e s:Nat)(z:Value)(bytes:Nat):Prop where
 und:prog.underlying t=some (.slice e)
 inf:(prog.info? e).map (fun i=>(i.zero,i.size,i.bytes))=some (some z,s,bytes)
 cells:z.cells.size=s
 pos:0<s
theorem te{w1}{o:Oper}{b v P}(so xo){t e s bytes O}(T:ElT t e s O bytes)(J:o.op= .call {callee:= .builtin .append,args:=#[so,xo],argTypes:=#[t,t]})(B a n c f)(K:b.eval so= .slice a n c)(p:ORow e s B w1 a n c f)(x)(z:x.length=s)(y:∀u∈x,u.oneCell'=true)(hx:b.eval xo= .slice (some ⟨w1.1.size,0,none⟩) 1 1)(R:n<=1048576)(w:bytes<=1048576)(E:B<=w1.1.size)(F:∀d l w',ORow e s B w' d (n+1) l (cH f n x)->Below B w1 w'->(w1.alloc (.cells x.toArray e)).grownBy w' (Value.slice a n c).ownBlock->v (b.put o.dst (.slice d (n+1) l)) w'):
 o.wp prog b (w1.alloc (.cells x.toArray e)) v P:=by
 obtain⟨i,G,A,C,D⟩:=DB T.inf;have r:=bAl w1 (.cells x.toArray e);refine wp_append_own _ so xo _ J B e i O s bytes T.und G A C D T.cells T.pos _ n (aK f n) K (bQ p r) ⟨w1.1.size,0,none⟩ 1 1 x hx (by rw[z,x6]) ?_ y (by unfold maxLen;omega) ?_ (by simp;omega) ?_
 ·intro j u H;rw[C8,wE];have:(w1.alloc (.cells x.toArray e)).cell? ⟨w1.1.size,j,none⟩=x.toArray[j]?:=DC _ w1.1.size j _ e (0,0) (D6 w1 _);rw[this,<-H];simp
 ·have:(n+1)*bytes<=(n+1)*1048576:=A1 _ w;omega
 ·intro v' w' m q _;rw[<-lK]at m;have L:∃d l,v'= .slice d (n+1) l:=by
   rcases m.2 with⟨rfl,Q⟩|⟨g,M,N,rfl,_⟩
   ·omega
   ·exact⟨_,_,rfl⟩
  obtain⟨d,l,rfl⟩:=L;exact F d l w' m ((r.mono E).trans (t7.grown q (by simp;omega) (fun k I=>(Ct (bQ p r) k I).1))) q
theorem tf{w1 i rest o b E}(l:o.guard=none)(so xo){t e s bytes F}(T:ElT t e s F bytes)(C:o.op= .call {callee:= .builtin .append,args:=#[so,xo],argTypes:=#[t,t]})(B a n c f)(D:b.eval so= .slice a n c)(j:ORow e s B w1 a n c f)(x)(p:x.length=s)(m:∀u∈x,u.oneCell'=true)(hx:b.eval xo= .slice (some ⟨w1.1.size,0,none⟩) 1 1)(A:n<=1048576)(k:bytes<=1048576)(w:B<=w1.1.size)(z:∀d g w',ORow e s B w' d (n+1) g (cH f n x)->Below B w1 w'->(w1.alloc (.cells x.toArray e)).grownBy w' (Value.slice a n c).ownBlock->wpList prog i E rest (b.put o.dst (.slice d (n+1) g)) w'):
 wpList prog i E (o::rest) b (w1.alloc (.cells x.toArray e)):=
 DR l fun _ y=>te so xo T C B a n c f D j x p m hx A k w fun d g w' q r v=>y _ _ (z d g w' q r v)
theorem tg{P}(w g b)(e t:TypeId)(a cs)(l:Blk w t g a)(f:(P.info? e).map (·.size)=some cs.length)(c:b+cs.length<=a.length)(k:∀v∈cs,v.oneCell'=true):
 (storeVar e ⟨g,b,none⟩ (.agg cs.toArray)).run P w= .ok () (w.setRow g (a.take b++cs++a.drop (b+cs.length)).toArray):=by
 have:=run_storeCells_at P g b t cs 0 a.toArray w l (by simpa using c) k;cases d:P.info? e with
 |none=>simp[d]at f
 |some i=>
  have j:cs.length=i.size:=by simp[d]at f;omega
  simp only[w9]at this;simp[storeVar,sizeOf,typeInfo,d,Value.cells,j];simpa [j]using this
theorem lL{e s B g n w f}(c:Blk w e g (aK f n))(d:IsRow s f n)(b:B<=g)(i:n<=1048576):ORow e s B w (some ⟨g,0,none⟩) n n f:=by
 have a:=gU n d;exact⟨a,v6 ⟨g,n,(aK f n).toArray,rfl,b,c,t6,by unfold maxLen;omega,by simpa using a,w5 (by simp;omega)⟩⟩
theorem th{s}(f x)(hx:x.length=s):∀n j,j<n->IsRow s f n->(aK f n).take (j*s)++x++(aK f n).drop (j*s+s)=aK (cH f j x) n
 |0,j,h,_=>by omega
 |n+1,j,h,H=>by
  have b:=gU n (H.mono uA);have c:=H.len n uA;by_cases e:j=n
  ·subst e;rw[lK,aK,y0 uA,w5 uA,List.drop_eq_nil_of_le (by rw[wb];omega),wP]
  ·have a:(j+1)*s<=n*s:=y1 _ uA;rw[x9,x6]at a;rw[aK,aK,y0 uA,List.drop_append_of_le_length uA,<-wv,th f x hx n j uA (H.mono uA)];have:cH f j x n=f n:=by simp[cH,Ne.symm e]
   rw[this]
def i7(f:Nat->List Value)(n:Nat)(g:Nat->List Value):Nat->List Value:=fun i=>if i<n then f i else g (i-n)
theorem tj(f n g):∀m,aK (i7 f n g) (n+m)=aK f n++aK g m
 |0=>by
  rw[w9,lI n (f':=f) (fun i a=>by simp[i7,a])];simp[aK]
 |m+1=>by
  rw[<-Nat.add_assoc,aK,tj f n g m,aK,show i7 f n g (n+m)=g m from by unfold i7;rw[CH uA,Nat.add_sub_cancel_left],wv]
theorem zf{w}{o:Oper}{p F an}(so xo){t e s bytes am}(T:ElT t e s am bytes)(M:o.op= .call {callee:= .builtin .append,args:=#[so,xo],argTypes:=#[t,t]})(B a n c f)(O:p.eval so= .slice a n c)(k:ORow e s B w a n c f)(b m d g)(hx:p.eval xo= .slice b m d)(l:RRow w s b m d g)(aA:n+m<=1048576)(G:bytes<=1048576)(Z:B<=w.1.size)(J:∀q r w',ORow e s B w' q (n+m) r (i7 f n g)->w.grownBy w' (Value.slice a n c).ownBlock->F (p.put o.dst (.slice q (n+m) r)) w'):
 o.wp prog p w F an:=by
 obtain⟨i,K,Q,R,S⟩:=DB T.inf;have D:=T.pos;cases b with
 |none=>
  have ac:=l.nil rfl;have ad:m=0:=by have:=l.le;omega
  subst ac;subst ad;have E:=run_append_owned_none (P:=prog) (w:=w) B t o.type e i s T.und K _ _ _ k;have Y:=J a c w (ORow.congr k (fun j C=>by unfold i7;rw[B4 uA])) ⟨rfl,rfl,rfl,t6,fun _ _ _=>rfl⟩;unfold Oper.wp;simp only[execOp,M,resolve,invoke,builtin,CT,C2,DI,wB,ws,wz,O,hx,E];exact Y
 |some U=>
  have ak:(n+m)*bytes<=(n+m)*1048576:=A1 _ G;refine wp_append_own _ so xo _ M B e i am s bytes T.und K Q R S T.cells T.pos _ n (aK f n) O k U m d (aK g m) hx (by rw[gU _ l.ok]) ?_ (pE _ l.ok) (by unfold maxLen;omega) uA Z ?_
  ·intro j u C;have y:j<m*s:=by have:=(wC.1 C).1;rw[gU _ l.ok]at this;exact this
   have L:0<m:=by rcases Nat.eq_zero_or_pos m with h|h;rw[h]at y;omega;exact h
   obtain⟨ap,A,V,_,ab⟩:=l.at_ L;cases V;have N:=Nat.div_lt_of_lt_mul (by rw[Nat.mul_comm];exact y);have z:j%s<s:=Nat.mod_lt _ D;have x:j/s*s+j%s=j:=by rw[Nat.mul_comm];exact Nat.div_add_mod j s
   have X:=ab (j/s) (j%s) N z;have H:=mL m l.ok (j/s) (j%s) N z;rw[x]at H;rw[C8,show A+j=A+j/s*s+j%s by rw[Nat.add_assoc,x],X,<-H];exact C
  ·intro v' w' v I _;rw[<-tj]at v;have ae:∃q r,v'= .slice q (n+m) r:=by
    rcases v.2 with⟨rfl,W⟩|⟨g,af,ag,rfl,_⟩
    ·exact⟨none,0,by rw[W]⟩
    ·exact⟨_,_,rfl⟩
   obtain⟨q,r,rfl⟩:=ae;exact J q r w' v I
def IW(k:Int)(n:Nat):List Int:=(List.range n).map fun i:Nat=>(k+(i:Int))%256
theorem mM{B w a n c l}(h:Own B w a n c l)(j:0<n):∃g,a=some ⟨g,0,none⟩/\B<=g:=by
 rcases h.2 with⟨e,i⟩|⟨g,d,f,e,b,_⟩
 ·omega
 ·cases e;exact⟨g,rfl,b⟩
structure RRecs(p:Nat)(w:World)(a:Option Addr)(n c:Nat)(I:Nat->Nat->Int)(A:Nat->Option Addr)(N C:Nat->Nat)(L:Nat->List Int):Prop where
 le:n<=c
 le':c<=maxLen
 nil:a=none->c=0
 at_:0<n->∃b off,a=some ⟨b,off,none⟩/\b<w.1.size/\∀i,i<n->(∀q,q<p->w.cell? ⟨b,off+i*(p+1)+q,none⟩=some (.int .i64 (I i q)))/\w.cell? ⟨b,off+i*(p+1)+p,none⟩=some (.slice (A i) (N i) (C i))
 data:∀i,i<n->Bs w (A i) (N i) (C i) (L i)
theorem RRecs.below{p w w' a n c s o N r L}(h:RRecs p w a n c s o N r L)(d:Below w.1.size w w'):RRecs p w' a n c s o N r L:=
 ⟨h.le,h.le',h.nil,fun l=>by
  obtain⟨b,k,e,g,j⟩:=h.at_ l;refine⟨b,k,e,wQ g d.size,fun i f=>⟨fun q m=> ?_,?_⟩⟩
  ·rw[d.cell (p:=⟨b,_,none⟩) g];exact(j i f).1 q m
  ·rw[d.cell (p:=⟨b,_,none⟩) g];exact(j i f).2,fun i f=>(h.data i f).below d⟩
def dH(p:Nat)(I:Nat->Int)(v:Value):List Value:=(List.range p).map (fun q=>Value.int .i64 (I q))++[v]
theorem tm(p a v):(dH p a v).length=p+1:=by simp[dH]
theorem zh(p a v q)(h:q<p):(dH p a v)[q]?=some (.int .i64 (a q)):=by
 simp[dH,List.getElem?_append_left,h]
theorem zi(p a v):(dH p a v)[p]?=some v:=by
 simp[dH]
def dy(p:Nat)(I:Nat->Nat->Int)(V:Nat->Value):Nat->List Value
 |0=>[]
 |n+1=>dy p I V n++dH p (I n) (V n)
theorem i8(p a b):∀n,(dy p a b n).length=n*(p+1)
 |0=>by simp[dy]
 |n+1=>by rw[dy,wb,i8 p a b n,tm,x9,x6]
theorem tn(p a b q)(d:q<p+1):∀n i,i<n->(dy p a b n)[i*(p+1)+q]?=(dH p (a i) (b i))[q]?
 |0,i,h=>by omega
 |n+1,i,h=>by
  rw[dy];by_cases e:i=n
  ·subst e;rw[xb (by rw[i8];omega),i8];congr 1;omega
  ·have c:(i+1)*(p+1)<=n*(p+1):=y1 _ uA;rw[x9,x6]at c;rw[w4 (by rw[i8];omega)];exact tn p a b q d n i uA
structure ORecs(p e:Nat)(B:Nat)(w:World)(a:Option Addr)(n c:Nat)(I:Nat->Nat->Int)(A:Nat->Option Addr)(N C:Nat->Nat)(L:Nat->List Int):Prop where
 row:w.ownsRow B e (p+1) (.slice a n c) n (dy p I (fun i=> .slice (A i) (N i) (C i)) n)
 data:∀i,i<n->Own B w (A i) (N i) (C i) (L i)
 byte:∀i,i<n->IsB (L i)
 sep1:∀i j,i<j->j<n->∀k,(Value.slice (A i) (N i) (C i)).ownBlock=some k->(Value.slice (A j) (N j) (C j)).ownBlock≠some k
theorem ORecs.reads{p e B w a n c r m N o L}(h:ORecs p e B w a n c r m N o L):RRecs p w a n c r m N o L:=by
 have k:=fun i b=>(h.data i b).bs (h.byte i b);rcases h.row.2 with⟨f,z⟩|⟨g,x,y,f,D,u,s,t,A,C⟩
 ·cases f;exact⟨uA,wa _,fun _=>rfl,fun l=>absurd l uA,k⟩
 ·cases f;have d:∀q i,i<n->q<p+1->w.cell? ⟨g,0+i*(p+1)+q,none⟩=(dH p (r i) (.slice (m i) (N i) (o i)))[q]?:=fun q i b j=>by
   have v:(i+1)*(p+1)<=n*(p+1):=y1 _ uA;rw[x9,x6]at v;rw[wE,DP h.row (i*(p+1)+q) uA];exact tn p r (fun i=> .slice (m i) (N i) (o i)) q j n i b
  refine⟨s,t,fun e=>(by cases e),fun l=>⟨g,0,rfl,(wy.1 u).1,fun i b=>⟨fun q j=> ?_,?_⟩⟩,k⟩
  ·rw[d q i b uA,zh _ _ _ _ j]
  ·rw[d p i b uA,zi]
theorem ORecs.below{p e B w w' a n c j f N g L}(h:ORecs p e B w a n c j f N g L)(b:Below w.1.size w w'):ORecs p e B w' a n c j f N g L:=
 ⟨bQ h.row b,fun i d=>(h.data i d).below b,h.byte,h.sep1⟩
theorem ORecs.mono{p e B B' w a n c j f N g L}(h:ORecs p e B w a n c j f N g L)(b:B'<=B):ORecs p e B' w a n c j f N g L:=
 ⟨World.ownsRow.mono h.row b,fun i d=>(h.data i d).mono b,h.byte,h.sep1⟩
theorem jR{w:World}{B B' e f size c:Nat}{v v' n r xs i}(m:w.ownsRow B e size v n xs)(o:w.ownsRow B' f c v' r i)(p:e≠f):∀k,v.ownBlock=some k->v'.ownBlock≠some k:=by
 intro k d b;rcases m.2 with⟨rfl,_⟩|⟨g,s,t,rfl,_,q,_⟩
 ·simp[Value.ownBlock]at d
 ·rcases o.2 with⟨rfl,_⟩|⟨u,j,l,rfl,_,a,_⟩
  ·simp[Value.ownBlock]at b
  ·simp[Value.ownBlock]at d b;subst d;subst b;rw[q]at a;simp at a;exact p a.2
def upd{α:Type}(f:Nat->α)(n:Nat)(x:α):Nat->α:=fun i=>if i=n then x else f i
theorem be{a:Type}(f n)(x:a):upd f n x n=x:=by simp[upd]
theorem fY{a:Type}(f n)(x:a){i}(h:i<n):upd f n x i=f i:=by simp[upd];omega
theorem bw{a:Type}(f n)(x:a){i}(h:i≠n):upd f n x i=f i:=by simp[upd,h]
theorem lM(p){b I' c V'}:∀n,(∀i,i<n->(∀q,q<p->b i q=I' i q)/\c i=V' i)->dy p b c n=dy p I' V' n
 |0,_=>rfl
 |n+1,h=>by
  rw[dy,dy,lM p n (fun i d=>h i uA)];congr 1;unfold dH;rw[(h n uA).2];congr 1;refine List.map_congr_left fun q a=> ?_;rw[(h n uA).1 q (by simpa using a)]
theorem zj(p d a n c):∀u∈dH p d (.slice a n c),u.oneCell'=true:=by
 intro u b;simp only[dH,w6,x7,List.mem_singleton]at b;rcases b with⟨_,_,rfl⟩|rfl<;>rfl
theorem tq{w0 w1}{o:Oper}{z Y a2}(s x t)(aA:o.op= .call {callee:= .builtin .append,args:=#[s,x],argTypes:=#[t,t]})(p e B:Nat)(aS:prog.underlying t=some (.slice e))(R:∃i an,prog.info? e=some i/\i.zero=some an/\i.size=p+1/\an.cells.size=p+1/\i.bytes<=64)(ap:e≠5)(a n c W U N V L)(aB:z.eval s= .slice a n c)(d:ORecs p e B w0 a n c W U N V L)(I:Below w0.1.size w0 w1)(X D H F T)(K:Own w0.1.size w1 D H F T)(ab:IsB T)(Z:B<=w0.1.size)(cs)(ac:cs.toList=dH p X (.slice D H F))(hx:z.eval x= .slice (some ⟨w1.1.size,0,none⟩) 1 1)(a6:n<=1048576)(h:∀C E w',ORecs p e B w' C (n+1) E (upd W n X) (upd U n D) (upd N n H) (upd V n F) (upd L n T)->Below B w1 w'->(∀{A:Nat}{m:Option Addr}{y r:Nat}{G:List Int},Own A w1 m y r G->Own A w' m y r G)->(w1.alloc (.cells cs e)).grownBy w' (Value.slice a n c).ownBlock->Y (z.put o.dst (.slice C (n+1) E)) w'):o.wp prog z (w1.alloc (.cells cs e)) Y a2:=by
 obtain⟨i,an,l,af,ag,ak,am⟩:=R;have O:=bAl w1 (.cells cs e);have q:=I.trans (O.mono I.size);have aX:=I.size;refine wp_append_own _ s x t aA B e i an (p+1) i.bytes aS l af ag rfl ak uA _ n _ aB (bQ d.row q) ⟨w1.1.size,0,none⟩ 1 1 (dH p X (.slice D H F)) hx (by rw[tm,x6]) ?_ (zj _ _ _ _ _) (by unfold maxLen;omega) ?_ (by simp;omega) ?_
 ·intro j u S;rw[C8,wE];rw[<-ac]at S;have:=DC _ w1.1.size j cs e (0,0) (D6 w1 _);rw[this,<-S];simp
 ·have:(n+1)*i.bytes<=(n+1)*64:=A1 _ am;omega
 ·intro v' w' P J _;have aT:∃C E,v'= .slice C (n+1) E:=by
   rcases P.2 with⟨rfl,a5⟩|⟨g,a0,a1,rfl,_⟩
   ·omega
   ·exact⟨_,_,rfl⟩
  obtain⟨C,E,rfl⟩:=aT;have w:∀{A:Nat}{m:Option Addr}{y r:Nat}{G:List Int},Own A (w1.alloc (.cells cs e)) m y r G->Own A w' m y r G:=fun{A m y r G} M=>by
   refine World.ownsRow.kept M J ?_;cases v:(Value.slice m y r).ownBlock with
   |none=>exact v7 rfl
   |some k=>exact v6 fun Q=>jR M (bQ d.row q) (ED ap) k v Q.symm
  refine h C E w' ⟨?_,fun i l=> ?_,fun i l=> ?_,fun i j ad S k v=> ?_⟩ ((O.mono (wg Z aX)).trans (t7.grown J (by simp;omega) (fun k v=>(Ct (bQ d.row q) k v).1))) (fun M=>w (M.below O)) J
  ·have Q:dy p (upd W n X) (fun i=> .slice (upd U n D i) (upd N n H i) (upd V n F i)) (n+1)=dy p W (fun i=> .slice (U i) (N i) (V i)) n++dH p X (.slice D H F):=by
    rw[dy,be,be,be,be];rw[lM p n (I':=W) (V':=fun i=> .slice (U i) (N i) (V i)) (fun i l=>⟨fun q _=>by rw[fY _ _ _ l],by rw[fY _ _ _ l,fY _ _ _ l,fY _ _ _ l]⟩)]
   rw[Q];exact P
  ·by_cases f:i=n
   ·subst f;rw[be,be,be,be];exact w ((K.below O).mono Z)
   ·have b:i<n:=uA;rw[fY _ _ _ b,fY _ _ _ b,fY _ _ _ b,fY _ _ _ b];exact w ((d.data i b).below q)
  ·by_cases f:i=n
   ·subst f;rw[be];exact ab
   ·rw[bw _ _ _ f];exact d.byte i uA
  ·have b:i<n:=uA;rw[fY _ _ _ b,fY _ _ _ b,fY _ _ _ b]at v;by_cases f:j=n
   ·subst f;rw[be,be,be];intro ae;have a3:=(Ct (d.data i b) k v).2;have a4:=(Ct K k ae).1;omega
   ·rw[bw _ _ _ f,bw _ _ _ f,bw _ _ _ f];exact d.sep1 i j ad uA k v
theorem zk{w0 w1 q rest o d W}(F:o.guard=none)(s x t)(S:o.op= .call {callee:= .builtin .append,args:=#[s,x],argTypes:=#[t,t]})(p e B:Nat)(U:prog.underlying t=some (.slice e))(u:∃i X,prog.info? e=some i/\i.zero=some X/\i.size=p+1/\X.cells.size=p+1/\i.bytes<=64)(Q:e≠5)(a n c K I N J L)(T:d.eval s= .slice a n c)(w:ORecs p e B w0 a n c K I N J L)(C:Below w0.1.size w0 w1)(M g m k l)(v:Own w0.1.size w1 g m k l)(D:IsB l)(O:B<=w0.1.size)(cs)(E:cs.toList=dH p M (.slice g m k))(hx:d.eval x= .slice (some ⟨w1.1.size,0,none⟩) 1 1)(R:n<=1048576)(h:∀f j w',ORecs p e B w' f (n+1) j (upd K n M) (upd I n g) (upd N n m) (upd J n k) (upd L n l)->Below B w1 w'->(∀{y:Nat}{z:Option Addr}{H A:Nat}{G:List Int},Own y w1 z H A G->Own y w' z H A G)->wpList prog q W rest (d.put o.dst (.slice f (n+1) j)) w'):wpList prog q W (o::rest) d (w1.alloc (.cells cs e)):=
 DR F fun _ P=>tq s x t S p e B U u Q a n c K I N J L T w C M g m k l v D O cs E hx R fun f j w' r b V _=>P _ _ (h f j w' r b V)
theorem jS{w0 w1 k o b u W V}(E:o.guard=none)(s x t)(Q:o.op= .call {callee:= .builtin .append,args:=#[s,x],argTypes:=#[t,t]})(p e B:Nat)(S:prog.underlying t=some (.slice e))(l:∃i U,prog.info? e=some i/\i.zero=some U/\i.size=p+1/\U.cells.size=p+1/\i.bytes<=64)(O:e≠5)(a n c J H N I L)(R:b.eval s= .slice a n c)(q:ORecs p e B w0 a n c J H N I L)(A:Below w0.1.size w0 w1)(K d j f g)(m:Own w0.1.size w1 d j f g)(C:IsB g)(M:B<=w0.1.size)(cs)(D:cs.toList=dH p K (.slice d j f))(hx:b.eval x= .slice (some ⟨w1.1.size,0,none⟩) 1 1)(P:n<=1048576)(h:∀v y w',ORecs p e B w' v (n+1) y (upd J n K) (upd H n d) (upd N n j) (upd I n f) (upd L n g)->Below B w1 w'->(∀{r:Nat}{w:Option Addr}{G z:Nat}{F:List Int},Own r w1 w G z F->Own r w' w G z F)->(w1.alloc (.cells cs e)).grownBy w' (Value.slice a n c).ownBlock->u (b.put o.dst (.slice v (n+1) y)) w'):
 if Region.wanted o (yielded k b.tmps)=true then Oper.wp prog o b (w1.alloc (.cells cs e)) u W else V:=by
 have T:Region.wanted o (yielded k b.tmps)=true:=by simp[Region.wanted,E]
 rw[B4 T];exact tq s x t Q p e B S l O a n c J H N I L R q A K d j f g m C M cs D hx P h
theorem jU(p e B w f c N d L):ORecs p e B w none 0 0 f c N d L:=
 ⟨World.ownsRow_nil _ _ _ _,fun i a=>absurd a uA,fun i a=>absurd a uA,fun i j _ b=>absurd b uA⟩
theorem io(p e B)(w:World)(b:B<=w.1.size)(g d N f L):ORecs p e B (w.alloc (.cells #[] e)) (some ⟨w.1.size,0,none⟩) 0 0 g d N f L:=
 ⟨World.ownsRow_lit w #[] 0 b (wa _) vo,fun i a=>absurd a uA,fun i a=>absurd a uA,fun i j _ c=>absurd c uA⟩
theorem jV(a n c l w)(h:Bs w a n c l)(k:n<=1048576):
 Calls prog 78 #[.slice a n c] w fun e w'=> ∃b d,e= .returned (.slice b n d)/\Below w.1.size w w'/\Own w.1.size w' b n d l:=by
 go_enter func78,ntmps78;go_wp2_with (at_builtin;refine eu rfl _ _ rfl w.1.size _ 0 0 [] rfl ?own a n c l rfl ?bs ?len ?B ?_)
 case own=>exact eI w [] 0 rfl uA _ t6
 case bs=>exact h.below (bAl _ _)
 case len=>omega
 case B=>simp
 intro b d w' g f _;have i:=(bAl _ _).trans f;have j:Own w.1.size w' b n d l:=by have:=g;simpa using this
 clear g f;go_wp2;go_ret;exact⟨b,d,rfl,i,j⟩
theorem Bs.piece{w b c n f l}(h:Bs w (some ⟨b,c,none⟩) n f l)(i m)(s:i+m<=n)(a)(k:m<=a)(g:a<=maxLen):Bs w (some ⟨b,c+i,none⟩) m a ((l.drop i).take m):=by
 refine⟨by simp[h.len_eq];omega,k,g,fun e=>(by cases e),fun t=> ?_,?_⟩
 ·obtain⟨r,q,e,p,d⟩:=h.at_ uA;cases e;refine⟨b,c+i,rfl,p,fun j o=> ?_⟩;rw[Nat.add_assoc,d (i+j) uA];simp[List.getD,o]
 ·refine gR (fun j=> ?_) m;have:=h.byte (i+j);simpa [List.getD]using this
theorem pF(a n c l w)(h:Bs w a n c l)(r:n<=1048576):
 Calls prog 83 #[.slice a n c] w fun e w'=> ∃b d,e= .returned (.slice b n d)/\Below w.1.size w w'/\Own w.1.size w' b n d l:=by
 cases a with
 |none=>
  have m:=h.nil rfl;have i:n=0:=by have:=h.le;omega
  subst m;subst i;have o:=y3 h.len_eq;subst o;have p:=fun w=>Lib.run_eql_slice_nil (P:=prog) w 56 5 none 0 0 0 0 underlying56;go_enter func83,ntmps83;go_wp2;go_ret;exact⟨none,0,rfl,t7,jO _ _⟩
 |some f=>
  have p:=fun w=>Lib.run_eql_slice_nil (P:=prog) w 56 5 (some f) n c 0 0 underlying56;go_enter func83,ntmps83;go_wp2_with (at_builtin;refine eu rfl _ _ rfl w.1.size _ 0 0 [] rfl ?own (some f) n c l rfl ?bs ?len ?B ?_)
  case own=>exact eI w [] 0 rfl uA _ t6
  case bs=>exact h.below (bAl _ _)
  case len=>omega
  case B=>simp
  intro b d w' j g _;have k:=(bAl _ _).trans g;have q:Own w.1.size w' b n d l:=by have:=j;simpa using this
  clear j g;go_wp2;go_ret;exact⟨b,d,rfl,k,q⟩
def num(v:Int)(k:Nat):List Int:=(List.range k).map fun i=>v/256^i%256
theorem ew(v k):(num v k).length=k:=by simp[num]
theorem mO(v k):num v (k+1)=num v k++[v/256^k%256]:=by simp[num,List.range_succ]
theorem ec(v k):IsB (num v k):=fun i=>by
 by_cases h:i<k
 ·simp[num,List.getD,h];omega
 ·simp[num,List.getD,h]
theorem tr(v:Int)(k):v/256^k/256=v/256^(k+1):=by
 rw[Int.pow_succ,<-Int.ediv_ediv_of_nonneg (Int.pow_nonneg uA)]
theorem zl(v:Int)(k)(a:0<=v)(b:v<=9223372036854775807):0<=v/256^k/\v/256^k<=9223372036854775807:=by
 have c:(0:Int)<256^k:=Int.pow_pos uA;refine⟨Int.ediv_nonneg a (Int.le_of_lt c),?_⟩;exact Int.le_trans (Int.ediv_le_self _ a) b
theorem i9(v)(k:Nat)(w)(r:0<=v)(s:v<=9223372036854775807)(z:k<=8):
 Calls prog 128 #[.int .i64 v,.int .i64 k] w fun e w'=> ∃a c,e= .returned (.slice a k c)/\Below w.1.size w w'/\Own w.1.size w' a k c (num v k):=by
 go_enter func128,ntmps128;go_wp2;go_loopw [0,5,6] (fun x o i wr=> ∃j a c,j<=k/\i= .int .i64 (j:Nat)/\o= .slice a j c/\x= .int .i64 (v/256^j)/\Below w.1.size w wr/\Own w.1.size wr a j c (num v j)) (fun _ _ i _=>k-(intOf i).toNat)
 case atStart=>
  refine⟨0,_,0,wa _,rfl,rfl,vo,bAl _ _,?_⟩;exact eI w [] 0 rfl uA _ t6
 case round=>
  obtain⟨j,a,c,y,rfl,rfl,rfl,b,f⟩:=hrel;have u:=zl v j r s;have n:Hid (v/256^j/256=v/256^(j+1)):=tr v j;have m:Hid (num v (j+1)=num v j++[v/256^j%256]):=mO v j;generalize v/256^j=x at*;by_cases t:j<k
  ·go_wp2_with (at_builtin;refine eu rfl _ _ rfl w.1.size a j c (num v j) rfl ?own _ 1 1 [x%256] rfl ?bs ?len ?B ?_)
   case own=>exact CV f _
   case bs=>exact fL wr (x%256) uA uA
   case len=>omega
   case B=>have:=b.size;simp;omega
   intro p q w' l d _;have g:=(b.alloc b.size _).trans d;clear f b d;go_wp2;go_roundw
   case rel=>exact⟨j+1,p,q,uA,by go_num,rfl,by rw[<-n.out],g,by rw[m.out];exact l⟩
   case measure=>simp[intOf];omega
  ·have e:j=k:=uA;subst e;go_wp2;go_ret;exact⟨a,c,rfl,b,f⟩
theorem pG(B a n c xs v)(k:Nat)(w)(g:Own B w a n c xs)(t:B<=w.1.size)(D:n<=1048576)(y:0<=v)(z:v<=9223372036854775807)(C:k<=8):
 Calls prog 189 #[.slice a n c,.int .i64 v,.int .i64 k] w fun e w'=> ∃a c,e= .returned (.slice a (n+k) c)/\Below B w w'/\Own B w' a (n+k) c (xs++num v k):=by
 go_enter func189,ntmps189;go_wp2;go_loopw [0,1,8] (fun o x i wr=> ∃j a c,j<=k/\i= .int .i64 (j:Nat)/\o= .slice a (n+j) c/\x= .int .i64 (v/256^j)/\Below B w wr/\Own B wr a (n+j) c (xs++num v j)) (fun _ _ i _=>k-(intOf i).toNat)
 case atStart=>exact⟨0,a,c,wa _,rfl,rfl,vo,t7,by simpa [num]using g⟩
 case round=>
  obtain⟨j,a,c,A,rfl,rfl,rfl,b,f⟩:=hrel;have q:Hid (v/256^j/256=v/256^(j+1)):=tr v j;have p:Hid (num v (j+1)=num v j++[v/256^j%256]):=mO v j;generalize v/256^j=x at*;by_cases u:j<k
  ·go_wp2_with (at_builtin;refine eu rfl _ _ rfl B a (n+j) c (xs++num v j) rfl ?own _ 1 1 [x%256] rfl ?bs ?len ?B ?_)
   case own=>exact CV f _
   case bs=>exact fL wr (x%256) uA uA
   case len=>omega
   case B=>have:=b.size;simp;omega
   intro r s w' m d _;have l:=(b.alloc (wg t b.size) _).trans d;clear f b d;go_wp2;go_roundw
   case rel=>exact⟨j+1,r,s,uA,by go_num,rfl,by rw[<-q.out],l,by rw[p.out];exact m⟩
   case measure=>simp[intOf];omega
  ·have e:j=k:=uA;subst e;go_wp2;go_ret;exact⟨a,c,rfl,b,f⟩
def bL(id kind n:Int):Bool:=decide (0<=id/\id<=1023/\1<=kind/\kind<=4/\n<=240)
theorem zm(id a n w)(h:bL id a n=true):
 Calls prog 173 #[.agg #[.int .i64 id,.int .i64 a,.int .i64 n]] w fun e w'=>e= .returned (.bool true)/\Below w.1.size w w':=by
 obtain⟨b,c,d,f,g⟩:=C3 h;clear h;go_enter func173,ntmps173;go_wp2;go_ret;exact⟨rfl,bAl _ _⟩
theorem zn(id a n w)(h:bL id a n=false):
 Calls prog 173 #[.agg #[.int .i64 id,.int .i64 a,.int .i64 n]] w fun e w'=>e= .returned (.bool false)/\Below w.1.size w w':=by
 have b:=of_decide_eq_false h;clear h;by_cases d:0<=id
 ·by_cases f:id<1024
  ·by_cases g:1<=a
   ·by_cases i:a<=4
    ·have j:¬n<=240:=uA;clear b;have c:decide (n<=240)=false:=by simpa using j
     go_enter func173,ntmps173;go_wp2;go_ret;exact⟨rfl,bAl _ _⟩
    ·clear b;have c:decide (a<=4)=false:=by simpa using i
     go_enter func173,ntmps173;go_wp2;go_ret;exact⟨rfl,bAl _ _⟩
   ·clear b;have c:decide (1<=a)=false:=by simpa using g
    go_enter func173,ntmps173;go_wp2;go_ret;exact⟨rfl,bAl _ _⟩
  ·clear b;have c:decide (id<1024)=false:=by simpa using f
   go_enter func173,ntmps173;go_wp2;go_ret;exact⟨rfl,bAl _ _⟩
 ·clear b;have c:decide (0<=id)=false:=by simpa using d
  go_enter func173,ntmps173;go_wp2;go_ret;exact⟨rfl,bAl _ _⟩
def ed(id kind n:Int):List Int:=num id 4++[kind,0]++num n 2++num 0 4
theorem zo(id b n w)(h:bL id b n=true)(G:0<=n):
 Calls prog 176 #[.agg #[.int .i64 id,.int .i64 b,.int .i64 n]] w fun e w'=> ∃a c,e= .returned (.slice a 12 c)/\Below w.1.size w w'/\Own w.1.size w' a 12 c (ed id b n):=by
 obtain⟨F,N,O,P,Q⟩:=C3 h;clear h;go_enter func176,ntmps176;go_wp2_with fail;refine(pG (w.1.size+1) none 0 0 [] id 4 _ (jO _ _) vo uA F uA uA).mono ?_;rintro e w1 ⟨u,A,rfl,d,j⟩;have H:w1.cell? ⟨w.1.size,1,none⟩=some (.int .i64 b):=by rw[d.cell (p:=⟨w.1.size,1,none⟩) (x3 _)];simp
 have s:w1.cell? ⟨w.1.size,2,none⟩=some (.int .i64 n):=by rw[d.cell (p:=⟨w.1.size,2,none⟩) (x3 _)];simp
 have K:w.1.size+1<=w1.1.size:=by have:=d.size;simpa using this
 have m:=(bAl _ _).trans (d.mono (x0 _));clear d;go_wp2_with (at_builtin;refine eu rfl _ _ rfl (w.1.size+1) u 4 A ([]++num id 4) rfl ?own _ 2 2 [b,0] rfl ?bs ?len ?B ?_)
 case own=>exact CV j _
 case bs=>exact ta w1 b 0 uA uA uA uA
 case len=>omega
 case B=>simp;omega
 intro v C t k f _;have I:t.cell? ⟨w.1.size,2,none⟩=some (.int .i64 n):=by rw[f.cell (p:=⟨w.1.size,2,none⟩) (x3 _),((B2 w1.1.size w1).alloc t6 _).cell (p:=⟨w.1.size,2,none⟩) K];exact s
 have L:w.1.size+1<=t.1.size:=by have:=f.size;simp at this;omega
 have o:=(m.alloc m.size _).trans (f.mono (x0 _));clear f H s m j;go_wp2_with fail;refine(pG (w.1.size+1) v 6 C _ n 2 _ k L uA G uA uA).mono ?_;rintro e J ⟨x,D,rfl,g,l⟩;have M:w.1.size+1<=J.1.size:=by have:=g.size;omega
 have q:=o.trans (g.mono (x0 _));clear g o k I;go_wp2_with fail;refine(pG (w.1.size+1) x 8 D _ 0 4 _ l M uA uA uA uA).mono ?_;rintro e R ⟨y,E,rfl,i,r⟩;have z:=q.trans (i.mono (x0 _));clear i q l;go_wp2;go_ret;exact⟨y,E,rfl,z,r.mono (x0 _)⟩
