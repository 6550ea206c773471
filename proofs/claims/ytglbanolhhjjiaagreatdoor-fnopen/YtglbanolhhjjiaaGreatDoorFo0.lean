import Derived.Test.YtglbanolhhjjiaaGreatDoorRows
import Derived.WalkSpells
import Derived.WalkLawsBesides
import Derived.BigQuiet
import Derived.Deep.Onto
import Derived.OpenShut
import Derived.Laws.AppendOwnNone
import Derived.Deep.WholeRow
namespace Go.Proofs.YtglbanolhhjjiaaGreatDoor
open Go.Proofs.Tryz
open Go.RowKit
set_option linter.unusedVariables false
set_option maxRecDepth 100000
set_option maxHeartbeats 32000000
theorem t1{n:Nat}:n<=n:=Nat.le_refl n
theorem t2{n:Nat}{w:World}:Below n w w:=Below.refl n w
theorem t6{p q:Prop}(a:p)(b:q):Hid (p/\q):=And.intro a b
theorem t7{p:Prop}(h:p:=by omega):p:=h
theorem uv{p:Prop}(h:p:=by decide):p:=h
theorem uA{p:Prop}(h:p:=by kernel_rfl):p:=h
theorem uB{p:Prop}(h:p:=by simp):p:=h
theorem u2:type_of% @And.intro:=@And.intro
theorem u3:type_of% @Nat.le_refl:=@Nat.le_refl
theorem u4:type_of% @Or.inr:=@Or.inr
theorem u5:type_of% @Or.inl:=@Or.inl
theorem u6:type_of% @Nat.zero_le:=@Nat.zero_le
theorem u7:type_of% @List.length_append:=@List.length_append
theorem u9:type_of% @Nat.le_trans:=@Nat.le_trans
theorem vk:type_of% @List.length_drop:=@List.length_drop
theorem vo:type_of% @List.map_cons:=@List.map_cons
theorem vJ:type_of% @List.append_assoc:=@List.append_assoc
theorem vR:type_of% @Array.getElem?_eq_some_iff:=@Array.getElem?_eq_some_iff
theorem v6:type_of% @List.map_nil:=@List.map_nil
theorem v7:type_of% @List.size_toArray:=@List.size_toArray
theorem wa:type_of% @List.map_toArray:=@List.map_toArray
theorem wb:type_of% @List.getElem?_eq_some_iff:=@List.getElem?_eq_some_iff
theorem wg:type_of% @Nat.zero_add:=@Nat.zero_add
theorem wi:type_of% @List.append_nil:=@List.append_nil
theorem ws:type_of% @Nat.lt_of_lt_of_le:=@Nat.lt_of_lt_of_le
theorem wv:type_of% @List.length_take:=@List.length_take
theorem wy:type_of% @List.getElem?_eq_getElem:=@List.getElem?_eq_getElem
theorem wz:type_of% @Bool.and_eq_true:=@Bool.and_eq_true
theorem wA:type_of% @List.mem_cons:=@List.mem_cons
theorem wB:type_of% @List.getElem?_append_left:=@List.getElem?_append_left
theorem wC:type_of% @List.take_of_length_le:=@List.take_of_length_le
theorem wE:type_of% @List.mem_append:=@List.mem_append
theorem wP:type_of% @List.drop_drop:=@List.drop_drop
theorem wQ:type_of% @List.length_cons:=@List.length_cons
theorem wR:type_of% @Nat.add_zero:=@Nat.add_zero
theorem wS:type_of% @List.mem_range:=@List.mem_range
theorem wX:type_of% @List.getElem?_append_right:=@List.getElem?_append_right
theorem w3:type_of% @Option.bind_eq_some_iff:=@Option.bind_eq_some_iff
theorem w4:type_of% @List.nil_append:=@List.nil_append
theorem w5:type_of% @List.contains_iff_mem:=@List.contains_iff_mem
theorem w6:type_of% @Bool.not_eq_true:=@Bool.not_eq_true
theorem w7:type_of% @Option.bind_some:=@Option.bind_some
theorem w8:type_of% @Nat.not_lt_zero:=@Nat.not_lt_zero
theorem w9:type_of% @Nat.lt_or_ge:=@Nat.lt_or_ge
theorem xa:type_of% @Nat.le_succ:=@Nat.le_succ
theorem xb:type_of% @Int.eq_ofNat_of_zero_le:=@Int.eq_ofNat_of_zero_le
theorem xc:type_of% @Nat.lt_succ_self:=@Nat.lt_succ_self
theorem xd:type_of% @List.take_succ_eq_append_getElem:=@List.take_succ_eq_append_getElem
theorem xr:type_of% @Option.map_eq_some_iff:=@Option.map_eq_some_iff
theorem xA:type_of% @Nat.one_mul:=@Nat.one_mul
theorem xC:type_of% @List.mem_map:=@List.mem_map
theorem xN:type_of% @List.getElem?_eq_none:=@List.getElem?_eq_none
theorem xP:type_of% @Nat.add_mul:=@Nat.add_mul
theorem x0:type_of% @List.take_length:=@List.take_length
theorem x2:type_of% @List.length_singleton:=@List.length_singleton
theorem x3:type_of% @List.getD_eq_getElem?_getD:=@List.getD_eq_getElem?_getD
theorem x4:type_of% @List.drop_eq_getElem_cons:=@List.drop_eq_getElem_cons
theorem x5:type_of% @List.take_append_of_le_length:=@List.take_append_of_le_length
theorem x6:type_of% @Nat.mul_le_mul_right:=@Nat.mul_le_mul_right
theorem x7:type_of% @List.length_map:=@List.length_map
theorem x8:type_of% @List.eq_nil_of_length_eq_zero:=@List.eq_nil_of_length_eq_zero
theorem x9:type_of% @List.all_eq_true:=@List.all_eq_true
theorem ya:type_of% @List.nodup_nil:=@List.nodup_nil
theorem yb:type_of% @List.getElem_mem:=@List.getElem_mem
theorem yc:type_of% @List.ext_getElem?:=@List.ext_getElem?
theorem yv:type_of% @Bool.true_and:=@Bool.true_and
theorem y0:type_of% @List.pairwise_cons:=@List.pairwise_cons
theorem y1:type_of% @List.nodup_cons:=@List.nodup_cons
theorem y2:type_of% @List.getElem?_map:=@List.getElem?_map
theorem y3:type_of% @List.drop_eq_nil_iff:=@List.drop_eq_nil_iff
theorem y4:type_of% @List.cons_append:=@List.cons_append
theorem y6:type_of% @Int.tdiv_eq_ediv_of_nonneg:=@Int.tdiv_eq_ediv_of_nonneg
theorem za:type_of% @Bool.false_and:=@Bool.false_and
theorem zb:type_of% @List.set_cons_zero:=@List.set_cons_zero
theorem zd:type_of% @List.nodup_append:=@List.nodup_append
theorem zs:type_of% @List.mem_cons_of_mem:=@List.mem_cons_of_mem
theorem zz:type_of% @List.map_append:=@List.map_append
theorem zP:type_of% @List.length_nil:=@List.length_nil
theorem zW:type_of% @List.drop_of_length_le:=@List.drop_of_length_le
theorem z1:type_of% @Nat.mul_le_mul_left:=@Nat.mul_le_mul_left
theorem z2:type_of% @Nat.le_of_lt:=@Nat.le_of_lt
theorem z6:type_of% @Int.tmod_eq_emod_of_nonneg:=@Int.tmod_eq_emod_of_nonneg
theorem z7:type_of% @Int.le_refl:=@Int.le_refl
theorem z8:type_of% @List.take_append_drop:=@List.take_append_drop
theorem AC:type_of% @List.take_add_one:=@List.take_add_one
theorem AF:type_of% @List.setIfInBounds_toArray:=@List.setIfInBounds_toArray
theorem AO:type_of% @List.map_take:=@List.map_take
theorem A0:type_of% @List.map_drop:=@List.map_drop
theorem A1:type_of% @List.length_set:=@List.length_set
theorem A2:type_of% @List.getElem?_set:=@List.getElem?_set
theorem A3:type_of% @List.set_cons_succ:=@List.set_cons_succ
theorem A4:type_of% @List.getElem?_set_ne:=@List.getElem?_set_ne
theorem A5:type_of% @List.take_succ_cons:=@List.take_succ_cons
theorem A6:type_of% @List.getD_cons_succ:=@List.getD_cons_succ
theorem Bn:type_of% @Below.refl:=@Below.refl
theorem BB:type_of% @bodyPost_ret:=@bodyPost_ret
theorem BC:type_of% @if_pos:=@if_pos
theorem BD:type_of% @wpList_load_row:=@wpList_load_row
theorem BO:type_of% @wpList_store_row:=@wpList_store_row
theorem BS:type_of% @World.ownsRow.lt:=@World.ownsRow.lt
theorem BV:type_of% @Calls.mono:=@Calls.mono
theorem BX:type_of% @if_neg:=@if_neg
theorem B1:type_of% @decide_eq_false:=@decide_eq_false
theorem B2:type_of% @decide_eq_true:=@decide_eq_true
theorem B3:type_of% @Sem.run_bind:=@Sem.run_bind
theorem B4:type_of% @World.ownsRow.alloc:=@World.ownsRow.alloc
theorem B5:type_of% @strOfNums_size:=@strOfNums_size
theorem B8:type_of% @congrArg:=@congrArg
theorem Ct:type_of% @Sem.run_pure:=@Sem.run_pure
theorem CC:type_of% @of_decide_eq_true:=@of_decide_eq_true
theorem CH:type_of% @underlying3:=@underlying3
theorem CP:type_of% @World.cell?_of_block:=@World.cell?_of_block
theorem CR:type_of% @Addr.add_lit:=@Addr.add_lit
theorem CT:type_of% @info_parts:=@info_parts
theorem CV:type_of% @cell_of_row:=@cell_of_row
theorem C0:type_of% @Result.andThen_ok:=@Result.andThen_ok
theorem C1:type_of% @World.ownsRow.cellAt:=@World.ownsRow.cellAt
theorem C2:type_of% @wpList_plain:=@wpList_plain
theorem C3:type_of% @run_loadVar_row:=@run_loadVar_row
theorem C4:type_of% @underlying5:=@underlying5
theorem C5:type_of% @below_drewN:=@below_drewN
theorem C8:type_of% @beq_eq_false_iff_ne:=@beq_eq_false_iff_ne
theorem DB:type_of% @decide_eq_true_eq:=@decide_eq_true_eq
theorem DC:type_of% @Value.slice.injEq:=@Value.slice.injEq
theorem DI:type_of% @heap_alloc_new:=@heap_alloc_new
theorem DP:type_of% @underlying9:=@underlying9
theorem DR:type_of% @World.size_drew:=@World.size_drew
theorem DX:type_of% @Ne.symm:=@Ne.symm
theorem bAl(w:World)(o:Obj):Below w.1.size w (w.alloc o):=t2.alloc t1 _
theorem bDr(w:World):Below w.1.size w w.drew:=⟨rfl,rfl,rfl,t1,fun _ _=>rfl⟩
theorem y5:prog.cellsOf 5=1:=uA
theorem jM:(prog.info? 5).map (fun i=>(i.zero,i.size,i.bytes))=some (some (.int .u8 0),1,1):=uA
def ob(l:List Int):List Value:=l.map (Value.int .u8)
def IsB(l:List Int):Prop:= ∀i,0<=l.getD i 0/\l.getD i 0<256
structure Bs(w:World)(a:Option Addr)(len cap:Nat)(l:List Int):Prop where
 len_eq:l.length=len
 le:len<=cap
 le':cap<=maxLen
 nil:a=none->cap=0
 at_:0<len->∃b off,a=some ⟨b,off,none⟩/\b<w.1.size/\∀i,i<len->w.cell? ⟨b,off+i,none⟩=some (.int .u8 (l.getD i 0))
 byte:IsB l
theorem Bs.below{w w' a d c l}(g:Bs w a d c l)(h:Below w.1.size w w'):Bs w' a d c l:=
 ⟨g.len_eq,g.le,g.le',g.nil,fun n=>by
  obtain⟨b,f,e,j,k⟩:=g.at_ n;refine⟨b,f,e,ws j h.size,fun i m=> ?_⟩;rw[h.cell (p:=⟨b,f+i,none⟩) j];exact k i m,g.byte⟩
theorem jN?(l:List Int)(j:Nat)(a:j<l.length):(ob l)[j]?=some (.int .u8 (l.getD j 0)):=by
 simp[ob,List.getD,a]
theorem pB(l):∀u∈ob l,u.oneCell'=true:=ints_oneCell .u8 l
theorem y7{w}{base e:Nat}{v n l}(c:w.ownsRow base e 1 v n (ob l))(d:IsB l):∃a b,v= .slice a n b/\Bs w a n b l:=by
 have f:l.length=n:=by have:=c.1;simpa [ob]using this
 rcases c.2 with⟨rfl,rfl⟩|⟨g,b,m,rfl,q,k,h,j,o,p⟩
 ·exact⟨none,0,rfl,f,t1,u6 _,fun _=>rfl,fun c=>absurd c t7,d⟩
 ·refine⟨_,b,rfl,f,h,j,fun e=>(by cases e),fun s=>⟨g,0,rfl,(vR.1 k).1,fun i r=> ?_⟩,d⟩;have:=c.cells (g:=g) rfl i (.int .u8 (l.getD i 0)) (jN? l i t7);rw[CR]at this;exact this
theorem bQ{w w'}{base e size:Nat}{v n xs}(b:w.ownsRow base e size v n xs)(a:Below w.1.size w w'):w'.ownsRow base e size v n xs:=by
 refine⟨b.1,?_⟩;rcases b.2 with h2|⟨g,cap,cur,hv,hg,hh,r⟩
 ·exact u5 h2
 ·exact u4 ⟨g,cap,cur,hv,hg,by rw[a.block g (vR.1 hh).1];exact hh,r⟩
theorem fK(w a b):Below w.1.size w ((w.alloc a).alloc b):=(bAl _ _).alloc uB _
theorem eX:IsB []:=fun i=>by simp
theorem gR{l}(b:IsB l)(k):IsB (l.take k):=fun i=>by
 by_cases a:i<k
 ·have:=b i;simpa [List.getD,List.getElem?_take,a]using this
 ·simp[List.getD,List.getElem?_take,a]
theorem y8{n}(a:(Lit.int .u8 n).wf=true):0<=n/\n<256:=by
 have:=bounds_u8 a;omega
theorem y9{w a d c f}(o:(a=none/\d=0/\c=0/\f=[])\/∃x,a=some x/\d<=c/\c<=maxLen/\f.length=c/\(∀i,i<f.length->w.cell? (x.add i)=some (.int .u8 (f.getD i 0)))/\∀n∈f,(Lit.int .u8 n).wf=true):
 Bs w a d c (f.take d):=by
 rcases o with⟨rfl,rfl,rfl,rfl⟩|⟨x,rfl,p,q,s,k,r⟩
 ·exact⟨rfl,t1,u6 _,fun _=>rfl,fun o=>absurd o t7,fun i=>by simp⟩
 ·refine⟨by simp;omega,p,q,fun e=>(by cases e),fun t=> ?_,gR (fun i=> ?_) d⟩
  ·obtain⟨b,m,j⟩:=x;have l:=k 0 t7;have h:j=none:=by simpa [Addr.add]using World.cell?_spot l
   subst h;refine⟨b,m,rfl,World.block_lt_of_cell? w _ l,fun i g=> ?_⟩;have:=k i t7;rw[CR]at this;rw[this];simp[List.getD,g]
  ·by_cases g:i<f.length
   ·have:=y8 (r (f[i]) (yb g));simpa [List.getD,g]using this
   ·simp[List.getD,g]
def Own(B:Nat)(w:World)(a:Option Addr)(n c:Nat)(l:List Int):Prop:=w.ownsRow B 5 1 (.slice a n c) n (ob l)
theorem Own.len{B w a n c l}(b:Own B w a n c l):l.length=n:=by
 have:=b.1;simpa [ob]using this
theorem Own.bs{B w a n c l}(h:Own B w a n c l)(b:IsB l):Bs w a n c l:=by
 obtain⟨f,g,e,d⟩:=y7 h b;cases e;exact d
theorem Own.below{B w w' a n c l}(d:Own B w a n c l)(b:Below w.1.size w w'):Own B w' a n c l:=bQ d b
theorem Own.mono{B B' w a n c l}(d:Own B w a n c l)(b:B'<=B):Own B' w a n c l:=World.ownsRow.mono d b
theorem jO(B w):Own B w none 0 0 []:=World.ownsRow_nil w B _ _
theorem eI(w:World)(l n)(b:l.length=n)(c:n<=1048576)(B)(a:B<=w.1.size):Own B (w.alloc (.cells (ob l).toArray 5)) (some ⟨w.1.size,0,none⟩) n n l:=by
 have:=World.ownsRow_lit (base:=B) (e:=5) (size:=1) w (ob l).toArray n a (by unfold maxLen;omega) (by simp[ob];omega);exact this
theorem jP{x}(a:0<=x)(b:x<256):IsB [x]:=fun i=>by
 cases i with
 |zero=>simpa using⟨a,b⟩
 |succ i=>simp
theorem dC{l m}(a:IsB l)(b:IsB m):IsB (l++m):=fun i=>by
 by_cases c:i<l.length
 ·have:=a i;simpa [List.getD,List.getElem?_append_left c]using this
 ·have:=b (i-l.length);simpa [List.getD,List.getElem?_append_right (Nat.le_of_not_lt c)]using this
theorem pD{x l}(a:0<=x)(b:x<256)(c:IsB l):IsB (x::l):=dC (jP a b) c
theorem lH(n):IsB (List.replicate n 0):=fun i=>by
 by_cases a:i<n<;>simp[List.getD,a]
theorem mK(w:World)(l n)(b:l.length=n)(c:n<=1048576)(a:IsB l):Bs (w.alloc (.cells (ob l).toArray 5)) (some ⟨w.1.size,0,none⟩) n n l:=
 (eI w l n b c 0 (u6 _)).bs a
theorem fL(w:World)(x)(a:0<=x)(b:x<256):Bs (w.alloc (.cells #[.int .u8 x] 5)) (some ⟨w.1.size,0,none⟩) 1 1 [x]:=
 mK w [x] 1 rfl t7 (jP a b)
theorem ta(w:World)(x y)(a:0<=x)(b:x<256)(c:0<=y)(d:y<256):Bs (w.alloc (.cells #[.int .u8 x,.int .u8 y] 5)) (some ⟨w.1.size,0,none⟩) 2 2 [x,y]:=
 mK w [x,y] 2 rfl t7 (pD a b (jP c d))
theorem zc(w:World):Bs (w.alloc (.cells #[.int .u8 0,.int .u8 0,.int .u8 0,.int .u8 0] 5)) (some ⟨w.1.size,0,none⟩) 4 4 [0,0,0,0]:=
 mK w [0,0,0,0] 4 rfl t7 (lH 4)
theorem eu{w z rest o p T}(y:o.guard=none)(s x)(G:o.op= .call {callee:= .builtin .append,args:=#[s,x],argTypes:=#[56,56]})(B a n c xs)(H:p.eval s= .slice a n c)(f:Own B w a n c xs)(b m d l)(hx:p.eval x= .slice b m d)(h:Bs w b m d l)(Q:n+m<=140737488355328)(C:B<=w.1.size)(W:∀q r w',Own B w' q (n+m) r (xs++l)->Below B w w'->w.grownBy w' (Value.slice a n c).ownBlock->wpList prog z T rest (p.put o.dst (.slice q (n+m) r)) w'):wpList prog z T (o::rest) p w:=by
 obtain⟨i,D,I,J,K⟩:=CT jM;cases b with
 |none=>
  have O:=h.nil rfl;have R:m=0:=by have:=h.le;omega
  subst O;subst R;have F:=x8 h.len_eq;subst F;refine wpList_append_own_none y s x _ G B 5 i 1 underlying56 D _ n (ob xs) H f hx ?_;exact W a c w (by simpa using f) t2 ⟨rfl,rfl,rfl,t1,fun _ _ _=>rfl⟩
 |some L=>
  refine wpList_append_own w y s x _ G B 5 i _ 1 1 underlying56 D I J K rfl t7 _ n (ob xs) H f L m d (ob l) hx (by simp[ob,h.len_eq]) ?_ (pB l) (by unfold maxLen;omega) t7 C ?_
  ·intro j u A;have E:j<l.length:=by have:=(wb.1 A).1;simpa [ob]using this
   obtain⟨Y,X,e,_,N⟩:=h.at_ (by have:=h.len_eq;omega);cases e;rw[jN? l j E]at A;rw[CR,N j (by have:=h.len_eq;omega)];exact A
  ·intro v' w' t v _;have e:ob xs++ob l=ob (xs++l):=by simp[ob]
   rw[e]at t;have S:∃q r,v'= .slice q (n+m) r:=by
    rcases t.2 with⟨rfl,M⟩|⟨g,U,V,rfl,_⟩
    ·exact⟨none,0,by rw[M]⟩
    ·exact⟨_,_,rfl⟩
   obtain⟨q,r,rfl⟩:=S;exact W q r w' t (t2.grown v C (fun k P=>(f.lt k P).1)) v
theorem ze(l i x):(ob l).set i (.int .u8 x)=ob (l.set i x):=by simp[ob,List.map_set]
theorem aa{b:Type}(a:b):∃x,x=a:=⟨_,rfl⟩
theorem cO{b:Type}(a:b):∃x,a=x:=⟨_,rfl⟩
structure OnlyB(g:Nat)(w w':World):Prop where
 os:w'.os=w.os
 tape:w'.tape=w.tape
 output:w'.output=w.output
 size:w.1.size<=w'.1.size
 block:∀k,k<w.1.size->k≠g->w'.heap[k]?=w.heap[k]?
theorem OnlyB.refl(g w):OnlyB g w w:=⟨rfl,rfl,rfl,t1,fun _ _ _=>rfl⟩
theorem OnlyB.trans{g a b c}(d:OnlyB g a b)(k:OnlyB g b c):OnlyB g a c:=
 ⟨k.os.trans d.os,k.tape.trans d.tape,k.output.trans d.output,u9 d.size k.size,fun i e f=>(k.block i (ws e d.size) f).trans (d.block i e f)⟩
theorem Below.onlyB{w w'}(a:Below w.1.size w w')(g):OnlyB g w w':=⟨a.os,a.tape,a.output,a.size,fun k b _=>a.block k b⟩
theorem OnlyB.below{g B w w'}(a:OnlyB g w w')(d:B<=g)(c:B<=w.1.size):Below B w w':=⟨a.os,a.tape,a.output,a.size,fun k b=>a.block k (ws b c) t7⟩
theorem OnlyB.own{g B w w' a n c l}(f:OnlyB g w w')(b:Own B w a n c l)(d:(Value.slice a n c).ownBlock≠some g):Own B w' a n c l:=by
 refine⟨b.1,?_⟩;rcases b.2 with h2|⟨k,cap,cur,hv,hg,hh,r⟩
 ·exact u5 h2
 ·exact u4 ⟨k,cap,cur,hv,hg,by rw[f.block k (vR.1 hh).1 (fun e=>d (by rw[hv,e];rfl))];exact hh,r⟩
theorem OnlyB.drew{g w w'}(a:OnlyB g w w'):OnlyB g w w'.drew:=⟨a.os,a.tape,a.output,a.size,a.block⟩
def hA(l:List Int):Value:= .agg (ob l).toArray
def Blk(w:World)(t g:Nat)(xs:List Value):Prop:=w.heap[g]?=some (.cells xs.toArray t (0,0))
theorem Blk.lt{w t g xs}(a:Blk w t g xs):g<w.1.size:=(vR.1 a).1
theorem Blk.cell{w t g xs}(a:Blk w t g xs)(j):w.cell? ⟨g,j,none⟩=xs[j]?:=by
 rw[CV w g j _ _ _ a];simp
theorem Blk.free{w t g xs}(a:Blk w t g xs)(j):w.frozen? ⟨g,j,none⟩=false:=frozen_of_row w g j _ _ a
theorem Blk.below{w w' t g xs}(b:Blk w t g xs)(a:Below w.1.size w w'):Blk w' t g xs:=by
 unfold Blk;rw[a.block g b.lt];exact b
theorem Blk.only{w w' t g k xs}(c:Blk w t g xs)(b:OnlyB k w w')(a:g≠k):Blk w' t g xs:=by
 unfold Blk;rw[b.block g c.lt a];exact c
theorem Blk.set{w t g xs}(a:Blk w t g xs)(j v):Blk (w.setCell ⟨g,j,none⟩ v) t g (xs.set j v):=by
 have:=heap_setCell_same w g j xs.toArray t v a;unfold Blk;rw[this];simp
theorem ax(w g j v):OnlyB g w (w.setCell ⟨g,j,none⟩ v):=⟨rfl,rfl,rfl,uB,fun k b a=>Below.heap_setCell _ _ _ _ a⟩
theorem aq(w:World)(t:Nat)(cs):Blk (w.alloc (.cells cs t)) t w.1.size cs.toList:=by
 unfold Blk;rw[heap_alloc_last]
theorem bt{P d rest o a l}(g:o.guard=none)(f x y)(j:o.op= .store f x y)(w:World)(c b t)(hx:a.eval x= .pointer (some ⟨w.1.size,0,none⟩))(k:a.eval y= .agg b)(i:(P.info? f).map (·.size)=some b.size)(e:c.size=b.size)(h:b.all (·.oneCell')=true)(m:wpList P d l rest (a.put o.dst undef) (w.alloc (.cells b t))):wpList P d l (o::rest) a (w.alloc (.cells c t)):=by
 refine BO g f x y j w.1.size b hx k t c (heap_alloc_last w _) i e h ?_;rw[World.setRow_alloc_new];exact m
theorem du(w g cs):OnlyB g w (w.setRow g cs):=
 ⟨rfl,rfl,rfl,by simp[World.setRow],fun k b a=>by simp[World.setRow,Array.getElem?_modify,Ne.symm a]⟩
theorem Blk.setRow{w t g xs}(b:Blk w t g xs)(a):Blk (w.setRow g a.toArray) t g a:=setRow_heap w g _ _ t _ b
theorem tc{P:Program}(w:World)(g a:Nat)(b:TypeId)(cs:List Value)(d:TypeDesc)(h:∀j v,cs[j]?=some v->w.cell? ⟨g,a+j,none⟩=some v)
 (m:P.underlying b=some d)(o:(match d with| .struct _| .array _ _=>true|_=>false)=true)(f:(P.info? b).map (·.size)=some cs.length):
 (loadVar b ⟨g,a,none⟩).run P w= .ok (.agg cs.toArray) w:=by
 have k:=
  run_loadCells_list (P:=P) w ⟨g,a,none⟩ cs (fun j v n=>by rw[CR];exact h j v n)
 cases e:P.info? b with
 |none=>simp[e]at f
 |some i=>
  have l:i.size=cs.length:=by simpa [e]using f
  have c:(isAgg b).run P w= .ok true w:=by
   unfold isAgg;rw[B3,run_underlying m w];cases d<;>simp_all
  simp[loadVar,Sem.run_bind,c,sizeOf,typeInfo,e,l,k]
theorem dG{P:Program}{e:Array Oper}{rest:List Oper}{o:Oper}{a:Act}{w:World}{p:Exit->Act->World->Prop}(f:o.guard=none)(c:TypeId)(x:Operand)(m:o.op= .load c x)
 (g b:Nat)(hx:a.eval x= .pointer (some ⟨g,b,none⟩))(cs:List Value)(d:TypeDesc)(i:∀j v,cs[j]?=some v->w.cell? ⟨g,b+j,none⟩=some v)
 (n:P.underlying c=some d)(k:(match d with| .struct _| .array _ _=>true|_=>false)=true)(l:(P.info? c).map (·.size)=some cs.length)
 (q:wpList P e p rest (a.put o.dst (.agg cs.toArray)) w):wpList P e p (o::rest) a w:=
 C2 f fun _ h=>by
  unfold Oper.wp execOp;simp only[m,hx,Instr.loadAt,Instr.sureAddr,B3,Ct,C0,tc w g b c cs d i n k l];exact h _ _ q
theorem bo{P w t}{b:Operand->Value}{x o p v}(a:o.op= .load t x)(hx:b x=p)(c:(Instr.loadAt t p).run P w= .ok v w):(execOp b o).run P w= .ok (.value v) w:=by
 unfold execOp;simp only[a,hx,B3,c,C0,Ct]
def aK(f:Nat->List Value):Nat->List Value
 |0=>[]
 |k+1=>aK f k++f k
structure IsRow(s:Nat)(f:Nat->List Value)(n:Nat):Prop where
 len:∀i,i<n->(f i).length=s
 one:∀i,i<n->∀u∈f i,u.oneCell'=true
theorem IsRow.mono{s f n k}(H:IsRow s f n)(b:k<=n):IsRow s f k:=⟨fun i a=>H.len i t7,fun i a=>H.one i t7⟩
theorem gU{s f}:∀n,IsRow s f n->(aK f n).length=n*s
 |0,_=>by simp[aK]
 |n+1,H=>by
  rw[aK,u7,gU n (H.mono t7),H.len n t7,xP,xA]
theorem mL{s f}:∀n,IsRow s f n->∀i q,i<n->q<s->(aK f n)[i*s+q]?=(f i)[q]?
 |0,_,i,_,a,_=>by omega
 |n+1,H,i,q,a,d=>by
  rw[aK];have b:=gU n (H.mono t7);by_cases e:i=n
  ·subst e;rw[wX t7,b,show i*s+q-i*s=q by omega]
  ·have c:(i+1)*s<=n*s:=x6 _ t7;rw[xP,xA]at c;rw[wB t7];exact mL n (H.mono t7) i q t7 d
theorem lI{f f'}:∀n,(∀i,i<n->f i=f' i)->aK f n=aK f' n
 |0,_=>rfl
 |n+1,H=>by rw[aK,aK,lI n (fun i a=>H i t7),H n t7]
theorem pE{s f}:∀n,IsRow s f n->∀u∈aK f n,u.oneCell'=true
 |0,_,u,a=>by simp[aK]at a
 |n+1,H,u,a=>by
  rw[aK,wE]at a;rcases a with a|a
  ·exact pE n (H.mono t7) u a
  ·exact H.one n t7 u a
structure RRow(w:World)(s:Nat)(a:Option Addr)(n c:Nat)(f:Nat->List Value):Prop where
 ok:IsRow s f n
 le:n<=c
 le':c<=maxLen
 nil:a=none->c=0
 at_:0<n->∃b off,a=some ⟨b,off,none⟩/\b<w.1.size/\∀i q,i<n->q<s->w.cell? ⟨b,off+i*s+q,none⟩=(f i)[q]?
theorem RRow.below{w w' s a n c f}(H:RRow w s a n c f)(g:Below w.1.size w w'):RRow w' s a n c f:=
 ⟨H.ok,H.le,H.le',H.nil,fun l=>by
  obtain⟨b,d,e,h,j⟩:=H.at_ l;exact⟨b,d,e,ws h g.size,fun i q k m=>by rw[g.cell (p:=⟨b,d+i*s+q,none⟩) h];exact j i q k m⟩⟩
theorem RRow.cells{w s n c b a f}(H:RRow w s (some ⟨b,a,none⟩) n c f)(i)(d:i<n):∀j v,(f i)[j]?=some v->w.cell? ⟨b,a+i*s+j,none⟩=some v:=fun j v g=>by
 have k:j<s:=by have:=(wb.1 g).1;rw[H.ok.len i d]at this;exact this
 obtain⟨m,l,e,_,h⟩:=H.at_ t7;cases e;rw[h i j d k,g]
def ORow(e s B:Nat)(w:World)(a:Option Addr)(n c:Nat)(f:Nat->List Value):Prop:=w.ownsRow B e s (.slice a n c) n (aK f n)
theorem ORow.reads{e s B w a n c f}(H:ORow e s B w a n c f)(d:IsRow s f n):RRow w s a n c f:=by
 rcases H.2 with⟨b,u⟩|⟨g,r,t,b,y,l,j,k,v,x⟩
 ·cases b;exact⟨d,t7,u6 _,fun _=>rfl,fun h=>absurd h t7⟩
 ·cases b;refine⟨d,j,k,fun e=>(by cases e),fun h=>⟨g,0,rfl,(vR.1 l).1,fun i q m p=> ?_⟩⟩;have o:(i+1)*s<=n*s:=x6 _ t7;rw[xP,xA]at o;rw[show 0+i*s+q=i*s+q by omega,C1 H (i*s+q) t7];exact mL n d i q m p
theorem ORow.below{e s B w w' a n c f}(H:ORow e s B w a n c f)(b:Below w.1.size w w'):ORow e s B w' a n c f:=bQ H b
theorem ORow.mono{e s B B' w a n c f}(H:ORow e s B w a n c f)(b:B'<=B):ORow e s B' w a n c f:=World.ownsRow.mono H b
theorem ORow.congr{e s B w a n c f f'}(H:ORow e s B w a n c f)(b:∀i,i<n->f i=f' i):ORow e s B w a n c f':=by
 unfold ORow at H ⊢;rw[<-lI n b];exact H
theorem lJ(e s B w f):ORow e s B w none 0 0 f:=World.ownsRow_nil w B _ _
theorem td(e s B)(w:World)(a:B<=w.1.size)(f):ORow e s B (w.alloc (.cells #[] e)) (some ⟨w.1.size,0,none⟩) 0 0 f:=by
 have:=World.ownsRow_lit (base:=B) (e:=e) (size:=s) w #[] 0 a (by unfold maxLen;omega) uB;simpa [ORow,aK]using this
def cH(f:Nat->List Value)(n:Nat)(x:List Value):Nat->List Value:=fun i=>if i=n then x else f i
theorem iJ(f n x):cH f n x n=x:=by simp[cH]
theorem jQ(f){n i}(x)(a:i<n):cH f n x i=f i:=by simp[cH,Nat.ne_of_lt a]
theorem lK(f n x):aK (cH f n x) (n+1)=aK f n++x:=by
 rw[aK,iJ,lI n (fun i a=>jQ f x a)]
structure ElT(t e s:Nat)(z:Value)(bytes:Nat):Prop where
 und:prog.underlying t=some (.slice e)
 inf:(prog.info? e).map (fun i=>(i.zero,i.size,i.bytes))=some (some z,s,bytes)
 cells:z.cells.size=s
 pos:0<s
theorem te{w1}{o:Oper}{b r O}(so xo){t e s bytes N}(T:ElT t e s N bytes)(I:o.op= .call {callee:= .builtin .append,args:=#[so,xo],argTypes:=#[t,t]})(B a n c f)(J:b.eval so= .slice a n c)(m:ORow e s B w1 a n c f)(x)(y:x.length=s)(w:∀u∈x,u.oneCell'=true)(hx:b.eval xo= .slice (some ⟨w1.1.size,0,none⟩) 1 1)(Q:n<=1048576)(v:bytes<=1048576)(D:B<=w1.1.size)(E:∀d h w',ORow e s B w' d (n+1) h (cH f n x)->Below B w1 w'->(w1.alloc (.cells x.toArray e)).grownBy w' (Value.slice a n c).ownBlock->r (b.put o.dst (.slice d (n+1) h)) w'):
 o.wp prog b (w1.alloc (.cells x.toArray e)) r O:=by
 obtain⟨i,F,z,A,C⟩:=CT T.inf;have q:=bAl w1 (.cells x.toArray e);refine wp_append_own _ so xo _ I B e i N s bytes T.und F z A C T.cells T.pos _ n (aK f n) J (bQ m q) ⟨w1.1.size,0,none⟩ 1 1 x hx (by rw[y,xA]) ?_ w (by unfold maxLen;omega) ?_ (by simp;omega) ?_
 ·intro j u G;rw[CR,wg];have:(w1.alloc (.cells x.toArray e)).cell? ⟨w1.1.size,j,none⟩=x.toArray[j]?:=CV _ w1.1.size j _ e (0,0) (DI w1 _);rw[this,<-G];simp
 ·have:(n+1)*bytes<=(n+1)*1048576:=z1 _ v;omega
 ·intro v' w' l p _;rw[<-lK]at l;have K:∃d h,v'= .slice d (n+1) h:=by
   rcases l.2 with⟨rfl,P⟩|⟨g,L,M,rfl,_⟩
   ·omega
   ·exact⟨_,_,rfl⟩
  obtain⟨d,h,rfl⟩:=K;exact E d h w' l ((q.mono D).trans (t2.grown p (by simp;omega) (fun k H=>(BS (bQ m q) k H).1))) p
theorem tf{w1 h rest o b D}(k:o.guard=none)(so xo){t e s bytes E}(T:ElT t e s E bytes)(A:o.op= .call {callee:= .builtin .append,args:=#[so,xo],argTypes:=#[t,t]})(B a n c f)(C:b.eval so= .slice a n c)(i:ORow e s B w1 a n c f)(x)(m:x.length=s)(l:∀u∈x,u.oneCell'=true)(hx:b.eval xo= .slice (some ⟨w1.1.size,0,none⟩) 1 1)(z:n<=1048576)(j:bytes<=1048576)(v:B<=w1.1.size)(y:∀d g w',ORow e s B w' d (n+1) g (cH f n x)->Below B w1 w'->(w1.alloc (.cells x.toArray e)).grownBy w' (Value.slice a n c).ownBlock->wpList prog h D rest (b.put o.dst (.slice d (n+1) g)) w'):
 wpList prog h D (o::rest) b (w1.alloc (.cells x.toArray e)):=
 C2 k fun _ w=>te so xo T A B a n c f C i x m l hx z j v fun d g w' p q r=>w _ _ (y d g w' p q r)
theorem tg{P}(w g b)(e t:TypeId)(a cs)(k:Blk w t g a)(f:(P.info? e).map (·.size)=some cs.length)(c:b+cs.length<=a.length)(j:∀v∈cs,v.oneCell'=true):
 (storeVar e ⟨g,b,none⟩ (.agg cs.toArray)).run P w= .ok () (w.setRow g (a.take b++cs++a.drop (b+cs.length)).toArray):=by
 have:=run_storeCells_at P g b t cs 0 a.toArray w k (by simpa using c) j;cases d:P.info? e with
 |none=>simp[d]at f
 |some i=>
  have h:cs.length=i.size:=by simp[d]at f;omega
  simp only[wR]at this;simp[storeVar,sizeOf,typeInfo,d,Value.cells,h];simpa [h]using this
theorem lL{e s B g n w f}(c:Blk w e g (aK f n))(d:IsRow s f n)(b:B<=g)(h:n<=1048576):ORow e s B w (some ⟨g,0,none⟩) n n f:=by
 have a:=gU n d;exact⟨a,u4 ⟨g,n,(aK f n).toArray,rfl,b,c,t1,by unfold maxLen;omega,by simpa using a,wC (by simp;omega)⟩⟩
theorem th{s}(f x)(hx:x.length=s):∀n j,j<n->IsRow s f n->(aK f n).take (j*s)++x++(aK f n).drop (j*s+s)=aK (cH f j x) n
 |0,j,b,_=>by omega
 |n+1,j,b,H=>by
  have c:=gU n (H.mono t7);have d:=H.len n t7;by_cases e:j=n
  ·subst e;rw[lK,aK,x5 t7,wC t7,List.drop_eq_nil_of_le (by rw[u7];omega),wi]
  ·have a:(j+1)*s<=n*s:=x6 _ t7;rw[xP,xA]at a;rw[aK,aK,x5 t7,List.drop_append_of_le_length t7,<-vJ,th f x hx n j t7 (H.mono t7)];have:cH f j x n=f n:=by simp[cH,Ne.symm e]
   rw[this]
def i7(f:Nat->List Value)(n:Nat)(g:Nat->List Value):Nat->List Value:=fun i=>if i<n then f i else g (i-n)
theorem tj(f n g):∀m,aK (i7 f n g) (n+m)=aK f n++aK g m
 |0=>by
  rw[wR,lI n (f':=f) (fun i a=>by simp[i7,a])];simp[aK]
 |m+1=>by
  rw[<-Nat.add_assoc,aK,tj f n g m,aK,show i7 f n g (n+m)=g m from by unfold i7;rw[BX t7,Nat.add_sub_cancel_left],vJ]
theorem zf{w}{o:Oper}{p F an}(so xo){t e s bytes am}(T:ElT t e s am bytes)(M:o.op= .call {callee:= .builtin .append,args:=#[so,xo],argTypes:=#[t,t]})(B a n c f)(O:p.eval so= .slice a n c)(k:ORow e s B w a n c f)(b m d g)(hx:p.eval xo= .slice b m d)(l:RRow w s b m d g)(aA:n+m<=1048576)(G:bytes<=1048576)(Z:B<=w.1.size)(J:∀q r w',ORow e s B w' q (n+m) r (i7 f n g)->w.grownBy w' (Value.slice a n c).ownBlock->F (p.put o.dst (.slice q (n+m) r)) w'):
 o.wp prog p w F an:=by
 obtain⟨i,K,Q,R,S⟩:=CT T.inf;have D:=T.pos;cases b with
 |none=>
  have ac:=l.nil rfl;have ad:m=0:=by have:=l.le;omega
  subst ac;subst ad;have E:=run_append_owned_none (P:=prog) (w:=w) B t o.type e i s T.und K _ _ _ k;have Y:=J a c w (ORow.congr k (fun j C=>by unfold i7;rw[BC t7])) ⟨rfl,rfl,rfl,t1,fun _ _ _=>rfl⟩;unfold Oper.wp;simp only[execOp,M,resolve,invoke,builtin,B3,Ct,C0,wa,vo,v6,O,hx,E];exact Y
 |some U=>
  have ak:(n+m)*bytes<=(n+m)*1048576:=z1 _ G;refine wp_append_own _ so xo _ M B e i am s bytes T.und K Q R S T.cells T.pos _ n (aK f n) O k U m d (aK g m) hx (by rw[gU _ l.ok]) ?_ (pE _ l.ok) (by unfold maxLen;omega) t7 Z ?_
  ·intro j u C;have y:j<m*s:=by have:=(wb.1 C).1;rw[gU _ l.ok]at this;exact this
   have L:0<m:=by rcases Nat.eq_zero_or_pos m with h|h;rw[h]at y;omega;exact h
   obtain⟨ap,A,V,_,ab⟩:=l.at_ L;cases V;have N:=Nat.div_lt_of_lt_mul (by rw[Nat.mul_comm];exact y);have z:j%s<s:=Nat.mod_lt _ D;have x:j/s*s+j%s=j:=by rw[Nat.mul_comm];exact Nat.div_add_mod j s
   have X:=ab (j/s) (j%s) N z;have H:=mL m l.ok (j/s) (j%s) N z;rw[x]at H;rw[CR,show A+j=A+j/s*s+j%s by rw[Nat.add_assoc,x],X,<-H];exact C
  ·intro v' w' v I _;rw[<-tj]at v;have ae:∃q r,v'= .slice q (n+m) r:=by
    rcases v.2 with⟨rfl,W⟩|⟨g,af,ag,rfl,_⟩
    ·exact⟨none,0,by rw[W]⟩
    ·exact⟨_,_,rfl⟩
   obtain⟨q,r,rfl⟩:=ae;exact J q r w' v I
def IW(k:Int)(n:Nat):List Int:=(List.range n).map fun i:Nat=>(k+(i:Int))%256
theorem mM{B w a n c l}(h:Own B w a n c l)(j:0<n):∃g,a=some ⟨g,0,none⟩/\B<=g:=by
 rcases h.2 with⟨e,i⟩|⟨g,d,f,e,b,_⟩
 ·omega
 ·cases e;exact⟨g,rfl,b⟩
structure RRecs(p:Nat)(w:World)(a:Option Addr)(n c:Nat)(I:Nat->Nat->Int)(A:Nat->Option Addr)(N C:Nat->Nat)(L:Nat->List Int):Prop where
 le:n<=c
 le':c<=maxLen
 nil:a=none->c=0
 at_:0<n->∃b off,a=some ⟨b,off,none⟩/\b<w.1.size/\∀i,i<n->(∀q,q<p->w.cell? ⟨b,off+i*(p+1)+q,none⟩=some (.int .i64 (I i q)))/\w.cell? ⟨b,off+i*(p+1)+p,none⟩=some (.slice (A i) (N i) (C i))
 data:∀i,i<n->Bs w (A i) (N i) (C i) (L i)
theorem RRecs.below{p w w' a n c s o N r L}(h:RRecs p w a n c s o N r L)(d:Below w.1.size w w'):RRecs p w' a n c s o N r L:=
 ⟨h.le,h.le',h.nil,fun l=>by
  obtain⟨b,k,e,g,j⟩:=h.at_ l;refine⟨b,k,e,ws g d.size,fun i f=>⟨fun q m=> ?_,?_⟩⟩
  ·rw[d.cell (p:=⟨b,_,none⟩) g];exact(j i f).1 q m
  ·rw[d.cell (p:=⟨b,_,none⟩) g];exact(j i f).2,fun i f=>(h.data i f).below d⟩
def dH(p:Nat)(I:Nat->Int)(v:Value):List Value:=(List.range p).map (fun q=>Value.int .i64 (I q))++[v]
theorem tm(p a v):(dH p a v).length=p+1:=by simp[dH]
theorem zh(p a v q)(b:q<p):(dH p a v)[q]?=some (.int .i64 (a q)):=by
 simp[dH,List.getElem?_append_left,b]
theorem zi(p a v):(dH p a v)[p]?=some v:=by
 simp[dH]
def dy(p:Nat)(I:Nat->Nat->Int)(V:Nat->Value):Nat->List Value
 |0=>[]
 |n+1=>dy p I V n++dH p (I n) (V n)
theorem i8(p a b):∀n,(dy p a b n).length=n*(p+1)
 |0=>by simp[dy]
 |n+1=>by rw[dy,u7,i8 p a b n,tm,xP,xA]
theorem tn(p a b q)(d:q<p+1):∀n i,i<n->(dy p a b n)[i*(p+1)+q]?=(dH p (a i) (b i))[q]?
 |0,i,f=>by omega
 |n+1,i,f=>by
  rw[dy];by_cases e:i=n
  ·subst e;rw[wX (by rw[i8];omega),i8];congr 1;omega
  ·have c:(i+1)*(p+1)<=n*(p+1):=x6 _ t7;rw[xP,xA]at c;rw[wB (by rw[i8];omega)];exact tn p a b q d n i t7
structure ORecs(p e:Nat)(B:Nat)(w:World)(a:Option Addr)(n c:Nat)(I:Nat->Nat->Int)(A:Nat->Option Addr)(N C:Nat->Nat)(L:Nat->List Int):Prop where
 row:w.ownsRow B e (p+1) (.slice a n c) n (dy p I (fun i=> .slice (A i) (N i) (C i)) n)
 data:∀i,i<n->Own B w (A i) (N i) (C i) (L i)
 byte:∀i,i<n->IsB (L i)
 sep1:∀i j,i<j->j<n->∀k,(Value.slice (A i) (N i) (C i)).ownBlock=some k->(Value.slice (A j) (N j) (C j)).ownBlock≠some k
theorem ORecs.reads{p e B w a n c o l N m L}(r:ORecs p e B w a n c o l N m L):RRecs p w a n c o l N m L:=by
 have j:=fun i b=>(r.data i b).bs (r.byte i b);rcases r.row.2 with⟨f,z⟩|⟨g,x,y,f,D,u,s,t,A,C⟩
 ·cases f;exact⟨t7,u6 _,fun _=>rfl,fun k=>absurd k t7,j⟩
 ·cases f;have d:∀q i,i<n->q<p+1->w.cell? ⟨g,0+i*(p+1)+q,none⟩=(dH p (o i) (.slice (l i) (N i) (m i)))[q]?:=fun q i b h=>by
   have v:(i+1)*(p+1)<=n*(p+1):=x6 _ t7;rw[xP,xA]at v;rw[wg,C1 r.row (i*(p+1)+q) t7];exact tn p o (fun i=> .slice (l i) (N i) (m i)) q h n i b
  refine⟨s,t,fun e=>(by cases e),fun k=>⟨g,0,rfl,(vR.1 u).1,fun i b=>⟨fun q h=> ?_,?_⟩⟩,j⟩
  ·rw[d q i b t7,zh _ _ _ _ h]
  ·rw[d p i b t7,zi]
theorem ORecs.below{p e B w w' a n c j g N h L}(d:ORecs p e B w a n c j g N h L)(b:Below w.1.size w w'):ORecs p e B w' a n c j g N h L:=
 ⟨bQ d.row b,fun i f=>(d.data i f).below b,d.byte,d.sep1⟩
theorem ORecs.mono{p e B B' w a n c j g N h L}(d:ORecs p e B w a n c j g N h L)(b:B'<=B):ORecs p e B' w a n c j g N h L:=
 ⟨World.ownsRow.mono d.row b,fun i f=>(d.data i f).mono b,d.byte,d.sep1⟩
theorem jR{w:World}{B B' e f size c:Nat}{v v' n q xs h}(l:w.ownsRow B e size v n xs)(m:w.ownsRow B' f c v' q h)(o:e≠f):∀k,v.ownBlock=some k->v'.ownBlock≠some k:=by
 intro k d b;rcases l.2 with⟨rfl,_⟩|⟨g,r,s,rfl,_,p,_⟩
 ·simp[Value.ownBlock]at d
 ·rcases m.2 with⟨rfl,_⟩|⟨t,i,j,rfl,_,a,_⟩
  ·simp[Value.ownBlock]at b
  ·simp[Value.ownBlock]at d b;subst d;subst b;rw[p]at a;simp at a;exact o a.2
def upd{α:Type}(f:Nat->α)(n:Nat)(x:α):Nat->α:=fun i=>if i=n then x else f i
theorem be{a:Type}(f n)(x:a):upd f n x n=x:=by simp[upd]
theorem fY{a:Type}(f n)(x:a){i}(b:i<n):upd f n x i=f i:=by simp[upd];omega
theorem bw{b:Type}(f n)(x:b){i}(a:i≠n):upd f n x i=f i:=by simp[upd,a]
theorem lM(p){c I' d V'}:∀n,(∀i,i<n->(∀q,q<p->c i q=I' i q)/\d i=V' i)->dy p c d n=dy p I' V' n
 |0,_=>rfl
 |n+1,a=>by
  rw[dy,dy,lM p n (fun i e=>a i t7)];congr 1;unfold dH;rw[(a n t7).2];congr 1;refine List.map_congr_left fun q b=> ?_;rw[(a n t7).1 q (by simpa using b)]
theorem zj(p d a n c):∀u∈dH p d (.slice a n c),u.oneCell'=true:=by
 intro u b;simp only[dH,wE,xC,List.mem_singleton]at b;rcases b with⟨_,_,rfl⟩|rfl<;>rfl
theorem tq{w0 w1}{o:Oper}{y X a1}(s x t)(ap:o.op= .call {callee:= .builtin .append,args:=#[s,x],argTypes:=#[t,t]})(p e B:Nat)(aB:prog.underlying t=some (.slice e))(Q:∃i am,prog.info? e=some i/\i.zero=some am/\i.size=p+1/\am.cells.size=p+1/\i.bytes<=64)(an:e≠5)(a n c V T N U L)(aA:y.eval s= .slice a n c)(d:ORecs p e B w0 a n c V T N U L)(H:Below w0.1.size w0 w1)(W C G E S)(J:Own w0.1.size w1 C G E S)(Z:IsB S)(Y:B<=w0.1.size)(cs)(ab:cs.toList=dH p W (.slice C G E))(hx:y.eval x= .slice (some ⟨w1.1.size,0,none⟩) 1 1)(a6:n<=1048576)(a4:∀A D w',ORecs p e B w' A (n+1) D (upd V n W) (upd T n C) (upd N n G) (upd U n E) (upd L n S)->Below B w1 w'->(∀{z:Nat}{l:Option Addr}{w m:Nat}{F:List Int},Own z w1 l w m F->Own z w' l w m F)->(w1.alloc (.cells cs e)).grownBy w' (Value.slice a n c).ownBlock->X (y.put o.dst (.slice A (n+1) D)) w'):o.wp prog y (w1.alloc (.cells cs e)) X a1:=by
 obtain⟨i,am,h,ae,af,ag,ak⟩:=Q;have M:=bAl w1 (.cells cs e);have q:=H.trans (M.mono H.size);have aT:=H.size;refine wp_append_own _ s x t ap B e i am (p+1) i.bytes aB h ae af rfl ag t7 _ n _ aA (bQ d.row q) ⟨w1.1.size,0,none⟩ 1 1 (dH p W (.slice C G E)) hx (by rw[tm,xA]) ?_ (zj _ _ _ _ _) (by unfold maxLen;omega) ?_ (by simp;omega) ?_
 ·intro j u R;rw[CR,wg];rw[<-ab]at R;have:=CV _ w1.1.size j cs e (0,0) (DI w1 _);rw[this,<-R];simp
 ·have:(n+1)*i.bytes<=(n+1)*64:=z1 _ ak;omega
 ·intro v' w' O I _;have aS:∃A D,v'= .slice A (n+1) D:=by
   rcases O.2 with⟨rfl,a5⟩|⟨g,aX,a0,rfl,_⟩
   ·omega
   ·exact⟨_,_,rfl⟩
  obtain⟨A,D,rfl⟩:=aS;have v:∀{z:Nat}{l:Option Addr}{w m:Nat}{F:List Int},Own z (w1.alloc (.cells cs e)) l w m F->Own z w' l w m F:=fun{z l w m F} K=>by
   refine World.ownsRow.kept K I ?_;cases r:(Value.slice l w m).ownBlock with
   |none=>exact u5 rfl
   |some k=>exact u4 fun P=>jR K (bQ d.row q) (DX an) k r P.symm
  refine a4 A D w' ⟨?_,fun i h=> ?_,fun i h=> ?_,fun i j ac R k r=> ?_⟩ ((M.mono (u9 Y aT)).trans (t2.grown I (by simp;omega) (fun k r=>(BS (bQ d.row q) k r).1))) (fun K=>v (K.below M)) I
  ·have P:dy p (upd V n W) (fun i=> .slice (upd T n C i) (upd N n G i) (upd U n E i)) (n+1)=dy p V (fun i=> .slice (T i) (N i) (U i)) n++dH p W (.slice C G E):=by
    rw[dy,be,be,be,be];rw[lM p n (I':=V) (V':=fun i=> .slice (T i) (N i) (U i)) (fun i h=>⟨fun q _=>by rw[fY _ _ _ h],by rw[fY _ _ _ h,fY _ _ _ h,fY _ _ _ h]⟩)]
   rw[P];exact O
  ·by_cases f:i=n
   ·subst f;rw[be,be,be,be];exact v ((J.below M).mono Y)
   ·have b:i<n:=t7;rw[fY _ _ _ b,fY _ _ _ b,fY _ _ _ b,fY _ _ _ b];exact v ((d.data i b).below q)
  ·by_cases f:i=n
   ·subst f;rw[be];exact Z
   ·rw[bw _ _ _ f];exact d.byte i t7
  ·have b:i<n:=t7;rw[fY _ _ _ b,fY _ _ _ b,fY _ _ _ b]at r;by_cases f:j=n
   ·subst f;rw[be,be,be];intro ad;have a2:=(BS (d.data i b) k r).2;have a3:=(BS J k ad).1;omega
   ·rw[bw _ _ _ f,bw _ _ _ f,bw _ _ _ f];exact d.sep1 i j ac t7 k r
theorem zk{w0 w1 m rest o d V}(E:o.guard=none)(s x t)(R:o.op= .call {callee:= .builtin .append,args:=#[s,x],argTypes:=#[t,t]})(p e B:Nat)(T:prog.underlying t=some (.slice e))(q:∃i W,prog.info? e=some i/\i.zero=some W/\i.size=p+1/\W.cells.size=p+1/\i.bytes<=64)(P:e≠5)(a n c J H N I L)(S:d.eval s= .slice a n c)(v:ORecs p e B w0 a n c J H N I L)(A:Below w0.1.size w0 w1)(K g l j k)(u:Own w0.1.size w1 g l j k)(C:IsB k)(M:B<=w0.1.size)(cs)(D:cs.toList=dH p K (.slice g l j))(hx:d.eval x= .slice (some ⟨w1.1.size,0,none⟩) 1 1)(Q:n<=1048576)(X:∀f h w',ORecs p e B w' f (n+1) h (upd J n K) (upd H n g) (upd N n l) (upd I n j) (upd L n k)->Below B w1 w'->(∀{w:Nat}{y:Option Addr}{G z:Nat}{F:List Int},Own w w1 y G z F->Own w w' y G z F)->wpList prog m V rest (d.put o.dst (.slice f (n+1) h)) w'):wpList prog m V (o::rest) d (w1.alloc (.cells cs e)):=
 C2 E fun _ O=>tq s x t R p e B T q P a n c J H N I L S v A K g l j k u C M cs D hx Q fun f h w' r b U _=>O _ _ (X f h w' r b U)
theorem jS{w0 w1 j o b r V U}(D:o.guard=none)(s x t)(P:o.op= .call {callee:= .builtin .append,args:=#[s,x],argTypes:=#[t,t]})(p e B:Nat)(R:prog.underlying t=some (.slice e))(k:∃i T,prog.info? e=some i/\i.zero=some T/\i.size=p+1/\T.cells.size=p+1/\i.bytes<=64)(M:e≠5)(a n c I G N H L)(Q:b.eval s= .slice a n c)(m:ORecs p e B w0 a n c I G N H L)(z:Below w0.1.size w0 w1)(J d h f g)(l:Own w0.1.size w1 d h f g)(A:IsB g)(K:B<=w0.1.size)(cs)(C:cs.toList=dH p J (.slice d h f))(hx:b.eval x= .slice (some ⟨w1.1.size,0,none⟩) 1 1)(O:n<=1048576)(W:∀u w w',ORecs p e B w' u (n+1) w (upd I n J) (upd G n d) (upd N n h) (upd H n f) (upd L n g)->Below B w1 w'->(∀{q:Nat}{v:Option Addr}{F y:Nat}{E:List Int},Own q w1 v F y E->Own q w' v F y E)->(w1.alloc (.cells cs e)).grownBy w' (Value.slice a n c).ownBlock->r (b.put o.dst (.slice u (n+1) w)) w'):
 if Region.wanted o (yielded j b.tmps)=true then Oper.wp prog o b (w1.alloc (.cells cs e)) r V else U:=by
 have S:Region.wanted o (yielded j b.tmps)=true:=by simp[Region.wanted,D]
 rw[BC S];exact tq s x t P p e B R k M a n c I G N H L Q m z J d h f g l A K cs C hx O W
theorem jU(p e B w f c N d L):ORecs p e B w none 0 0 f c N d L:=
 ⟨World.ownsRow_nil _ _ _ _,fun i a=>absurd a t7,fun i a=>absurd a t7,fun i j _ b=>absurd b t7⟩
theorem io(p e B)(w:World)(b:B<=w.1.size)(g d N f L):ORecs p e B (w.alloc (.cells #[] e)) (some ⟨w.1.size,0,none⟩) 0 0 g d N f L:=
 ⟨World.ownsRow_lit w #[] 0 b (u6 _) uB,fun i a=>absurd a t7,fun i a=>absurd a t7,fun i j _ c=>absurd c t7⟩
theorem jV(a n c l w)(j:Bs w a n c l)(k:n<=1048576):
 Calls prog 78 #[.slice a n c] w fun e w'=> ∃b d,e= .returned (.slice b n d)/\Below w.1.size w w'/\Own w.1.size w' b n d l:=by
 go_enter func78,ntmps78;go_wp2_with (at_builtin;refine eu rfl _ _ rfl w.1.size _ 0 0 [] rfl ?own a n c l rfl ?bs ?len ?B ?_)
 case own=>exact eI w [] 0 rfl t7 _ t1
 case bs=>exact j.below (bAl _ _)
 case len=>omega
 case B=>simp
 intro b d w' g f _;have h:=(bAl _ _).trans f;have i:Own w.1.size w' b n d l:=by have:=g;simpa using this
 clear g f;go_wp2;go_ret;exact⟨b,d,rfl,h,i⟩
theorem Bs.piece{w b c n f l}(h:Bs w (some ⟨b,c,none⟩) n f l)(i m)(s:i+m<=n)(a)(k:m<=a)(g:a<=maxLen):Bs w (some ⟨b,c+i,none⟩) m a ((l.drop i).take m):=by
 refine⟨by simp[h.len_eq];omega,k,g,fun e=>(by cases e),fun t=> ?_,?_⟩
 ·obtain⟨r,q,e,p,d⟩:=h.at_ t7;cases e;refine⟨b,c+i,rfl,p,fun j o=> ?_⟩;rw[Nat.add_assoc,d (i+j) t7];simp[List.getD,o]
 ·refine gR (fun j=> ?_) m;have:=h.byte (i+j);simpa [List.getD]using this
theorem pF(a n c l w)(j:Bs w a n c l)(r:n<=1048576):
 Calls prog 83 #[.slice a n c] w fun e w'=> ∃b d,e= .returned (.slice b n d)/\Below w.1.size w w'/\Own w.1.size w' b n d l:=by
 cases a with
 |none=>
  have m:=j.nil rfl;have h:n=0:=by have:=j.le;omega
  subst m;subst h;have o:=x8 j.len_eq;subst o;have p:=fun w=>Lib.run_eql_slice_nil (P:=prog) w 56 5 none 0 0 0 0 underlying56;go_enter func83,ntmps83;go_wp2;go_ret;exact⟨none,0,rfl,t2,jO _ _⟩
 |some f=>
  have p:=fun w=>Lib.run_eql_slice_nil (P:=prog) w 56 5 (some f) n c 0 0 underlying56;go_enter func83,ntmps83;go_wp2_with (at_builtin;refine eu rfl _ _ rfl w.1.size _ 0 0 [] rfl ?own (some f) n c l rfl ?bs ?len ?B ?_)
  case own=>exact eI w [] 0 rfl t7 _ t1
  case bs=>exact j.below (bAl _ _)
  case len=>omega
  case B=>simp
  intro b d w' i g _;have k:=(bAl _ _).trans g;have q:Own w.1.size w' b n d l:=by have:=i;simpa using this
  clear i g;go_wp2;go_ret;exact⟨b,d,rfl,k,q⟩
def num(v:Int)(k:Nat):List Int:=(List.range k).map fun i=>v/256^i%256
theorem ew(v k):(num v k).length=k:=by simp[num]
theorem mO(v k):num v (k+1)=num v k++[v/256^k%256]:=by simp[num,List.range_succ]
theorem ec(v k):IsB (num v k):=fun i=>by
 by_cases a:i<k
 ·simp[num,List.getD,a];omega
 ·simp[num,List.getD,a]
theorem tr(v:Int)(k):v/256^k/256=v/256^(k+1):=by
 rw[Int.pow_succ,<-Int.ediv_ediv_of_nonneg (Int.pow_nonneg t7)]
theorem zl(v:Int)(k)(a:0<=v)(b:v<=9223372036854775807):0<=v/256^k/\v/256^k<=9223372036854775807:=by
 have c:(0:Int)<256^k:=Int.pow_pos t7;refine⟨Int.ediv_nonneg a (Int.le_of_lt c),?_⟩;exact Int.le_trans (Int.ediv_le_self _ a) b
theorem i9(v)(k:Nat)(w)(q:0<=v)(r:v<=9223372036854775807)(y:k<=8):
 Calls prog 128 #[.int .i64 v,.int .i64 k] w fun e w'=> ∃a c,e= .returned (.slice a k c)/\Below w.1.size w w'/\Own w.1.size w' a k c (num v k):=by
 go_enter func128,ntmps128;go_wp2;go_loopw [0,5,6] (fun x o i wr=> ∃j a c,j<=k/\i= .int .i64 (j:Nat)/\o= .slice a j c/\x= .int .i64 (v/256^j)/\Below w.1.size w wr/\Own w.1.size wr a j c (num v j)) (fun _ _ i _=>k-(intOf i).toNat)
 case atStart=>
  refine⟨0,_,0,u6 _,rfl,rfl,uB,bAl _ _,?_⟩;exact eI w [] 0 rfl t7 _ t1
 case round=>
  obtain⟨j,a,c,u,rfl,rfl,rfl,b,f⟩:=hrel;have t:=zl v j q r;have m:Hid (v/256^j/256=v/256^(j+1)):=tr v j;have l:Hid (num v (j+1)=num v j++[v/256^j%256]):=mO v j;generalize v/256^j=x at*;by_cases s:j<k
  ·go_wp2_with (at_builtin;refine eu rfl _ _ rfl w.1.size a j c (num v j) rfl ?own _ 1 1 [x%256] rfl ?bs ?len ?B ?_)
   case own=>exact B4 f _
   case bs=>exact fL wr (x%256) t7 t7
   case len=>omega
   case B=>have:=b.size;simp;omega
   intro n p w' h d _;have g:=(b.alloc b.size _).trans d;clear f b d;go_wp2;go_roundw
   case rel=>exact⟨j+1,n,p,t7,by go_num,rfl,by rw[<-m.out],g,by rw[l.out];exact h⟩
   case measure=>simp[intOf];omega
  ·have e:j=k:=t7;subst e;go_wp2;go_ret;exact⟨a,c,rfl,b,f⟩
theorem pG(B a n c xs v)(k:Nat)(w)(g:Own B w a n c xs)(s:B<=w.1.size)(C:n<=1048576)(u:0<=v)(y:v<=9223372036854775807)(A:k<=8):
 Calls prog 189 #[.slice a n c,.int .i64 v,.int .i64 k] w fun e w'=> ∃a c,e= .returned (.slice a (n+k) c)/\Below B w w'/\Own B w' a (n+k) c (xs++num v k):=by
 go_enter func189,ntmps189;go_wp2;go_loopw [0,1,8] (fun o x i wr=> ∃j a c,j<=k/\i= .int .i64 (j:Nat)/\o= .slice a (n+j) c/\x= .int .i64 (v/256^j)/\Below B w wr/\Own B wr a (n+j) c (xs++num v j)) (fun _ _ i _=>k-(intOf i).toNat)
 case atStart=>exact⟨0,a,c,u6 _,rfl,rfl,uB,t2,by simpa [num]using g⟩
 case round=>
  obtain⟨j,a,c,z,rfl,rfl,rfl,b,f⟩:=hrel;have p:Hid (v/256^j/256=v/256^(j+1)):=tr v j;have m:Hid (num v (j+1)=num v j++[v/256^j%256]):=mO v j;generalize v/256^j=x at*;by_cases t:j<k
  ·go_wp2_with (at_builtin;refine eu rfl _ _ rfl B a (n+j) c (xs++num v j) rfl ?own _ 1 1 [x%256] rfl ?bs ?len ?B ?_)
   case own=>exact B4 f _
   case bs=>exact fL wr (x%256) t7 t7
   case len=>omega
   case B=>have:=b.size;simp;omega
   intro q r w' l d _;have h:=(b.alloc (u9 s b.size) _).trans d;clear f b d;go_wp2;go_roundw
   case rel=>exact⟨j+1,q,r,t7,by go_num,rfl,by rw[<-p.out],h,by rw[m.out];exact l⟩
   case measure=>simp[intOf];omega
  ·have e:j=k:=t7;subst e;go_wp2;go_ret;exact⟨a,c,rfl,b,f⟩
def bL(id kind n:Int):Bool:=decide (0<=id/\id<=1023/\1<=kind/\kind<=4/\n<=240)
theorem zm(id a n w)(b:bL id a n=true):
 Calls prog 173 #[.agg #[.int .i64 id,.int .i64 a,.int .i64 n]] w fun e w'=>e= .returned (.bool true)/\Below w.1.size w w':=by
 obtain⟨c,d,f,g,h⟩:=CC b;clear b;go_enter func173,ntmps173;go_wp2;go_ret;exact⟨rfl,bAl _ _⟩
theorem zn(id a n w)(j:bL id a n=false):
 Calls prog 173 #[.agg #[.int .i64 id,.int .i64 a,.int .i64 n]] w fun e w'=>e= .returned (.bool false)/\Below w.1.size w w':=by
 have b:=of_decide_eq_false j;clear j;by_cases d:0<=id
 ·by_cases f:id<1024
  ·by_cases g:1<=a
   ·by_cases h:a<=4
    ·have i:¬n<=240:=t7;clear b;have c:decide (n<=240)=false:=by simpa using i
     go_enter func173,ntmps173;go_wp2;go_ret;exact⟨rfl,bAl _ _⟩
    ·clear b;have c:decide (a<=4)=false:=by simpa using h
     go_enter func173,ntmps173;go_wp2;go_ret;exact⟨rfl,bAl _ _⟩
   ·clear b;have c:decide (1<=a)=false:=by simpa using g
    go_enter func173,ntmps173;go_wp2;go_ret;exact⟨rfl,bAl _ _⟩
  ·clear b;have c:decide (id<1024)=false:=by simpa using f
   go_enter func173,ntmps173;go_wp2;go_ret;exact⟨rfl,bAl _ _⟩
 ·clear b;have c:decide (0<=id)=false:=by simpa using d
  go_enter func173,ntmps173;go_wp2;go_ret;exact⟨rfl,bAl _ _⟩
def ed(id kind n:Int):List Int:=num id 4++[kind,0]++num n 2++num 0 4
theorem zo(id b n w)(M:bL id b n=true)(F:0<=n):
 Calls prog 176 #[.agg #[.int .i64 id,.int .i64 b,.int .i64 n]] w fun e w'=> ∃a c,e= .returned (.slice a 12 c)/\Below w.1.size w w'/\Own w.1.size w' a 12 c (ed id b n):=by
 obtain⟨E,N,O,P,Q⟩:=CC M;clear M;go_enter func176,ntmps176;go_wp2_with fail;refine(pG (w.1.size+1) none 0 0 [] id 4 _ (jO _ _) uB t7 E t7 t7).mono ?_;rintro e w1 ⟨t,z,rfl,d,i⟩;have G:w1.cell? ⟨w.1.size,1,none⟩=some (.int .i64 b):=by rw[d.cell (p:=⟨w.1.size,1,none⟩) (xc _)];simp
 have r:w1.cell? ⟨w.1.size,2,none⟩=some (.int .i64 n):=by rw[d.cell (p:=⟨w.1.size,2,none⟩) (xc _)];simp
 have J:w.1.size+1<=w1.1.size:=by have:=d.size;simpa using this
 have l:=(bAl _ _).trans (d.mono (xa _));clear d;go_wp2_with (at_builtin;refine eu rfl _ _ rfl (w.1.size+1) t 4 z ([]++num id 4) rfl ?own _ 2 2 [b,0] rfl ?bs ?len ?B ?_)
 case own=>exact B4 i _
 case bs=>exact ta w1 b 0 t7 t7 t7 t7
 case len=>omega
 case B=>simp;omega
 intro u A s j f _;have H:s.cell? ⟨w.1.size,2,none⟩=some (.int .i64 n):=by rw[f.cell (p:=⟨w.1.size,2,none⟩) (xc _),((Bn w1.1.size w1).alloc t1 _).cell (p:=⟨w.1.size,2,none⟩) J];exact r
 have K:w.1.size+1<=s.1.size:=by have:=f.size;simp at this;omega
 have m:=(l.alloc l.size _).trans (f.mono (xa _));clear f G r l i;go_wp2_with fail;refine(pG (w.1.size+1) u 6 A _ n 2 _ j K t7 F t7 t7).mono ?_;rintro e I ⟨v,C,rfl,g,k⟩;have L:w.1.size+1<=I.1.size:=by have:=g.size;omega
 have o:=m.trans (g.mono (xa _));clear g m j H;go_wp2_with fail;refine(pG (w.1.size+1) v 8 C _ 0 4 _ k L t7 t7 t7 t7).mono ?_;rintro e R ⟨x,D,rfl,h,q⟩;have y:=o.trans (h.mono (xa _));clear h o k;go_wp2;go_ret;exact⟨x,D,rfl,y,q.mono (xa _)⟩
