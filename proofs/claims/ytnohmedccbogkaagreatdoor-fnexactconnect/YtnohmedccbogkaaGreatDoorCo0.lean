import Derived.Test.YtnohmedccbogkaaGreatDoorRows
import Derived.WalkSpells
import Derived.WalkLawsBesides
import Derived.BigQuiet
import Derived.Deep.Onto
import Derived.OpenShut
import Derived.Laws.AppendOwnNone
import Derived.Deep.WholeRow
import Derived.Deep.AppendLies
import Derived.Deep.RegionHeld
namespace Go.Proofs.YtnohmedccbogkaaGreatDoor
open Go.Proofs.Tryz
open Go.RowKit
set_option linter.unusedVariables false
set_option maxRecDepth 100000
set_option maxHeartbeats 32000000
theorem kE{n:Nat}:n<=n:=Nat.le_refl n
theorem kF{n:Nat}{w:World}:Below n w w:=Below.refl n w
theorem kG{p q:Prop}(a:p)(b:q):Hid (p/\q):=And.intro a b
theorem kH{p:Prop}(h:p:=by omega):p:=h
theorem kN{p:Prop}(h:p:=by decide):p:=h
theorem kO{p:Prop}(h:p:=by kernel_rfl):p:=h
theorem kP{p:Prop}(h:p:=by simp):p:=h
theorem kR:type_of% @And.intro:=@And.intro
theorem kS:type_of% @Nat.le_refl:=@Nat.le_refl
theorem kT:type_of% @Or.inr:=@Or.inr
theorem kV:type_of% @Or.inl:=@Or.inl
theorem kX:type_of% @Nat.zero_le:=@Nat.zero_le
theorem kY:type_of% @List.length_append:=@List.length_append
theorem k2:type_of% @Nat.le_trans:=@Nat.le_trans
theorem k3:type_of% @List.length_drop:=@List.length_drop
theorem k4:type_of% @List.map_cons:=@List.map_cons
theorem k5:type_of% @List.append_assoc:=@List.append_assoc
theorem k6:type_of% @Array.getElem?_eq_some_iff:=@Array.getElem?_eq_some_iff
theorem k7:type_of% @List.map_nil:=@List.map_nil
theorem k8:type_of% @List.size_toArray:=@List.size_toArray
theorem k9:type_of% @List.map_toArray:=@List.map_toArray
theorem lb:type_of% @List.getElem?_eq_some_iff:=@List.getElem?_eq_some_iff
theorem ld:type_of% @Nat.zero_add:=@Nat.zero_add
theorem lj:type_of% @List.append_nil:=@List.append_nil
theorem lk:type_of% @Nat.lt_of_lt_of_le:=@Nat.lt_of_lt_of_le
theorem lw:type_of% @List.length_take:=@List.length_take
theorem lx:type_of% @List.getElem?_eq_getElem:=@List.getElem?_eq_getElem
theorem ly:type_of% @Bool.and_eq_true:=@Bool.and_eq_true
theorem l3:type_of% @List.mem_cons:=@List.mem_cons
theorem l7:type_of% @List.getElem?_append_left:=@List.getElem?_append_left
theorem mm:type_of% @List.take_of_length_le:=@List.take_of_length_le
theorem mx:type_of% @List.mem_append:=@List.mem_append
theorem m0:type_of% @List.drop_drop:=@List.drop_drop
theorem m1:type_of% @List.length_cons:=@List.length_cons
theorem m2:type_of% @Nat.add_zero:=@Nat.add_zero
theorem m3:type_of% @List.mem_range:=@List.mem_range
theorem m4:type_of% @List.getElem?_append_right:=@List.getElem?_append_right
theorem m5:type_of% @Option.bind_eq_some_iff:=@Option.bind_eq_some_iff
theorem m7:type_of% @List.nil_append:=@List.nil_append
theorem m8:type_of% @Nat.mod_lt:=@Nat.mod_lt
theorem m9:type_of% @List.contains_iff_mem:=@List.contains_iff_mem
theorem nl:type_of% @Bool.not_eq_true:=@Bool.not_eq_true
theorem nn:type_of% @Option.bind_some:=@Option.bind_some
theorem np:type_of% @Nat.not_lt_zero:=@Nat.not_lt_zero
theorem nr:type_of% @Nat.lt_or_ge:=@Nat.lt_or_ge
theorem n0:type_of% @Nat.le_succ:=@Nat.le_succ
theorem n2:type_of% @List.set_append_right:=@List.set_append_right
theorem n3:type_of% @Int.eq_ofNat_of_zero_le:=@Int.eq_ofNat_of_zero_le
theorem n4:type_of% @Nat.lt_succ_self:=@Nat.lt_succ_self
theorem n6:type_of% @List.take_succ_eq_append_getElem:=@List.take_succ_eq_append_getElem
theorem n7:type_of% @Option.map_eq_some_iff:=@Option.map_eq_some_iff
theorem n8:type_of% @Nat.one_mul:=@Nat.one_mul
theorem og:type_of% @Nat.lt_or_eq_of_le:=@Nat.lt_or_eq_of_le
theorem oj:type_of% @List.mem_map:=@List.mem_map
theorem ot:type_of% @List.getElem?_eq_none:=@List.getElem?_eq_none
theorem ov:type_of% @Nat.add_mul:=@Nat.add_mul
theorem ox:type_of% @List.take_length:=@List.take_length
theorem oB:type_of% @List.length_singleton:=@List.length_singleton
theorem oC:type_of% @List.getD_eq_getElem?_getD:=@List.getD_eq_getElem?_getD
theorem oF:type_of% @List.drop_eq_getElem_cons:=@List.drop_eq_getElem_cons
theorem oG:type_of% @Nat.mul_one:=@Nat.mul_one
theorem oH:type_of% @Nat.le_of_lt_succ:=@Nat.le_of_lt_succ
theorem oK:type_of% @Nat.add_assoc:=@Nat.add_assoc
theorem oM:type_of% @List.take_append_of_le_length:=@List.take_append_of_le_length
theorem oN:type_of% @List.getElem?_drop:=@List.getElem?_drop
theorem oO:type_of% @Nat.mul_le_mul_right:=@Nat.mul_le_mul_right
theorem oP:type_of% @Nat.lt_irrefl:=@Nat.lt_irrefl
theorem oR:type_of% @List.length_map:=@List.length_map
theorem oS:type_of% @List.ext_getElem:=@List.ext_getElem
theorem oT:type_of% @List.eq_nil_of_length_eq_zero:=@List.eq_nil_of_length_eq_zero
theorem oW:type_of% @List.all_eq_true:=@List.all_eq_true
theorem oX:type_of% @Nat.sub_self:=@Nat.sub_self
theorem o0:type_of% @List.nodup_nil:=@List.nodup_nil
theorem o2:type_of% @List.getElem_mem:=@List.getElem_mem
theorem o3:type_of% @List.ext_getElem?:=@List.ext_getElem?
theorem o4:type_of% @List.drop_append_of_le_length:=@List.drop_append_of_le_length
theorem o5:type_of% @Bool.true_and:=@Bool.true_and
theorem o6:type_of% @Nat.eq_zero_or_pos:=@Nat.eq_zero_or_pos
theorem o7:type_of% @List.take_zero:=@List.take_zero
theorem o8:type_of% @List.pairwise_cons:=@List.pairwise_cons
theorem o9:type_of% @List.nodup_cons:=@List.nodup_cons
theorem pb:type_of% @List.getElem?_map:=@List.getElem?_map
theorem pk:type_of% @List.drop_eq_nil_of_le:=@List.drop_eq_nil_of_le
theorem pn:type_of% @Array.all_eq_true_iff_forall_mem:=@Array.all_eq_true_iff_forall_mem
theorem pv:type_of% @List.flatMap_append:=@List.flatMap_append
theorem p2:type_of% @List.drop_eq_nil_iff:=@List.drop_eq_nil_iff
theorem p3:type_of% @Int.tdiv_eq_ediv_of_nonneg:=@Int.tdiv_eq_ediv_of_nonneg
theorem p4:type_of% @Below.refl:=@Below.refl
theorem p6:type_of% @bodyPost_ret:=@bodyPost_ret
theorem qa:type_of% @underlying32:=@underlying32
theorem qb:type_of% @if_pos:=@if_pos
theorem qi:type_of% @wpList_load_row:=@wpList_load_row
theorem qB:type_of% @wpList_store_row:=@wpList_store_row
theorem qX:type_of% @World.ownsRow.lt:=@World.ownsRow.lt
theorem q2:type_of% @Calls.mono:=@Calls.mono
theorem q4:type_of% @if_neg:=@if_neg
theorem q5:type_of% @decide_eq_false:=@decide_eq_false
theorem q6:type_of% @decide_eq_true:=@decide_eq_true
theorem q7:type_of% @underlying113:=@underlying113
theorem q8:type_of% @underlying257:=@underlying257
theorem q9:type_of% @Sem.run_bind:=@Sem.run_bind
theorem rc:type_of% @World.ownsRow.alloc:=@World.ownsRow.alloc
theorem rg:type_of% @strOfNums_size:=@strOfNums_size
theorem rx:type_of% @congrArg:=@congrArg
theorem rC:type_of% @underlying70:=@underlying70
theorem r2:type_of% @Sem.run_pure:=@Sem.run_pure
theorem r3:type_of% @results_cell_row:=@results_cell_row
theorem r4:type_of% @underlying48:=@underlying48
theorem r6:type_of% @of_decide_eq_true:=@of_decide_eq_true
theorem r7:type_of% @underlying3:=@underlying3
theorem r8:type_of% @World.cell?_of_block:=@World.cell?_of_block
theorem r9:type_of% @underlying52:=@underlying52
theorem sd:type_of% @World.block_lt_of_cell?:=@World.block_lt_of_cell?
theorem sj:type_of% @Addr.add_lit:=@Addr.add_lit
theorem sk:type_of% @info_parts:=@info_parts
theorem so:type_of% @cell_of_row:=@cell_of_row
theorem sr:type_of% @Result.andThen_ok:=@Result.andThen_ok
theorem sv:type_of% @Option.some.inj:=@Option.some.inj
theorem sx:type_of% @World.ownsRow.frozenAt:=@World.ownsRow.frozenAt
theorem sB:type_of% @underlying37:=@underlying37
theorem sD:type_of% @World.ownsRow.cellAt:=@World.ownsRow.cellAt
theorem sH:type_of% @wpList_plain:=@wpList_plain
theorem sL:type_of% @run_loadVar_row:=@run_loadVar_row
theorem sM:type_of% @underlying5:=@underlying5
theorem sO:type_of% @ntmps139:=@ntmps139
theorem sP:type_of% @below_drewN:=@below_drewN
theorem sS:type_of% @underlying119:=@underlying119
theorem sT:type_of% @func139:=@func139
theorem sV:type_of% @beq_eq_false_iff_ne:=@beq_eq_false_iff_ne
theorem sW:type_of% @Calls.quiet_of_same:=@Calls.quiet_of_same
theorem sX:type_of% @u32_xor_nat:=@u32_xor_nat
theorem sZ:type_of% @decide_eq_true_eq:=@decide_eq_true_eq
theorem s0:type_of% @Value.slice.injEq:=@Value.slice.injEq
theorem s1:type_of% @run_underlying:=@run_underlying
theorem s2:type_of% @heap_alloc_new:=@heap_alloc_new
theorem s4:type_of% @underlying9:=@underlying9
theorem s5:type_of% @wp_store_row:=@wp_store_row
theorem s6:type_of% @World.size_drew:=@World.size_drew
theorem s7:type_of% @results213:=@results213
theorem s8:type_of% @Ne.symm:=@Ne.symm
theorem bAl(w:World)(o:Obj):Below w.1.size w (w.alloc o):=kF.alloc kE _
theorem bDr(w:World):Below w.1.size w w.drew:=⟨rfl,rfl,rfl,kE,fun _ _=>rfl⟩
theorem BK:prog.cellsOf 70=1:=kO
theorem uk:prog.cellsOf 5=1:=kO
theorem i7:(prog.info? 5).map (fun i=>(i.zero,i.size,i.bytes))=some (some (.int .u8 0),1,1):=kO
def ob(l:List Int):List Value:=l.map (Value.int .u8)
def IsB(l:List Int):Prop:= ∀i,0<=l.getD i 0/\l.getD i 0<256
structure Bs(w:World)(a:Option Addr)(len cap:Nat)(l:List Int):Prop where
 len_eq:l.length=len
 le:len<=cap
 le':cap<=maxLen
 nil:a=none->cap=0
 at_:0<len->∃b off,a=some ⟨b,off,none⟩/\b<w.1.size/\∀i,i<len->w.cell? ⟨b,off+i,none⟩=some (.int .u8 (l.getD i 0))
 byte:IsB l
theorem Bs.below{w w' a d c l}(h:Bs w a d c l)(f:Below w.1.size w w'):Bs w' a d c l:=
 ⟨h.len_eq,h.le,h.le',h.nil,fun m=>by
  obtain⟨b,off,e,g,j⟩:=h.at_ m;refine⟨b,off,e,lk g f.size,fun i k=> ?_⟩;rw[f.cell (p:=⟨b,off+i,none⟩) g];exact j i k,h.byte⟩
theorem de?(l:List Int)(j:Nat)(h:j<l.length):(ob l)[j]?=some (.int .u8 (l.getD j 0)):=by
 simp[ob,List.getD,h]
theorem au(l):(ob l).length=l.length:=by simp[ob]
theorem ev(l):∀a∈ob l,a.oneCell'=true:=ints_oneCell .u8 l
theorem BM{w}{base e:Nat}{v n l}(h:w.ownsRow base e 1 v n (ob l))(c:IsB l):∃a b,v= .slice a n b/\Bs w a n b l:=by
 have d:l.length=n:=by have:=h.1;simpa [ob]using this
 rcases h.2 with⟨rfl,rfl⟩|⟨g,b,m,rfl,q,k,f,j,o,p⟩
 ·exact⟨none,0,rfl,d,kE,kX _,fun _=>rfl,fun h=>absurd h kH,c⟩
 ·refine⟨_,b,rfl,d,f,j,fun e=>(by cases e),fun s=>⟨g,0,rfl,(k6.1 k).1,fun i r=> ?_⟩,c⟩;have:=h.cells (g:=g) rfl i (.int .u8 (l.getD i 0)) (de? l i kH);rw[sj]at this;exact this
theorem cj{w w'}{base e size:Nat}{v n xs}(h:w.ownsRow base e size v n xs)(a:Below w.1.size w w'):w'.ownsRow base e size v n xs:=by
 refine⟨h.1,?_⟩;rcases h.2 with h2|⟨g,cap,cur,hv,hg,hh,r⟩
 ·exact kV h2
 ·exact kT ⟨g,cap,cur,hv,hg,by rw[a.block g (k6.1 hh).1];exact hh,r⟩
theorem eT(w a b):Below w.1.size w ((w.alloc a).alloc b):=(bAl _ _).alloc kP _
theorem qy{k a b}(h:a=b):Ending.returned (.int k a)= .returned (.int k b):=by rw[h]
theorem ir:IsB []:=fun i=>by simp
theorem dR{l}(h:IsB l)(k):IsB (l.take k):=fun i=>by
 by_cases a:i<k
 ·have:=h i;simpa [List.getD,List.getElem?_take,a]using this
 ·simp[List.getD,List.getElem?_take,a]
theorem BN{n}(h:(Lit.int .u8 n).wf=true):0<=n/\n<256:=by
 have:=bounds_u8 h;omega
theorem BO{w a d c f}(h:(a=none/\d=0/\c=0/\f=[])\/∃x,a=some x/\d<=c/\c<=maxLen/\f.length=c/\(∀i,i<f.length->w.cell? (x.add i)=some (.int .u8 (f.getD i 0)))/\∀n∈f,(Lit.int .u8 n).wf=true):
 Bs w a d c (f.take d):=by
 rcases h with⟨rfl,rfl,rfl,rfl⟩|⟨x,rfl,o,p,r,l,q⟩
 ·exact⟨rfl,kE,kX _,fun _=>rfl,fun h=>absurd h kH,fun i=>by simp⟩
 ·refine⟨by simp;omega,o,p,fun e=>(by cases e),fun s=> ?_,dR (fun i=> ?_) d⟩
  ·obtain⟨b,off,k⟩:=x;have m:=l 0 kH;have j:k=none:=by simpa [Addr.add]using World.cell?_spot m
   subst j;refine⟨b,off,rfl,sd w _ m,fun i g=> ?_⟩;have:=l i kH;rw[sj]at this;rw[this];simp[List.getD,g]
  ·by_cases g:i<f.length
   ·have:=BN (q (f[i]) (o2 g));simpa [List.getD,g]using this
   ·simp[List.getD,g]
def Own(B:Nat)(w:World)(a:Option Addr)(n c:Nat)(l:List Int):Prop:=w.ownsRow B 5 1 (.slice a n c) n (ob l)
theorem Own.len{B w a n c l}(h:Own B w a n c l):l.length=n:=by
 have:=h.1;simpa [ob]using this
theorem Own.bs{B w a n c l}(h:Own B w a n c l)(b:IsB l):Bs w a n c l:=by
 obtain⟨f,g,e,d⟩:=BM h b;cases e;exact d
theorem Own.below{B w w' a n c l}(h:Own B w a n c l)(b:Below w.1.size w w'):Own B w' a n c l:=cj h b
theorem Own.mono{B b w a n c l}(h:Own B w a n c l)(d:b<=B):Own b w a n c l:=World.ownsRow.mono h d
theorem gR(B w):Own B w none 0 0 []:=World.ownsRow_nil w B _ _
theorem dZ(w:World)(l n)(b:l.length=n)(h:n<=1048576)(B)(a:B<=w.1.size):Own B (w.alloc (.cells (ob l).toArray 5)) (some ⟨w.1.size,0,none⟩) n n l:=by
 have:=World.ownsRow_lit (base:=B) (e:=5) (size:=1) w (ob l).toArray n a (by unfold maxLen;omega) (by simp[ob];omega);exact this
theorem fw{x}(a:0<=x)(b:x<256):IsB [x]:=fun i=>by
 cases i with
 |zero=>simpa using⟨a,b⟩
 |succ i=>simp
theorem cY{l m}(a:IsB l)(b:IsB m):IsB (l++m):=fun i=>by
 by_cases h:i<l.length
 ·have:=a i;simpa [List.getD,List.getElem?_append_left h]using this
 ·have:=b (i-l.length);simpa [List.getD,List.getElem?_append_right (Nat.le_of_not_lt h)]using this
theorem ul{x l}(a:0<=x)(b:x<256)(h:IsB l):IsB (x::l):=cY (fw a b) h
theorem iL(n):IsB (List.replicate n 0):=fun i=>by
 by_cases h:i<n<;>simp[List.getD,h]
theorem qz(w:World)(l n)(b:l.length=n)(h:n<=1048576)(a:IsB l):Bs (w.alloc (.cells (ob l).toArray 5)) (some ⟨w.1.size,0,none⟩) n n l:=
 (dZ w l n b h 0 (kX _)).bs a
theorem cZ(w:World)(x)(a:0<=x)(b:x<256):Bs (w.alloc (.cells #[.int .u8 x] 5)) (some ⟨w.1.size,0,none⟩) 1 1 [x]:=
 qz w [x] 1 rfl kH (fw a b)
theorem um(w:World)(x y)(a:0<=x)(b:x<256)(c:0<=y)(d:y<256):Bs (w.alloc (.cells #[.int .u8 x,.int .u8 y] 5)) (some ⟨w.1.size,0,none⟩) 2 2 [x,y]:=
 qz w [x,y] 2 rfl kH (ul a b (fw c d))
theorem BP(w:World):Bs (w.alloc (.cells #[.int .u8 0,.int .u8 0,.int .u8 0,.int .u8 0] 5)) (some ⟨w.1.size,0,none⟩) 4 4 [0,0,0,0]:=
 qz w [0,0,0,0] 4 rfl kH (iL 4)
theorem db{w z rest o q T}(y:o.guard=none)(s x)(G:o.op= .call {callee:= .builtin .append,args:=#[s,x],argTypes:=#[70,70]})(B a n c xs)(H:q.eval s= .slice a n c)(f:Own B w a n c xs)(b m d l)(hx:q.eval x= .slice b m d)(p:Bs w b m d l)(Q:n+m<=140737488355328)(C:B<=w.1.size)(h:∀r t w',Own B w' r (n+m) t (xs++l)->Below B w w'->w.grownBy w' (Value.slice a n c).ownBlock->wpList prog z T rest (q.put o.dst (.slice r (n+m) t)) w'):wpList prog z T (o::rest) q w:=by
 obtain⟨i,D,I,J,K⟩:=sk i7;cases b with
 |none=>
  have O:=p.nil rfl;have R:m=0:=by have:=p.le;omega
  subst O;subst R;have F:=oT p.len_eq;subst F;refine wpList_append_own_none y s x _ G B 5 i 1 rC D _ n (ob xs) H f hx ?_;exact h a c w (by simpa using f) kF ⟨rfl,rfl,rfl,kE,fun _ _ _=>rfl⟩
 |some L=>
  refine wpList_append_own w y s x _ G B 5 i _ 1 1 rC D I J K rfl kH _ n (ob xs) H f L m d (ob l) hx (by simp[ob,p.len_eq]) ?_ (ev l) (by unfold maxLen;omega) kH C ?_
  ·intro j X A;have E:j<l.length:=by have:=(lb.1 A).1;simpa [ob]using this
   obtain⟨W,off,e,_,N⟩:=p.at_ (by have:=p.len_eq;omega);cases e;rw[de? l j E]at A;rw[sj,N j (by have:=p.len_eq;omega)];exact A
  ·intro v' w' u v _;have e:ob xs++ob l=ob (xs++l):=by simp[ob]
   rw[e]at u;have S:∃r t,v'= .slice r (n+m) t:=by
    rcases u.2 with⟨rfl,M⟩|⟨g,U,V,rfl,_⟩
    ·exact⟨none,0,by rw[M]⟩
    ·exact⟨_,_,rfl⟩
   obtain⟨r,t,rfl⟩:=S;exact h r t w' u (kF.grown v C (fun k P=>(f.lt k P).1)) v
theorem qA(l i x):(ob l).set i (.int .u8 x)=ob (l.set i x):=by simp[ob,List.map_set]
structure OnlyB(g:Nat)(w w':World):Prop where
 os:w'.os=w.os
 tape:w'.tape=w.tape
 output:w'.output=w.output
 size:w.1.size<=w'.1.size
 block:∀k,k<w.1.size->k≠g->w'.heap[k]?=w.heap[k]?
theorem OnlyB.refl(g w):OnlyB g w w:=⟨rfl,rfl,rfl,kE,fun _ _ _=>rfl⟩
theorem OnlyB.trans{g a b c}(h:OnlyB g a b)(k:OnlyB g b c):OnlyB g a c:=
 ⟨k.os.trans h.os,k.tape.trans h.tape,k.output.trans h.output,k2 h.size k.size,fun i d e=>(k.block i (lk d h.size) e).trans (h.block i d e)⟩
theorem Below.onlyB{w w'}(h:Below w.1.size w w')(g):OnlyB g w w':=⟨h.os,h.tape,h.output,h.size,fun k a _=>h.block k a⟩
theorem OnlyB.below{g B w w'}(h:OnlyB g w w')(c:B<=g)(b:B<=w.1.size):Below B w w':=⟨h.os,h.tape,h.output,h.size,fun k a=>h.block k (lk a b) kH⟩
theorem OnlyB.own{g B w w' a n c l}(h:OnlyB g w w')(b:Own B w a n c l)(d:(Value.slice a n c).ownBlock≠some g):Own B w' a n c l:=by
 refine⟨b.1,?_⟩;rcases b.2 with h2|⟨k,cap,cur,hv,hg,hh,r⟩
 ·exact kV h2
 ·exact kT ⟨k,cap,cur,hv,hg,by rw[h.block k (k6.1 hh).1 (fun e=>d (by rw[hv,e];rfl))];exact hh,r⟩
theorem OnlyB.drew{g w w'}(h:OnlyB g w w'):OnlyB g w w'.drew:=⟨h.os,h.tape,h.output,h.size,h.block⟩
def hA(l:List Int):Value:= .agg (ob l).toArray
def Blk(w:World)(t g:Nat)(xs:List Value):Prop:=w.heap[g]?=some (.cells xs.toArray t (0,0))
theorem Blk.lt{w a g xs}(h:Blk w a g xs):g<w.1.size:=(k6.1 h).1
theorem Blk.cell{w a g xs}(h:Blk w a g xs)(j):w.cell? ⟨g,j,none⟩=xs[j]?:=by
 rw[so w g j _ _ _ h];simp
theorem Blk.free{w a g xs}(h:Blk w a g xs)(j):w.frozen? ⟨g,j,none⟩=false:=frozen_of_row w g j _ _ h
theorem Blk.below{w w' b g xs}(h:Blk w b g xs)(a:Below w.1.size w w'):Blk w' b g xs:=by
 unfold Blk;rw[a.block g h.lt];exact h
theorem Blk.only{w w' c g k xs}(h:Blk w c g xs)(b:OnlyB k w w')(a:g≠k):Blk w' c g xs:=by
 unfold Blk;rw[b.block g h.lt a];exact h
theorem Blk.set{w a g xs}(h:Blk w a g xs)(j v):Blk (w.setCell ⟨g,j,none⟩ v) a g (xs.set j v):=by
 have:=heap_setCell_same w g j xs.toArray a v h;unfold Blk;rw[this];simp
theorem aB(w g j v):OnlyB g w (w.setCell ⟨g,j,none⟩ v):=⟨rfl,rfl,rfl,kP,fun k b a=>Below.heap_setCell _ _ _ _ a⟩
theorem ao(w:World)(a:Nat)(cs):Blk (w.alloc (.cells cs a)) a w.1.size cs.toList:=by
 unfold Blk;rw[heap_alloc_last]
theorem aJ:(prog.info? 32).map (·.size)=some 32:=kO
theorem aL{P d rest o a n}(g:o.guard=none)(f x y)(k:o.op= .store f x y)(w:World)(c b m)(hx:a.eval x= .pointer (some ⟨w.1.size,0,none⟩))(l:a.eval y= .agg b)(j:(P.info? f).map (·.size)=some b.size)(e:c.size=b.size)(i:b.all (·.oneCell')=true)(h:wpList P d n rest (a.put o.dst undef) (w.alloc (.cells b m))):wpList P d n (o::rest) a (w.alloc (.cells c m)):=by
 refine qB g f x y k w.1.size b hx l m c (heap_alloc_last w _) j e i ?_;rw[World.setRow_alloc_new];exact h
theorem aN(w g cs):OnlyB g w (w.setRow g cs):=
 ⟨rfl,rfl,rfl,by simp[World.setRow],fun k b a=>by simp[World.setRow,Array.getElem?_modify,Ne.symm a]⟩
theorem Blk.setRow{w b g xs}(h:Blk w b g xs)(a):Blk (w.setRow g a.toArray) b g a:=setRow_heap w g _ _ b _ h
theorem bQ(l):(ob l).toArray.all (·.oneCell')=true:=by
 rw[pn];intro v a;exact ev l v (by simpa using a)
theorem aE(l):(ob l).toArray.size=l.length:=by simp[ob]
def gE(l:List Int)(j:Nat):List Int:=l.take j++List.replicate (l.length-j) 0
theorem un(l j)(h:j<=l.length):(gE l j).length=l.length:=by simp[gE];omega
theorem uo(l):gE l 0=List.replicate l.length 0:=by simp[gE]
theorem up(l j)(h:j=l.length):gE l j=l:=by subst h;simp[gE]
theorem uq(l j)(h:j<l.length):(gE l j).set j (l.getD j 0)=gE l (j+1):=by
 have e:l.length-j=(l.length-(j+1))+1:=kH;have a:(l.take j).length=j:=by simp;omega
 unfold gE;have b:l.take (j+1)=l.take j++[l.getD j 0]:=by
  rw[n6 h];simp[List.getD,h]
 rw[e,List.replicate_succ,n2 _ _ kH,a,oX,List.set_cons_zero,b];simp only[k5,List.singleton_append]
theorem iM{P:Program}(w:World)(g off:Nat)(a:TypeId)(cs:List Value)(d:TypeDesc)(f:∀j v,cs[j]?=some v->w.cell? ⟨g,off+j,none⟩=some v)
 (l:P.underlying a=some d)(n:(match d with| .struct _| .array _ _=>true|_=>false)=true)(e:(P.info? a).map (·.size)=some cs.length):
 (loadVar a ⟨g,off,none⟩).run P w= .ok (.agg cs.toArray) w:=by
 have h:=
  run_loadCells_list (P:=P) w ⟨g,off,none⟩ cs (fun j v m=>by rw[sj];exact f j v m)
 cases c:P.info? a with
 |none=>simp[c]at e
 |some i=>
  have k:i.size=cs.length:=by simpa [c]using e
  have b:(isAgg a).run P w= .ok true w:=by
   unfold isAgg;rw[q9,s1 l w];cases d<;>simp_all
  simp[loadVar,Sem.run_bind,b,sizeOf,typeInfo,c,k,h]
theorem dm{P:Program}{c:Array Oper}{rest:List Oper}{o:Oper}{a:Act}{w:World}{p:Exit->Act->World->Prop}(e:o.guard=none)(b:TypeId)(x:Operand)(m:o.op= .load b x)
 (g off:Nat)(hx:a.eval x= .pointer (some ⟨g,off,none⟩))(cs:List Value)(d:TypeDesc)(i:∀j v,cs[j]?=some v->w.cell? ⟨g,off+j,none⟩=some v)
 (n:P.underlying b=some d)(k:(match d with| .struct _| .array _ _=>true|_=>false)=true)(l:(P.info? b).map (·.size)=some cs.length)
 (h:wpList P c p rest (a.put o.dst (.agg cs.toArray)) w):wpList P c p (o::rest) a w:=
 sH e fun _ f=>by
  unfold Oper.wp execOp;simp only[m,hx,Instr.loadAt,Instr.sureAddr,q9,r2,sr,iM w g off b cs d i n k l];exact f _ _ h
theorem bO{P w b}{c:Operand->Value}{x o p v}(a:o.op= .load b x)(hx:c x=p)(h:(Instr.loadAt b p).run P w= .ok v w):(execOp c o).run P w= .ok (.value v) w:=by
 unfold execOp;simp only[a,hx,q9,h,sr,r2]
def aQ(f:Nat->List Value):Nat->List Value
 |0=>[]
 |k+1=>aQ f k++f k
structure IsRow(s:Nat)(f:Nat->List Value)(n:Nat):Prop where
 len:∀i,i<n->(f i).length=s
 one:∀i,i<n->∀u∈f i,u.oneCell'=true
theorem IsRow.mono{s f n k}(H:IsRow s f n)(b:k<=n):IsRow s f k:=⟨fun i a=>H.len i kH,fun i a=>H.one i kH⟩
theorem ju{s f}:∀n,IsRow s f n->(aQ f n).length=n*s
 |0,_=>by simp[aQ]
 |n+1,H=>by
  rw[aQ,kY,ju n (H.mono kH),H.len n kH,ov,n8]
theorem mn{s f}:∀n,IsRow s f n->∀i q,i<n->q<s->(aQ f n)[i*s+q]?=(f i)[q]?
 |0,_,i,_,a,_=>by omega
 |n+1,H,i,q,a,d=>by
  rw[aQ];have b:=ju n (H.mono kH);by_cases e:i=n
  ·subst e;rw[m4 kH,b,show i*s+q-i*s=q by omega]
  ·have c:(i+1)*s<=n*s:=oO _ kH;rw[ov,n8]at c;rw[l7 kH];exact mn n (H.mono kH) i q kH d
theorem nF{f f'}:∀n,(∀i,i<n->f i=f' i)->aQ f n=aQ f' n
 |0,_=>rfl
 |n+1,H=>by rw[aQ,aQ,nF n (fun i a=>H i kH),H n kH]
theorem qC{s f}:∀n,IsRow s f n->∀b∈aQ f n,b.oneCell'=true
 |0,_,b,a=>by simp[aQ]at a
 |n+1,H,b,a=>by
  rw[aQ,mx]at a;rcases a with a|a
  ·exact qC n (H.mono kH) b a
  ·exact H.one n kH b a
structure RRow(w:World)(s:Nat)(a:Option Addr)(n c:Nat)(f:Nat->List Value):Prop where
 ok:IsRow s f n
 le:n<=c
 le':c<=maxLen
 nil:a=none->c=0
 at_:0<n->∃b off,a=some ⟨b,off,none⟩/\b<w.1.size/\∀i q,i<n->q<s->w.cell? ⟨b,off+i*s+q,none⟩=(f i)[q]?
theorem RRow.below{w w' s a n c f}(H:RRow w s a n c f)(d:Below w.1.size w w'):RRow w' s a n c f:=
 ⟨H.ok,H.le,H.le',H.nil,fun k=>by
  obtain⟨b,off,e,g,h⟩:=H.at_ k;exact⟨b,off,e,lk g d.size,fun i q j l=>by rw[d.cell (p:=⟨b,off+i*s+q,none⟩) g];exact h i q j l⟩⟩
theorem RRow.cells{w s n c b off f}(H:RRow w s (some ⟨b,off,none⟩) n c f)(i)(a:i<n):∀j v,(f i)[j]?=some v->w.cell? ⟨b,off+i*s+j,none⟩=some v:=fun j v d=>by
 have h:j<s:=by have:=(lb.1 d).1;rw[H.ok.len i a]at this;exact this
 obtain⟨l,k,e,_,g⟩:=H.at_ kH;cases e;rw[g i j a h,d]
def ORow(e s B:Nat)(w:World)(a:Option Addr)(n c:Nat)(f:Nat->List Value):Prop:=w.ownsRow B e s (.slice a n c) n (aQ f n)
theorem ORow.reads{e s B w a n c f}(H:ORow e s B w a n c f)(d:IsRow s f n):RRow w s a n c f:=by
 rcases H.2 with⟨b,u⟩|⟨g,r,t,b,y,l,j,k,v,x⟩
 ·cases b;exact⟨d,kH,kX _,fun _=>rfl,fun h=>absurd h kH⟩
 ·cases b;refine⟨d,j,k,fun e=>(by cases e),fun h=>⟨g,0,rfl,(k6.1 l).1,fun i q m p=> ?_⟩⟩;have o:(i+1)*s<=n*s:=oO _ kH;rw[ov,n8]at o;rw[show 0+i*s+q=i*s+q by omega,sD H (i*s+q) kH];exact mn n d i q m p
theorem ORow.below{e s B w w' a n c f}(H:ORow e s B w a n c f)(b:Below w.1.size w w'):ORow e s B w' a n c f:=cj H b
theorem ORow.mono{e s B b w a n c f}(H:ORow e s B w a n c f)(d:b<=B):ORow e s b w a n c f:=World.ownsRow.mono H d
theorem ORow.congr{e s B w a n c f f'}(H:ORow e s B w a n c f)(h:∀i,i<n->f i=f' i):ORow e s B w a n c f':=by
 unfold ORow at H ⊢;rw[<-nF n h];exact H
theorem eU(e s B w f):ORow e s B w none 0 0 f:=World.ownsRow_nil w B _ _
theorem mo(e s B)(w:World)(a:B<=w.1.size)(f):ORow e s B (w.alloc (.cells #[] e)) (some ⟨w.1.size,0,none⟩) 0 0 f:=by
 have:=World.ownsRow_lit (base:=B) (e:=e) (size:=s) w #[] 0 a (by unfold maxLen;omega) kP;simpa [ORow,aQ]using this
def dg(f:Nat->List Value)(n:Nat)(x:List Value):Nat->List Value:=fun i=>if i=n then x else f i
theorem fJ(f n x):dg f n x n=x:=by simp[dg]
theorem iE(f){n i}(x)(a:i<n):dg f n x i=f i:=by simp[dg,Nat.ne_of_lt a]
theorem nG(f n x):aQ (dg f n x) (n+1)=aQ f n++x:=by
 rw[aQ,fJ,nF n (fun i a=>iE f x a)]
structure ElT(t e s:Nat)(z:Value)(bytes:Nat):Prop where
 und:prog.underlying t=some (.slice e)
 inf:(prog.info? e).map (fun i=>(i.zero,i.size,i.bytes))=some (some z,s,bytes)
 cells:z.cells.size=s
 pos:0<s
theorem jv{w1}{o:Oper}{b u Q}(r t){M e s bytes z}(T:ElT M e s z bytes)(J:o.op= .call {callee:= .builtin .append,args:=#[r,t],argTypes:=#[M,M]})(B a n c f)(K:b.eval r= .slice a n c)(m:ORow e s B w1 a n c f)(x)(y:x.length=s)(w:∀P∈x,P.oneCell'=true)(hx:b.eval t= .slice (some ⟨w1.1.size,0,none⟩) 1 1)(S:n<=1048576)(v:bytes<=1048576)(E:B<=w1.1.size)(F:∀d h w',ORow e s B w' d (n+1) h (dg f n x)->Below B w1 w'->(w1.alloc (.cells x.toArray e)).grownBy w' (Value.slice a n c).ownBlock->u (b.put o.dst (.slice d (n+1) h)) w'):
 o.wp prog b (w1.alloc (.cells x.toArray e)) u Q:=by
 obtain⟨i,G,A,C,D⟩:=sk T.inf;have q:=bAl w1 (.cells x.toArray e);refine wp_append_own _ r t _ J B e i z s bytes T.und G A C D T.cells T.pos _ n (aQ f n) K (cj m q) ⟨w1.1.size,0,none⟩ 1 1 x hx (by rw[y,n8]) ?_ w (by unfold maxLen;omega) ?_ (by simp;omega) ?_
 ·intro j P H;rw[sj,ld];have:(w1.alloc (.cells x.toArray e)).cell? ⟨w1.1.size,j,none⟩=x.toArray[j]?:=so _ w1.1.size j _ e (0,0) (s2 w1 _);rw[this,<-H];simp
 ·have:(n+1)*bytes<=(n+1)*1048576:=Nat.mul_le_mul_left _ v;omega
 ·intro v' w' l p _;rw[<-nG]at l;have L:∃d h,v'= .slice d (n+1) h:=by
   rcases l.2 with⟨rfl,R⟩|⟨g,N,O,rfl,_⟩
   ·omega
   ·exact⟨_,_,rfl⟩
  obtain⟨d,h,rfl⟩:=L;exact F d h w' l ((q.mono E).trans (kF.grown p (by simp;omega) (fun k I=>(qX (cj m q) k I).1))) p
theorem qD{w1 h rest o b F}(m:o.guard=none)(j k){E e s bytes z}(T:ElT E e s z bytes)(C:o.op= .call {callee:= .builtin .append,args:=#[j,k],argTypes:=#[E,E]})(B a n c f)(D:b.eval j= .slice a n c)(i:ORow e s B w1 a n c f)(x)(q:x.length=s)(p:∀G∈x,G.oneCell'=true)(hx:b.eval k= .slice (some ⟨w1.1.size,0,none⟩) 1 1)(A:n<=1048576)(l:bytes<=1048576)(v:B<=w1.1.size)(y:∀d g w',ORow e s B w' d (n+1) g (dg f n x)->Below B w1 w'->(w1.alloc (.cells x.toArray e)).grownBy w' (Value.slice a n c).ownBlock->wpList prog h F rest (b.put o.dst (.slice d (n+1) g)) w'):
 wpList prog h F (o::rest) b (w1.alloc (.cells x.toArray e)):=
 sH m fun _ w=>jv j k T C B a n c f D i x q p hx A l v fun d g w' r t u=>w _ _ (y d g w' r t u)
theorem BQ{P}(w g off)(d k:TypeId)(a cs)(j:Blk w k g a)(e:(P.info? d).map (·.size)=some cs.length)(b:off+cs.length<=a.length)(h:∀v∈cs,v.oneCell'=true):
 (storeVar d ⟨g,off,none⟩ (.agg cs.toArray)).run P w= .ok () (w.setRow g (a.take off++cs++a.drop (off+cs.length)).toArray):=by
 have:=run_storeCells_at P g off k cs 0 a.toArray w j (by simpa using b) h;cases c:P.info? d with
 |none=>simp[c]at e
 |some i=>
  have f:cs.length=i.size:=by simp[c]at e;omega
  simp only[m2]at this;simp[storeVar,sizeOf,typeInfo,c,Value.cells,f];simpa [f]using this
theorem ur{P c rest o a w p}(f:o.guard=none)(e x y)(m:o.op= .store e x y)(g off cs)(hx:a.eval x= .pointer (some ⟨g,off,none⟩))(n:a.eval y= .agg cs.toArray)(q:TypeId)(b)(k:Blk w q g b)(l:(P.info? e).map (·.size)=some cs.length)(d:off+cs.length<=b.length)(i:∀v∈cs,v.oneCell'=true)(h:wpList P c p rest (a.put o.dst undef) (w.setRow g (b.take off++cs++b.drop (off+cs.length)).toArray)):wpList P c p (o::rest) a w:=
 sH f fun _ j=>by
  unfold Oper.wp execOp;simp only[m,hx,n,Instr.storeAt,Instr.sureAddr,q9,r2,sr,BQ w g off e q b cs k l d i];exact j _ _ h
theorem ut{e s B g n w f}(c:Blk w e g (aQ f n))(d:IsRow s f n)(b:B<=g)(h:n<=1048576):ORow e s B w (some ⟨g,0,none⟩) n n f:=by
 have a:=ju n d;exact⟨a,kT ⟨g,n,(aQ f n).toArray,rfl,b,c,kE,by unfold maxLen;omega,by simpa using a,mm (by simp;omega)⟩⟩
structure KeepT(t:Nat)(w w':World):Prop where
 size:w.1.size<=w'.1.size
 block:∀(k:Nat)(cs:Array Value)(fr:Nat×Nat),w.heap[k]?=some (.cells cs t fr)->w'.heap[k]?=some (.cells cs t fr)
theorem KeepT.refl(a w):KeepT a w w:=⟨kE,fun _ _ _ h=>h⟩
theorem KeepT.trans{e a b c}(h:KeepT e a b)(k:KeepT e b c):KeepT e a c:=⟨k2 h.size k.size,fun i cs fr d=>k.block i cs fr (h.block i cs fr d)⟩
theorem aW{b w w'}(h:Below w.1.size w w'):KeepT b w w':=⟨h.size,fun k cs fr a=>by rw[h.block k (k6.1 a).1];exact a⟩
theorem bJ{m e s B w w' v n xs}(i:w.ownsRow B e s v n xs)(d:w.grownBy w' v.ownBlock)(h:e≠m):KeepT m w w':=
 ⟨d.size,fun k cs fr c=>by
  rw[d.block k (k6.1 c).1 (fun a=> ?_)]
  ·exact c
  ·rcases i.2 with⟨b,_⟩|⟨g,j,l,b,_,f,_⟩
   ·subst b;simp[Value.ownBlock]at a
   ·subst b;simp[Value.ownBlock]at a;subst a;rw[c]at f;cases f;exact h rfl⟩
theorem dL{b s B w w' v n xs}(h:w.ownsRow B b s v n xs)(a:KeepT b w w'):w'.ownsRow B b s v n xs:=by
 refine⟨h.1,?_⟩;rcases h.2 with h2|⟨k,cap,cur,hv,hg,hh,r⟩
 ·exact kV h2
 ·exact kT ⟨k,cap,cur,hv,hg,a.block k _ _ hh,r⟩
theorem Blk.keepT{w w' b g xs}(h:Blk w b g xs)(a:KeepT b w w'):Blk w' b g xs:=a.block g _ _ h
theorem aV{f e g w w' xs}(h:OnlyB g w w')(d:Blk w e g xs)(c:e≠f):KeepT f w w':=
 ⟨h.size,fun k cs fr a=>by
  by_cases b:k=g
  ·subst b;rw[d]at a;cases a;exact absurd rfl c
  ·exact(h.block k (k6.1 a).1 b).trans a⟩
theorem iN{j e g:Nat}{w w' b fr}(h:OnlyB g w w')(f:w.heap[g]?=some (.cells b e fr))(d:e≠j):KeepT j w w':=
 ⟨h.size,fun k cs i a=>by
  by_cases c:k=g
  ·subst c;rw[f]at a;cases a;exact absurd rfl d
  ·exact(h.block k (k6.1 a).1 c).trans a⟩
theorem uu(off):∀(xs:List Value)(k:Nat)(Z:Array Value),off+k+xs.length<=Z.size->(xs.zipIdx k).foldl (fun cs x=>cs.setIfInBounds (off+x.2) x.1) Z=(Z.toList.take (off+k)++xs++Z.toList.drop (off+k+xs.length)).toArray
 |[],k,Z,h=>by simp
 |x::xs,k,Z,h=>by
  have a:off+k<Z.toList.length:=by simp at h ⊢;omega
  rw[List.zipIdx_cons,List.foldl_cons,uu off xs (k+1) (Z.setIfInBounds (off+k) x) (by simp at h ⊢;omega)];rw[Array.toList_setIfInBounds,show off+(k+1)=off+k+1 by omega,n6 (by simpa using a),List.getElem_set_self,List.take_set_of_le kE,List.drop_set_of_lt kH];rw[m1,show off+k+1+xs.length=off+k+(xs.length+1)by omega];simp
theorem jw(a Z i off v x rest)(f:a i=some (off,x.length))(d:v.cells=x.toArray)(e:off+x.length<=Z.size):
 Instr.fill a Z ((i,v)::rest)=Instr.fill a (Z.toList.take off++x++Z.toList.drop (off+x.length)).toArray rest:=by
 have c:=uu off x 0 Z kH;rw[m2]at c;rw[Instr.fill];have b:(decide (v.cells.size≠x.length)||decide (off+v.cells.size>Z.size))=false:=by
  rw[d];simp;omega
 rw[f];simp only;rw[b,q4 kN,d,<-c];simp
theorem gF{n e s bytes z}(T:ElT n e s z bytes)(o:s<=1048576)(v)(x:List Value)(k:v.cells=x.toArray)(hx:x.length=s)(w):
 (Instr.buildSlice n 1 #[(0,v)]).run prog w= .ok (.slice (some ⟨w.1.size,0,none⟩) 1 1) (w.alloc (.cells x.toArray e)):=by
 obtain⟨i,g,a,b,l⟩:=sk T.inf;have j:=T.pos;have m:=T.cells;have f:∀Z:Array Value,Z.size=s->Instr.fill (fun i=>some (i*s,s)) Z [(0,v)]=some x.toArray:=fun Z d=>by
  rw[jw _ Z 0 0 v x [] (by simp[hx]) k kH];simp only[Instr.fill,o7,m7,ld];rw[List.drop_of_length_le (by simp[d,hx]),lj]
 have h:¬(2^24<s):=kH;have c:¬(s=0):=kH;simp[Instr.buildSlice,Sem.run_bind,run_underlying T.und w,sizeOf,typeInfo,g,b,zeroValue,a,c];rw[q4 kH];rw[f _ kP];simp[newRow,go_sem]
theorem jV{P:Program}{o:Oper}{a:Act}{w:World}{K:Act->World->Prop}{f:Exit->Act->World->Prop}(e:TypeId)(b:Array (Nat×Operand))(d:o.op= .build e b){cs:Array Value}
 (c:P.built e (b.map fun(i,x)=>(i,a.eval x)).toList=some cs)(h:K (a.put o.dst (.agg cs)) w):o.wp P a w K f:=
 wp_build e b d (by rw[c];rfl) (by rw[c];exact h)
theorem fK{P:Program}{c:Array Oper}{rest:List Oper}{o:Oper}{a:Act}{w:World}{k:Exit->Act->World->Prop}(d:o.guard=none)(j:TypeId)(b:Array (Nat×Operand))(g:o.op= .build j b){cs:Array Value}
 (f:P.built j (b.map fun(i,x)=>(i,a.eval x)).toList=some cs)(h:wpList P c k rest (a.put o.dst (.agg cs)) w):wpList P c k (o::rest) a w:=
 sH d fun _ e=>jV j b g f (e _ _ h)
theorem fj{P:Program}{o:Oper}{a:Act}{w w':World}{K:Act->World->Prop}{g:Exit->Act->World->Prop}(f:TypeId)(c:Nat)(b:Array (Nat×Operand))(e:o.op= .buildSlice f c b){v:Value}
 (h:(Instr.buildSlice f c (b.map fun(i,x)=>(i,a.eval x))).run P w= .ok v w')(d:K (a.put o.dst v) w'):o.wp P a w K g:=by
 unfold Oper.wp execOp;simp only[e,q9,h,sr,r2];exact d
theorem bA{P:Program}{b:Func}{p q:Tmp}{a:TypeId}(h:b.results=#[.cell p a,.tmp q])(tmps:Array Value)(w:World)(g:Nat)(n:TypeId)(cs:Array Value)(d:TypeDesc){v:Value}
 (k:tmps.getD p undef= .pointer (some ⟨g,0,none⟩))(i:w.heap[g]?=some (.cells cs n (0,0)))
 (m:P.underlying a=some d)(f:(match d with| .struct _| .array _ _=>true|_=>false)=true)(j:(P.info? a).map (·.size)=some cs.size)(l:tmps.getD q undef=v):
 (results b tmps).run P w= .ok (.tuple #[.agg cs,v]) w:=by
 have c:tmps[p]?.getD undef= .pointer (some ⟨g,0,none⟩):=by simpa using k
 have e:tmps[q]?.getD undef=v:=by simpa using l
 simp[results,h,c,e,asAddr,run_loadVar_row w g n a cs (0,0) d i m f j]
def mq(P:Program)(t:TypeId):Option (Array Value×List (Nat×Nat)):=
 match P.info? t,P.underlying t with
 |some it,some (.struct fields)=>
  match it.zero,fields.toList.mapM (fun f=>(P.info? f.type).map fun i=>(f.offset,i.size))with
  |some z,some places=>some (z.cells,places)
  |_,_=>none
 |_,_=>none
theorem nH{P j Z d}(h:mq P j=some (Z,d))(a):P.built j a=Instr.fill (d.toArray[·]?) Z a:=by
 unfold mq at h;split at h
 ·rename_i k b f g;split at h
  ·rename_i z e i c;cases h;simp[Program.built,f,g,i,c]
  ·cases h
 ·cases h
def Own1(e B:Nat)(w:World)(a:Option Addr)(n c:Nat)(xs:List Value):Prop:=w.ownsRow B e 1 (.slice a n c) n xs
def f1(xs:List Value):Nat->List Value:=fun i=>[xs.getD i undef]
theorem BR(xs a):∀n,n<=xs.length->aQ (f1 (xs++a)) n=aQ (f1 xs) n
 |0,_=>rfl
 |n+1,h=>by
  rw[aQ,aQ,BR xs a n kH];simp[f1,List.getD,List.getElem?_append_left (show n<xs.length by omega)]
theorem uw:∀(xs:List Value),aQ (f1 xs) xs.length=xs:=fun xs=>by
 have key:∀n,n<=xs.length->aQ (f1 xs) n=xs.take n:=by
  intro n;induction n with
  |zero=>intro _;simp[aQ]
  |succ n ih=>
   intro h;rw[aQ,ih kH,List.take_add_one];simp[f1,List.getD,List.getElem?_eq_getElem (show n<xs.length by omega)]
 rw[key _ kE,ox]
theorem Own1.len{e B w a n c xs}(h:Own1 e B w a n c xs):xs.length=n:=by have:=h.1;omega
theorem Own1.row{e B w a n c xs}(h:Own1 e B w a n c xs):ORow e 1 B w a n c (f1 xs):=by
 unfold ORow;have:=uw xs;rw[h.len]at this;rw[this];exact h
theorem Own1.below{e B w w' a n c xs}(h:Own1 e B w a n c xs)(b:Below w.1.size w w'):Own1 e B w' a n c xs:=cj h b
theorem Own1.mono{e B b w a n c xs}(h:Own1 e B w a n c xs)(d:b<=B):Own1 e b w a n c xs:=World.ownsRow.mono h d
theorem Own1.keep{e B w w' a n c xs}(h:Own1 e B w a n c xs)(b:KeepT e w w'):Own1 e B w' a n c xs:=dL h b
theorem ew(e B w):Own1 e B w none 0 0 []:=World.ownsRow_nil w B _ _
theorem Own1.at_{e B w a n c xs}(h:Own1 e B w a n c xs)(t:0<n):∃g,a=some ⟨g,0,none⟩/\B<=g/\g<w.1.size/\(∃b,w.heap[g]?=some (.cells b e (0,0)))/\∀i,i<n->w.cell? ⟨g,i,none⟩=some (xs.getD i undef):=by
 rcases h.2 with⟨_,o⟩|⟨g,m,b,f,k,d,p,q,r,j⟩
 ·omega
 ·cases f;refine⟨g,rfl,k,(k6.1 d).1,⟨b,d⟩,fun i l=> ?_⟩;rw[so w g i b e (0,0) d];have s:=h.len;rw[<-j];simp only[oC,oG];rw[List.getElem?_take_of_lt l];have:i<b.size:=kH;simp[this]
theorem Own1.set{e B g w n c xs}(h:Own1 e B w (some ⟨g,0,none⟩) n c xs)(i a):Own1 e B (w.setCell ⟨g,i,none⟩ a) (some ⟨g,0,none⟩) n c (xs.set i a):=(World.ownsRow.stored h i a).1
theorem Own1.free{e B g w n c xs}(h:Own1 e B w (some ⟨g,0,none⟩) n c xs)(i):w.frozen? ⟨g,i,none⟩=false:=by
 rcases h.2 with⟨a,_⟩|⟨j,f,b,a,k,d,_⟩
 ·cases a
 ·cases a;exact frozen_of_row w g i b e d
theorem BT{w1}{o:Oper}{b k A}(i j){y e bytes z}(T:ElT y e 1 z bytes)(v:o.op= .call {callee:= .builtin .append,args:=#[i,j],argTypes:=#[y,y]})(B a n c xs)(w:b.eval i= .slice a n c)(d:Own1 e B w1 a n c xs)(x)(p:x.oneCell'=true)(hx:b.eval j= .slice (some ⟨w1.1.size,0,none⟩) 1 1)(u:n<=1048576)(l:bytes<=1048576)(s:B<=w1.1.size)(t:∀f g w',Own1 e B w' f (n+1) g (xs++[x])->Below B w1 w'->(w1.alloc (.cells #[x] e)).grownBy w' (Value.slice a n c).ownBlock->k (b.put o.dst (.slice f (n+1) g)) w'):
 o.wp prog b (w1.alloc (.cells #[x] e)) k A:=by
 refine jv i j T v B a n c (f1 xs) w d.row [x] rfl (by intro C m;simp at m;subst m;exact p) hx u l s (fun f g w' h q r=>t f g w' ?_ q r);unfold ORow at h;rw[nG]at h;have:=uw xs;rw[d.len]at this;rw[this]at h;exact h
theorem BU{w1 g rest o b C}(l:o.guard=none)(i j){A e bytes z}(T:ElT A e 1 z bytes)(w:o.op= .call {callee:= .builtin .append,args:=#[i,j],argTypes:=#[A,A]})(B a n c xs)(y:b.eval i= .slice a n c)(h:Own1 e B w1 a n c xs)(x)(m:x.oneCell'=true)(hx:b.eval j= .slice (some ⟨w1.1.size,0,none⟩) 1 1)(v:n<=1048576)(k:bytes<=1048576)(s:B<=w1.1.size)(u:∀d f w',Own1 e B w' d (n+1) f (xs++[x])->Below B w1 w'->(w1.alloc (.cells #[x] e)).grownBy w' (Value.slice a n c).ownBlock->wpList prog g C rest (b.put o.dst (.slice d (n+1) f)) w'):
 wpList prog g C (o::rest) b (w1.alloc (.cells #[x] e)):=
 sH l fun _ t=>BT i j T w B a n c xs y h x m hx v k s fun d f w' p q r=>t _ _ (u d f w' p q r)
theorem lm{w1}{o:Oper}{f r O}(p q){E e bytes z}(T:ElT E e 1 z bytes)(L:o.op= .call {callee:= .builtin .append,args:=#[p,q],argTypes:=#[E,E]})(B a n c xs)(M:f.eval p= .slice a n c)(d:Own1 e B w1 a n c xs)(x)(y:x.oneCell'=true)(hx:f.eval q= .slice (some ⟨w1.1.size,0,none⟩) 1 1)(Q:n<=1048576)(u:bytes<=1048576)(G:B<=w1.1.size)(H:∀g s w',Own1 e B w' (some ⟨g,0,none⟩) (n+1) s (xs++[x])->Below B w1 w'->(w1.alloc (.cells #[x] e)).grownBy w' (Value.slice a n c).ownBlock->(a=some ⟨g,0,none⟩\/w1.1.size<g)->r (f.put o.dst (.slice (some ⟨g,0,none⟩) (n+1) s)) w'):
 o.wp prog f (w1.alloc (.cells #[x] e)) r O:=by
 obtain⟨i,I,A,C,D⟩:=sk T.inf;have m:=bAl w1 (.cells #[x] e);refine wp_append_lies _ p q E L B e i z 1 bytes T.und I A C D T.cells T.pos _ n xs M (cj d m) ⟨w1.1.size,0,none⟩ 1 1 [x] hx rfl ?_ (by intro R w;simp at w;subst w;exact y) kH (by unfold maxLen;omega) ?_ (by simp;omega) (w1.1.size+1) kP ?_
 ·intro j R J;rw[sj,ld];have:(w1.alloc (.cells #[x] e)).cell? ⟨w1.1.size,j,none⟩=#[x][j]?:=so _ w1.1.size j _ e (0,0) (s2 w1 _);rw[this,<-J];simp
 ·have:(n+1)*bytes<=(n+1)*1048576:=Nat.mul_le_mul_left _ u;omega
 ·intro g t w' v l b _;refine H g t w' v ((m.mono G).trans (kF.grown l (by simp;omega) (fun k K=>(qX (cj d m) k K).1))) l ?_;rcases b with b|b
  ·left;rcases d.2 with⟨h,_⟩|⟨P,F,N,h,_⟩
   ·rw[h]at b;simp[Value.ownBlock]at b
   ·rw[h]at b;simp[Value.ownBlock]at b;cases h;rw[b]
  ·right;omega
theorem jW{w1}{o:Oper}{h u R}(r t){G e s bytes z}(T:ElT G e s z bytes)(N:o.op= .call {callee:= .builtin .append,args:=#[r,t],argTypes:=#[G,G]})(B a n c f)(O:h.eval r= .slice a n c)(d:ORow e s B w1 a n c f)(x)(C:x.length=s)(A:∀Q∈x,Q.oneCell'=true)(hx:h.eval t= .slice (some ⟨w1.1.size,0,none⟩) 1 1)(U:n<=1048576)(y:bytes<=1048576)(I:B<=w1.1.size)(J:∀g v w',ORow e s B w' (some ⟨g,0,none⟩) (n+1) v (dg f n x)->Below B w1 w'->(w1.alloc (.cells x.toArray e)).grownBy w' (Value.slice a n c).ownBlock->(a=some ⟨g,0,none⟩\/w1.1.size<g)->u (h.put o.dst (.slice (some ⟨g,0,none⟩) (n+1) v)) w'):
 o.wp prog h (w1.alloc (.cells x.toArray e)) u R:=by
 obtain⟨i,K,D,E,F⟩:=sk T.inf;have q:=bAl w1 (.cells x.toArray e);refine wp_append_lies _ r t G N B e i z s bytes T.und K D E F T.cells T.pos _ n (aQ f n) O (cj d q) ⟨w1.1.size,0,none⟩ 1 1 x hx (by rw[C,n8]) ?_ A kH (by unfold maxLen;omega) ?_ (by simp;omega) (w1.1.size+1) kP ?_
 ·intro j Q L;rw[sj,ld];have:(w1.alloc (.cells x.toArray e)).cell? ⟨w1.1.size,j,none⟩=x.toArray[j]?:=so _ w1.1.size j _ e (0,0) (s2 w1 _);rw[this,<-L];simp
 ·have:(n+1)*bytes<=(n+1)*1048576:=Nat.mul_le_mul_left _ y;omega
 ·intro g w w' p m b _;rw[<-nG]at p;refine J g w w' p ((q.mono I).trans (kF.grown m (by simp;omega) (fun k M=>(qX (cj d q) k M).1))) m ?_;rcases b with b|b
  ·left;rcases d.2 with⟨l,_⟩|⟨S,H,P,l,_⟩
   ·rw[l]at b;simp[Value.ownBlock]at b
   ·rw[l]at b;simp[Value.ownBlock]at b;cases l;rw[b]
  ·right;omega
theorem Own1.grown{e B o r w w' a b n c k j xs m}(h:Own1 e B w a n c xs)(s:Own1 r o w b k j m)(t:w.grownBy w' (Value.slice b k j).ownBlock)(l:∀g,b=some ⟨g,0,none⟩->a≠some ⟨g,0,none⟩):Own1 e B w' a n c xs:=by
 refine World.ownsRow.kept h t ?_;rcases h.2 with⟨d,_⟩|⟨g,u,v,d,_⟩
 ·left;rw[d];rfl
 ·right;intro i;cases d;rcases s.2 with⟨f,_⟩|⟨g2,p,q,f,_⟩
  ·cases f;simp[Value.ownBlock]at i
  ·cases f;simp[Value.ownBlock]at i;subst i;exact l _ rfl rfl
theorem Own1.lt{e B w a n c xs}(h:Own1 e B w a n c xs){g}(d:a=some ⟨g,0,none⟩):g<w.1.size:=by
 rcases h.2 with⟨b,_⟩|⟨k,i,j,b,_,f,_⟩
 ·cases b;cases d
 ·cases b;cases d;exact(k6.1 f).1
theorem mr{a e bytes z}(T:ElT a e 1 z bytes)(x)(hx:x.cells=#[x])(w):
 (Instr.buildSlice a 1 #[(0,x)]).run prog w= .ok (.slice (some ⟨w.1.size,0,none⟩) 1 1) (w.alloc (.cells #[x] e)):=gF T kH x [x] (by rw[hx]) rfl w
def num(v:Int)(k:Nat):List Int:=(List.range k).map fun i=>v/256^i%256
theorem gS(v k):(num v k).length=k:=by simp[num]
theorem ln(v k):num v (k+1)=num v k++[v/256^k%256]:=by simp[num,List.range_succ]
theorem fL(v k):IsB (num v k):=fun i=>by
 by_cases h:i<k
 ·simp[num,List.getD,h];omega
 ·simp[num,List.getD,h]
theorem qE(v:Int)(k):v/256^k/256=v/256^(k+1):=by
 rw[Int.pow_succ,<-Int.ediv_ediv_of_nonneg (Int.pow_nonneg kH)]
theorem BV(v:Int)(k)(a:0<=v)(b:v<=9223372036854775807):0<=v/256^k/\v/256^k<=9223372036854775807:=by
 have c:(0:Int)<256^k:=Int.pow_pos kH;refine⟨Int.ediv_nonneg a (Int.le_of_lt c),?_⟩;exact Int.le_trans (Int.ediv_le_self _ a) b
theorem i8(v)(k:Nat)(w)(q:0<=v)(r:v<=9223372036854775807)(y:k<=8):
 Calls prog 102 #[.int .i64 v,.int .i64 k] w fun e w'=> ∃a c,e= .returned (.slice a k c)/\Below w.1.size w w'/\Own w.1.size w' a k c (num v k):=by
 go_enter func102,ntmps102;go_wp2;go_loopw [0,5,6] (fun x o i wr=> ∃j a c,j<=k/\i= .int .i64 (j:Nat)/\o= .slice a j c/\x= .int .i64 (v/256^j)/\Below w.1.size w wr/\Own w.1.size wr a j c (num v j)) (fun _ _ i _=>k-(intOf i).toNat)
 case atStart=>
  refine⟨0,_,0,kX _,rfl,rfl,kP,bAl _ _,?_⟩;exact dZ w [] 0 rfl kH _ kE
 case round=>
  obtain⟨j,a,c,u,rfl,rfl,rfl,b,f⟩:=hrel;have t:=BV v j q r;have m:Hid (v/256^j/256=v/256^(j+1)):=qE v j;have l:Hid (num v (j+1)=num v j++[v/256^j%256]):=ln v j;generalize v/256^j=x at*;by_cases s:j<k
  ·go_wp2_with (at_builtin;refine db rfl _ _ rfl w.1.size a j c (num v j) rfl ?own _ 1 1 [x%256] rfl ?bs ?len ?B ?_)
   case own=>exact rc f _
   case bs=>exact cZ wr (x%256) kH kH
   case len=>omega
   case B=>have:=b.size;simp;omega
   intro n p w' h d _;have g:=(b.alloc b.size _).trans d;clear f b d;go_wp2;go_roundw
   case rel=>exact⟨j+1,n,p,kH,by go_num,rfl,by rw[<-m.out],g,by rw[l.out];exact h⟩
   case measure=>simp[intOf];omega
  ·have e:j=k:=kH;subst e;go_wp2;go_ret;exact⟨a,c,rfl,b,f⟩
theorem lp(B a n c xs v)(k:Nat)(w)(g:Own B w a n c xs)(s:B<=w.1.size)(C:n<=1048576)(u:0<=v)(y:v<=9223372036854775807)(A:k<=8):
 Calls prog 163 #[.slice a n c,.int .i64 v,.int .i64 k] w fun e w'=> ∃a c,e= .returned (.slice a (n+k) c)/\Below B w w'/\Own B w' a (n+k) c (xs++num v k):=by
 go_enter func163,ntmps163;go_wp2;go_loopw [0,1,8] (fun o x i wr=> ∃j a c,j<=k/\i= .int .i64 (j:Nat)/\o= .slice a (n+j) c/\x= .int .i64 (v/256^j)/\Below B w wr/\Own B wr a (n+j) c (xs++num v j)) (fun _ _ i _=>k-(intOf i).toNat)
 case atStart=>exact⟨0,a,c,kX _,rfl,rfl,kP,kF,by simpa [num]using g⟩
 case round=>
  obtain⟨j,a,c,z,rfl,rfl,rfl,b,f⟩:=hrel;have p:Hid (v/256^j/256=v/256^(j+1)):=qE v j;have m:Hid (num v (j+1)=num v j++[v/256^j%256]):=ln v j;generalize v/256^j=x at*;by_cases t:j<k
  ·go_wp2_with (at_builtin;refine db rfl _ _ rfl B a (n+j) c (xs++num v j) rfl ?own _ 1 1 [x%256] rfl ?bs ?len ?B ?_)
   case own=>exact rc f _
   case bs=>exact cZ wr (x%256) kH kH
   case len=>omega
   case B=>have:=b.size;simp;omega
   intro q r w' l d _;have h:=(b.alloc (k2 s b.size) _).trans d;clear f b d;go_wp2;go_roundw
   case rel=>exact⟨j+1,q,r,kH,by go_num,rfl,by rw[<-p.out],h,by rw[m.out];exact l⟩
   case measure=>simp[intOf];omega
  ·have e:j=k:=kH;subst e;go_wp2;go_ret;exact⟨a,c,rfl,b,f⟩
def low:List Int->Int
 |[]=>0
 |x::t=>x+256*low t
theorem nJ{x a}(h:IsB (x::a)):IsB a:=fun i=>by have:=h (i+1);simpa using this
theorem nK{x a}(h:IsB (x::a)):0<=x/\x<256:=by have:=h 0;simpa using this
theorem gG:∀{l:List Int},IsB l->0<=low l/\low l<256^l.length
 |[],_=>by simp[low]
 |x::a,h=>by
  have b:=gG (nJ h);have c:=nK h;have e:(256:Int)^(x::a).length=256*256^a.length:=by rw[m1,Int.pow_succ];omega
  rw[e];simp only[low];omega
theorem qF(v):∀k,num v (k+1)=v%256::num (v/256) k
 |0=>by simp[num]
 |k+1=>by
  have e:v/256^(k+1)=v/256/256^k:=by rw[Int.pow_succ,Int.mul_comm,<-Int.ediv_ediv_of_nonneg kH]
  rw[ln,qF v k,ln (v/256) k,List.cons_append,e]
theorem jX:∀{l:List Int},IsB l->num (low l) l.length=l
 |[],_=>rfl
 |x::a,h=>by
  have b:=nK h;rw[m1,qF];simp only[low];rw[show(x+256*low a)%256=x by omega,show(x+256*low a)/256=low a by omega,jX (nJ h)]
theorem qG:∀(k:Nat)(v:Int),0<=v->v<256^k->low (num v k)=v
 |0,v,b,a=>by simp[num,low];simp at a;omega
 |k+1,v,b,a=>by
  rw[qF];simp only[low];have e:(256:Int)^(k+1)=256*256^k:=by rw[Int.pow_succ];omega
  rw[qG k (v/256) kH kH];omega
theorem nL(l:List Int)(i)(h:i<l.length):low (l.drop i)=l.getD i 0+256*low (l.drop (i+1)):=by
 rw[oF h];simp[low,List.getD_eq_getElem?_getD,h]
theorem ff{l}(h:IsB l)(k):IsB (l.drop k):=fun i=>by
 have:=h (k+i);simpa [List.getD_eq_getElem?_getD,List.getElem?_drop]using this
def sl(a b:ByteArray):Bool:=Op.bytesLess a.toList b.toList
theorem ux:∀x:List UInt8,Op.bytesLess x x=false
 |[]=>rfl
 |a::x=>by simp[Op.bytesLess,ux x]
theorem uy:∀{x y z:List UInt8},Op.bytesLess x y=true->Op.bytesLess y z=true->Op.bytesLess x z=true
 |x,[],z,h,_=>by cases x<;>simp[Op.bytesLess]at h
 |x,b::y,[],_,h=>by simp[Op.bytesLess]at h
 |[],b::y,c::z,_,_=>by simp[Op.bytesLess]
 |a::x,b::y,c::z,e,d=>by
  simp only[Op.bytesLess,Bool.or_eq_true,sZ,ly,beq_iff_eq]at e d ⊢;rcases e with e|⟨rfl,e⟩
  ·rcases d with d|⟨rfl,d⟩
   ·exact kV (UInt8.lt_trans e d)
   ·exact kV e
  ·rcases d with d|⟨rfl,d⟩
   ·exact kV d
   ·exact kT ⟨rfl,uy e d⟩
theorem uz:∀{x y:List UInt8},Op.bytesLess x y=false->Op.bytesLess y x=false->x=y
 |[],[],_,_=>rfl
 |[],b::y,h,_=>by simp[Op.bytesLess]at h
 |a::x,[],_,h=>by simp[Op.bytesLess]at h
 |a::x,b::y,c,d=>by
  simp only[Op.bytesLess,Bool.or_eq_false_iff,decide_eq_false_iff_not,Bool.and_eq_false_iff,sV]at c d;have e:a=b:=by
   have f:=UInt8.not_lt.1 c.1;have g:=UInt8.not_lt.1 d.1;exact UInt8.le_antisymm g f
  subst e;rw[uz (x:=x) (y:=y) (by rcases c.2 with h|h;exact absurd rfl h;exact h) (by rcases d.2 with h|h;exact absurd rfl h;exact h)]
theorem qH{a b:ByteArray}(h:a.toList=b.toList):a=b:=by
 rw[ByteArray.toList_eq,ByteArray.toList_eq]at h;obtain⟨⟨x⟩⟩:=a;obtain⟨⟨y⟩⟩:=b;have:x=y:=h;rw[this]
theorem lq(a):sl a a=false:=ux _
theorem jx{a b c}(d:sl a b=true)(e:sl b c=true):sl a c=true:=uy d e
theorem uC{a b}(c:sl a b=false)(d:sl b a=false):a=b:=qH (uz c d)
def sle(a b:ByteArray):Bool:= !sl b a
theorem jY{a b c}(d:sle a b=true)(f:sle b c=true):sle a c=true:=by
 unfold sle at*;simp only[Bool.not_eq_true']at*;cases h:sl c a with
 |false=>rfl
 |true=>
  cases e:sl b c with
  |true=>exact absurd (jx e h) (by rw[d];decide)
  |false=>
   obtain rfl:=uC e f;exact absurd h (by rw[d];decide)
theorem mt{a b}(h:sl a b=true):sle a b=true:=by
 unfold sle;cases c:sl b a with
 |false=>rfl
 |true=>exact absurd (jx h c) (by rw[lq];decide)
theorem qI{a b c}(d:sl a b=true)(e:sle b c=true):sl a c=true:=by
 cases f:sl a c with
 |true=>rfl
 |false=>
  have g:sle c a=true:=by unfold sle;rw[f];rfl
  have:=jY e g;unfold sle at this;rw[d]at this;exact absurd this kN
theorem qJ{a b c}(d:sle a b=true)(e:sl b c=true):sl a c=true:=by
 cases f:sl a c with
 |true=>rfl
 |false=>
  have g:sle c a=true:=by unfold sle;rw[f];rfl
  have:=jY g d;unfold sle at this;rw[e]at this;exact absurd this kN
def lfK(l:List Int):Nat:=(l.getD 0 0).toNat
def lfV(l:List Int):Nat:=(l.getD (1+lfK l) 0).toNat
def fk(l:List Int):Bool:=decide (1<=lfK l/\lfK l<=40/\1+lfK l<l.length/\lfV l<=70/\2+lfK l+lfV l<=l.length)
theorem iO{l}:fk l=true↔1<=lfK l/\lfK l<=40/\1+lfK l<l.length/\lfV l<=70/\2+lfK l+lfV l<=l.length:=by unfold fk;rw[decide_eq_true_iff]
def gT(l:List Int):Nat:=2+lfK l+lfV l
def ez(l:List Int):ByteArray:=strOfNums ((l.drop 1).take (lfK l))
def gU(l:List Int):ByteArray:=strOfNums ((l.drop (2+lfK l)).take (lfV l))
def lfP(l:List Int):Option (List (ByteArray×ByteArray)):=
 if h:l.length=0 then some []else if fk l=true then(lfP (l.drop (gT l))).map ((ez l,gU l):: ·)else none
 termination_by l.length
 decreasing_by simp[gT];omega
theorem mu{l}(h:l.length=0):lfP l=some []:=by rw[lfP];simp[h]
theorem jZ{l}(h:l.length≠0)(a:fk l=false):lfP l=none:=by rw[lfP];simp[h,a]
theorem qK{l}(h:fk l=true):lfP l=(lfP (l.drop (gT l))).map ((ez l,gU l):: ·):=by
 rw[lfP,dif_neg (by have:=(iO.1 h).2.2.1;omega),qb h]
def fN(l:List Int):Bool:=decide (1<=lfK l/\lfK l<=40/\5+lfK l<=l.length)
theorem iP{l}:fN l=true↔1<=lfK l/\lfK l<=40/\5+lfK l<=l.length:=by unfold fN;rw[decide_eq_true_iff]
def fg(l:List Int):Int:=low (l.take 4)
def lnP(l:List Int):Option (List (ByteArray×Int)):=
 if h:l.length=0 then some []else if fN l=true then(lnP (l.drop (5+lfK l))).map ((ez l,fg (l.drop (1+lfK l))):: ·)else none
 termination_by l.length
 decreasing_by simp;omega
theorem jy{l}(h:l.length=0):lnP l=some []:=by rw[lnP];simp[h]
theorem lr{l}(h:l.length≠0)(a:fN l=false):lnP l=none:=by rw[lnP];simp[h,a]
theorem mv{l}(h:fN l=true):lnP l=(lnP (l.drop (5+lfK l))).map ((ez l,fg (l.drop (1+lfK l))):: ·):=by
 rw[lnP,dif_neg (by have:=(iP.1 h).2.2;omega),qb h]
def inP(l:List Int):Option (List (ByteArray×Int)):=if 4<=l.length then(lnP (l.drop 4)).map ((strOfNums [],fg l):: ·)else none
inductive Tr where
 |leaf (id:Int) (es:List (ByteArray×ByteArray))
 |node (id:Int) (ks:Tr)
 |nil
 |cons (s:ByteArray) (t:Tr) (ks:Tr)
structure Pg where
 kd:Int->Int
 bd:Int->List Int
 ok:Int->Bool
structure St where
 seen:List Int
 tall:Int
def rdK(r:St->Int->Option (Tr×St)):List (ByteArray×Int)->St->Option (Tr×St)
 |[],st=>some (.nil,st)
 |(s,id)::ls,st=>(r st id).bind fun x=>(rdK r ls x.2).bind fun y=>some (.cons s x.1 y.1,y.2)
def eB(P:Pg)(st:St)(id:Int):Bool:=P.ok id&&decide (2<=id)&& !st.seen.contains id&&(P.kd id==2||P.kd id==3)
theorem gV{P a id}:eB P a id=true↔P.ok id=true/\2<=id/\id∉a.seen/\(P.kd id=2\/P.kd id=3):=by
 simp[eB,and_assoc]
def rdT(P:Pg):Nat->Int->St->Int->Option (Tr×St)
 |0,_,_,_=>none
 |f+1,steps,st,id=>
  if eB P st id=true then
   if P.kd id=2 then
    if st.tall<0\/st.tall=steps then(lfP (P.bd id)).bind fun es=>if es.isEmpty then none else some (.leaf id es,⟨id::st.seen,steps⟩)else none
   else(inP (P.bd id)).bind fun ls=>(rdK (rdT P f (steps+1)) ls ⟨id::st.seen,st.tall⟩).map fun y=>(.node id y.1,y.2)
  else none
theorem aP{w a n c l}(h:Bs w a n c l):(convert 70 9 (.slice a n c)).run prog w= .ok (.string (strOfNums l)) w:=by
 rcases o6 n with h0|hp
 ·have g:=oT (by rw[h.len_eq];exact h0);subst g;cases a with
  |none=>exact run_convert_bytes_nil w 70 5 rC sM n c _ s4
  |some d=>
   subst h0;rw[run_convert_bytes_string w _ _ 5 _ 0 c rC sM s4,run_bytesToString w d 0 c [] (by have:=run_loadCells_list (P:=prog) w d [] (fun j v f=>by simp at f);simpa using this)]
   rfl
 ·obtain⟨b,off,rfl,_,e⟩:=h.at_ hp;exact run_convert_bytes_arg w 70 5 rC sM b off n c l h.len_eq e _ s4
def ec(k:Int)(n:Nat):List Int:=(List.range n).map fun i:Nat=>(k+(i:Int))%256
theorem uD(k n):(ec k n).length=n:=by simp[ec]
theorem BW(k n j)(h:j<n):(ec k n).getD j 0=(k+j)%256:=by simp[ec,List.getD,h]
theorem uE(k n):IsB (ec k n):=fun i=>by
 by_cases h:i<n
 ·rw[BW k n i h];omega
 ·simp[ec,List.getD,h]
theorem BX(k j):ec k (j+1)=ec k j++[(k+j)%256]:=by simp[ec,List.range_succ]
theorem BY(k)(l:List Int)(j)(h:j<l.length):(ob (ec k j++l.drop j)).set j (.int .u8 ((k+j)%256))=ob (ec k (j+1)++l.drop (j+1)):=by
 rw[show ob (ec k j++l.drop j)=ob (ec k j)++ob (l.drop j)by simp[ob]];rw[oF h];have e:(ob (ec k j)).length=j:=by simp[ob,uD]
 rw[n2 _ _ kH,e,oX,BX];simp only[ob,k4,List.map_append,List.set_cons_zero,k5,List.cons_append,m7]
theorem BZ{a b c:World}{d}(h:a.grownBy b d)(k:b.grownBy c d):a.grownBy c d:=
 ⟨k.os.trans h.os,k.tape.trans h.tape,k.output.trans h.output,k2 h.size k.size,fun i f e=>(k.block i (lk f h.size) e).trans (h.block i f e)⟩
theorem B4(a:World)(b):a.grownBy a b:=⟨rfl,rfl,rfl,kE,fun _ _ _=>rfl⟩
theorem Ca{B w a n c l}(h:Own B w a n c l)(j:0<n):∃g,a=some ⟨g,0,none⟩/\B<=g:=by
 rcases h.2 with⟨e,i⟩|⟨g,d,f,e,b,_⟩
 ·omega
 ·cases e;exact⟨g,rfl,b⟩
theorem qL(B a n c l k w)(h:Own B w a n c l)(H:n<=1048576)(D:0<=k)(E:k<=1099511627776):
 Calls prog 36 #[.slice a n c,.int .i64 k] w fun e w'=>e= .returned (.int .i64 (k+n))/\w.grownBy w' (Value.slice a n c).ownBlock/\Below B w w'/\w'.1.size=w.1.size/\Own B w' a n c (ec k n):=by
 have m:Hid (l.length=n):=h.len;go_enter func36,ntmps36;go_wp2;go_loopw [1,5] (fun x i wr=> ∃j:Nat,j<=n/\i= .int .i64 j/\x= .int .i64 (k+j)/\w.grownBy wr (Value.slice a n c).ownBlock/\Below B w wr/\wr.1.size=w.1.size/\Own B wr a n c (ec k j++l.drop j)) (fun _ i _=>n-(intOf i).toNat)
 case atStart=>exact⟨0,kX _,rfl,kP,B4 _ _,kF,rfl,by simpa [ec]using h⟩
 case round=>
  obtain⟨j,G,rfl,rfl,y,u,f,b⟩:=hrel;by_cases z:j<n
  ·obtain⟨g,rfl,t⟩:=Ca b kH;have d:=b.stored j (.int .u8 ((k+j)%256));rw[BY k l j (by rw[m.out];exact z)]at d;have v:∃q,wr.cell? ⟨g,j,none⟩=some (.int .u8 q):=by
    rw[b.cellAt j kH,de? _ j (by simp[uD];have:=m.out;omega)];exact⟨_,rfl⟩
   obtain⟨q,v⟩:=v;have F:=b.frozenAt j;have r:Hid (World.ownsRow (wr.setCell ⟨g,j,none⟩ (.int .u8 ((k+j)%256))) B 5 1 (.slice (some ⟨g,0,none⟩) n c) n (ob (ec k (j+1)++l.drop (j+1)))):=d.1;have C:Hid (wr.grownBy (wr.setCell ⟨g,j,none⟩ (.int .u8 ((k+j)%256))) (some g)):=d.2;clear d b h;have A:=u.setCell (p:=⟨g,j,none⟩) t (.int .u8 ((k+j)%256));have o:Hid (wr.1.size=w.1.size):=f;clear f;go_wp2;go_roundw
   case rel=>exact⟨j+1,kH,by go_num,by go_num,BZ y C.out,A,by rw[World.size_setCell];exact o.out,r.out⟩
   case measure=>simp[intOf];omega
  ·have e:j=n:=kH;subst e;have s:ec k j++l.drop j=ec k j:=by rw[List.drop_of_length_le (by rw[m.out];exact kE),lj]
   rw[s]at b;have o:Hid (wr.1.size=w.1.size):=f;clear f s;go_wp2;go_ret;exact⟨rfl,y,u,o.out,b⟩
theorem uF(a n c l w)(h:Bs w a n c l)(k:n<=1048576):
 Calls prog 195 #[.slice a n c] w fun e w'=> ∃b d,e= .returned (.slice b n d)/\Below w.1.size w w'/\Own w.1.size w' b n d l:=by
 go_enter func195,ntmps195;go_wp2_with (at_builtin;refine db rfl _ _ rfl w.1.size _ 0 0 [] rfl ?own a n c l rfl ?bs ?len ?B ?_)
 case own=>exact dZ w [] 0 rfl kH _ kE
 case bs=>exact h.below (bAl _ _)
 case len=>omega
 case B=>simp
 intro b d w' g f _;have i:=(bAl _ _).trans f;have j:Own w.1.size w' b n d l:=by have:=g;simpa using this
 clear g f;go_wp2;go_ret;exact⟨b,d,rfl,i,j⟩
theorem Bs.piece{w b off n d l}(h:Bs w (some ⟨b,off,none⟩) n d l)(i m)(r:i+m<=n)(a)(g:m<=a)(f:a<=maxLen):Bs w (some ⟨b,off+i,none⟩) m a ((l.drop i).take m):=by
 refine⟨by simp[h.len_eq];omega,g,f,fun e=>(by cases e),fun s=> ?_,?_⟩
 ·obtain⟨q,p,e,o,c⟩:=h.at_ kH;cases e;refine⟨b,off+i,rfl,o,fun j k=> ?_⟩;rw[oK,c (i+j) kH];simp[List.getD,k]
 ·refine dR (fun j=> ?_) m;have:=h.byte (i+j);simpa [List.getD]using this
theorem uG(a n c l w)(h:Bs w a n c l)(r:n<=1048576):
 Calls prog 238 #[.slice a n c] w fun e w'=> ∃b d,e= .returned (.slice b n d)/\Below w.1.size w w'/\Own w.1.size w' b n d l:=by
 cases a with
 |none=>
  have m:=h.nil rfl;have i:n=0:=by have:=h.le;omega
  subst m;subst i;have o:=oT h.len_eq;subst o;have p:=fun w=>Lib.run_eql_slice_nil (P:=prog) w 70 5 none 0 0 0 0 rC;go_enter func238,ntmps238;go_wp2;go_ret;exact⟨none,0,rfl,kF,gR _ _⟩
 |some f=>
  have p:=fun w=>Lib.run_eql_slice_nil (P:=prog) w 70 5 (some f) n c 0 0 rC;go_enter func238,ntmps238;go_wp2_with (at_builtin;refine db rfl _ _ rfl w.1.size _ 0 0 [] rfl ?own (some f) n c l rfl ?bs ?len ?B ?_)
  case own=>exact dZ w [] 0 rfl kH _ kE
  case bs=>exact h.below (bAl _ _)
  case len=>omega
  case B=>simp
  intro b d w' j g _;have k:=(bAl _ _).trans g;have q:Own w.1.size w' b n d l:=by have:=j;simpa using this
  clear j g;go_wp2;go_ret;exact⟨b,d,rfl,k,q⟩
section
variable {P:Program} {ops:Array Oper} {Q:Exit->Act->World->Prop} {md:Region.Mode} {S:World->Prop} {D:Nat->Bool}
def bL(P:Program)(md:Region.Mode)(ops:Array Oper)(Q:Exit->Act->World->Prop)(S:World->Prop)(D:Nat->Bool):Nat->Array Bool->Act->World->Prop
 |0,listed,a,w=>Region.ready md ops listed=[]/\Q .normal a w
 |fuel+1,listed,a,w=>
  (Region.ready md ops listed=[]->Q .normal a w)/\
  ∀i∈Region.ready md ops listed,wpOp P ops Q i (fun a' w'=>(D i=false->S w')/\bL P md ops Q S D fuel (listed.setIfInBounds i true) a' w') a w
theorem uH:∀(b:Nat)(c:Array Bool)(a:Act)(w:World),bL P md ops Q S D b c a w->wpAny P md ops Q b c a w
 |0,_,_,_,h=>h
 |b+1,_,_,_,h=>⟨h.1,fun i e=>wpOp_mono (fun d w' h'=>uH b _ d w' h'.2) (h.2 i e)⟩
theorem aT(i){o c b a w}(hr:Region.ready md ops b=[i])(l:ops[i]?=some o)(h:∀K':Act->World->Prop,Shut (∀a w,(D i=false->S w)->bL P md ops Q S D c (b.setIfInBounds i true) a w->K' a w)->if Region.wanted o (yielded ops a.tmps)=true then Oper.wp P o a w K' Q else K' (a.put o.dst undef) w):bL P md ops Q S D (c+1) b a w:=
 ⟨fun d=>(by rw[hr]at d;cases d),fun j e=>by
  rw[hr]at e;obtain rfl:j=i:=by simpa using e
  exact wpOp_step l (fun K' f=>h K' (fun a w g k=>f a w ⟨g,k⟩))⟩
theorem on1(i:Nat){o:Oper}{c:Nat}{b:Array Bool}{a:Act}{w:World}
 (h:∀K':Act->World->Prop,Shut (∀a w,(D i=false->S w)->bL P md ops Q S D c (b.setIfInBounds i true) a w->K' a w)->Oper.wp P o a w K' Q)(hr:Region.ready md ops b=[i]:=by kernel_rfl)(f:ops[i]?=some o:=by rfl)(e:Region.wanted o (yielded ops a.tmps)=true:=by rfl):bL P md ops Q S D (c+1) b a w:=
 aT i hr f fun K' d=>by rw[qb e];exact h K' d
theorem uI{b a w}(hr:Region.ready md ops b=[])(h:Q .normal a w):∀c,bL P md ops Q S D c b a w
 |0=>⟨hr,h⟩
 |_+1=>⟨fun _=>h,by rw[hr];simp⟩
theorem ay(d c){id a w}(b:P.follows .mixedOrders=true)(h:bL P .any ops Q d c ops.size (Array.replicate ops.size false) a w.drew):(Code.region id ops true).wp P Q a w:=
 wp_region_any b (uH _ _ _ _ h)
end
section
variable {P:Program} {ops:Array Oper} {Q:Exit->Act->World->Prop} {md:Region.Mode} {S:World->Prop} {D:Nat->Bool}
theorem Cb{i oi v}(r:Nat->Bool)(R:ops[i]?=some oi)(I:∀(j:Nat)(o:Oper) cs b,ops[j]?=some o->o.op≠ .select cs b)(ad:∀c a w,Q (.panic c) (a.put oi.dst v) w->Q (.panic c) a w)(ac:∀j f,ops[j]?=some f->D j=true->r j=true)(ab:∀j f,ops[j]?=some f->r j=true->∃e∈f.after,Region.binds md e=true/\(e.on=i\/r e.on=true)):
 ∀(m:Nat)(d:Array Bool)(a:Act)(w:World),(∀j,r j=true->d.getD j true=false)->
  (∀j f,ops[j]?=some f->j≠i->d.getD j true=false->(∀e∈f.after,Region.binds md e=true->e.on≠i)->oi.apart ops f=true)->
  i∈Region.ready md ops d->YieldsIf P ops S oi v a->S w->
  bL P md ops Q S D m (d.setIfInBounds i true) (a.put oi.dst v) w->bL P md ops Q S D (m+1) d a w:=by
 intro m;induction m with
 |zero=>
  intro d a w _ _ hr N B H;refine⟨fun h=>(by rw[h]at hr;cases hr),fun j L=> ?_⟩;by_cases g:j=i
  ·subst g;exact N.wpOp R B ⟨fun _=>B,H⟩
  ·have:=ready_mono L g;rw[H.1]at this;cases this
 |succ m ih=>
  intro d a w q t hr N B H;refine⟨fun h=>(by rw[h]at hr;cases hr),fun j L=> ?_⟩;by_cases g:j=i
  ·subst g;exact N.wpOp R B ⟨fun _=>B,H⟩
  ·have l:=H.2 j (ready_mono L g);obtain⟨F,f,n,C⟩:=mem_ready.1 L;have z:∀e∈f.after,Region.binds md e=true->d.getD e.on true≠false:=fun e y x A=>by
    have l:=C e y x;rcases nr e.on d.size with h'|h'
    ·simp[h']at A l;rw[A]at l;cases l
    ·simp[Array.getElem?_eq_none h']at l
   have G:∀e∈f.after,Region.binds md e=true->e.on≠i:=fun e y x V=>by
    have l:=C e y x;have A:=(mem_ready.1 hr).1;rw[V]at l;rcases nr i d.size with h'|h'
    ·simp[h']at A l;rw[A]at l;cases l
    ·simp[Array.getElem?_eq_none h']at l
   have s:r j=false:=by
    cases O:r j with
    |false=>rfl
    |true=>
     obtain⟨e,y,x,p⟩:=ab j f n O;rcases p with p|p
     ·exact absurd p (G e y x)
     ·exact absurd (q _ p) (z e y x)
   have U:D j=false:=by
    cases O:D j with
    |false=>rfl
    |true=>rw[ac j f n O]at s;cases s
   have Z:=wpOp_putIf n (t j f n g F G) (fun cs b=>I i oi cs b R) (fun cs b=>I j f cs b n) ad N l;have T:∀k,r k=true->(d.setIfInBounds j true).getD k true=false:=fun k M=>by
    have u:j≠k:=fun e=>by rw[e,M]at s;cases s
    rw[getD_set_ne true u];exact q k M
   have E:∀k J,ops[k]?=some J->k≠i->(d.setIfInBounds j true).getD k true=false->
    (∀e∈J.after,Region.binds md e=true->e.on≠i)->oi.apart ops J=true:=fun k J M W q X=>by
    refine t k J M W ?_ X;by_cases u:j=k
    ·subst u;exact F
    ·rw[getD_set_ne true u]at q;exact q
   refine wpOp_mono (fun Y w' K=>⟨K.2.1,ih (d.setIfInBounds j true) Y w' T E (ready_mono hr (s8 g)) K.1 (K.2.1 U) ?_⟩) Z;rw[Array.setIfInBounds_comm _ _ g];exact K.2.2
def Cc(md:Region.Mode)(ops:Array Oper)(i:Nat):List Bool:=
 (List.range ops.size).foldl (fun acc j=>acc++[match ops[j]? with|none=>false|some o=>o.after.any fun e=>Region.binds md e&&(e.on==i||acc.getD e.on false)]) []
def i9(md:Region.Mode)(ops:Array Oper)(i j:Nat):Bool:=decide (j<ops.size)&&(Cc md ops i).getD j false
def jz(md:Region.Mode)(ops:Array Oper)(D:Nat->Bool)(listed:Array Bool)(i:Nat):Bool:=
 (List.range ops.size).all fun j=>(!(D j)||i9 md ops i j)&&(!(i9 md ops i j)||(!(listed.getD j true)&&match ops[j]? with|none=>false|some o=>o.after.any fun e=>Region.binds md e&&(e.on==i||i9 md ops i e.on)))
theorem j4(i d:Nat){oi v f b a w}(r:ops[i]?=some oi)(p:oi.dst=some d)(B:Region.noSelect ops=true)(z:Region.free md ops b i=true)(hr:(Region.ready md ops b).contains i=true)(C:jz md ops D b i=true)(u:∀c a w,Q (.panic c) (a.put oi.dst v) w->Q (.panic c) a w)(E:YieldsIf P ops S oi v a)(x:S w)(h:bL P md ops Q S D f (b.setIfInBounds i true) (a.put (some d) v) w):bL P md ops Q S D (f+1) b a w:=by
 have g:∀j,j<ops.size->(D j=true->i9 md ops i j=true)/\(i9 md ops i j=true->b.getD j true=false/\∀o,ops[j]?=some o->∃e∈o.after,Region.binds md e=true/\(e.on=i\/i9 md ops i e.on=true)):=fun j k=>by
  have m:=oW.1 C j (m3.2 k);simp only[ly,Bool.or_eq_true,Bool.not_eq_true']at m;refine⟨fun p=> ?_,fun y=> ?_⟩
  ·rcases m.1 with h2|h2
   ·rw[p]at h2;cases h2
   ·exact h2
  ·rcases m.2 with h2|h2
   ·rw[y]at h2;cases h2
   ·refine⟨h2.1,fun o A=> ?_⟩;have n:=h2.2;rw[A]at n;simp only[Array.any_eq_true',ly,Bool.or_eq_true,beq_iff_eq]at n;exact n
 have s:∀j,i9 md ops i j=true->j<ops.size:=fun j h=>by
  unfold i9 at h;simp only[ly,sZ]at h;exact h.1
 refine Cb (i9 md ops i) r (Region.noSelect_spec B) u (fun j t k q=>(g j (k6.1 k).1).1 q)
  (fun j t k l=>((g j (k6.1 k).1).2 l).2 t k) f b a w (fun j l=>((g j (s j l)).2 l).1) (Region.free_spec r z) (by simpa using hr) E x ?_
 rw[p];exact h
theorem Cd(i d:Nat){oi:Oper}{v:Value}{e:Nat}{b:Array Bool}{a:Act}{w:World}(m:ops[i]?=some oi)(p:∀w,S w->(execOp a.eval oi).run P w= .ok (.value v) w)(g:S w)
 (h:bL P md ops Q S D e (b.setIfInBounds i true) (a.put (some d) v) w)(j:oi.dst=some d:=by rfl)(l:Region.wanted oi (yielded ops a.tmps)=true:=by rfl)
 (n:Region.noSelect ops=true:=by kernel_rfl)(k:Region.free md ops b i=true:=by kernel_rfl)(hr:(Region.ready md ops b).contains i=true:=by kernel_rfl)(o:jz md ops D b i=true:=by kernel_rfl)
 (f:∀c a w,Q (.panic c) (a.put oi.dst v) w->Q (.panic c) a w:=by exact fun _ _ _ h=>h):bL P md ops Q S D (e+1) b a w:=
 j4 i d m j n k hr o f (kV ⟨l,p⟩) g h
theorem M0(i d:Nat){oi:Oper}{v:Value}{e:Nat}{b:Array Bool}{a:Act}{w:World}(j:S w)
 (h:bL P md ops Q S D e (b.setIfInBounds i true) (a.put (some d) v) w)(n:ops[i]?=some oi:=by rfl)(k:oi.dst=some d:=by rfl)(m:Region.wanted oi (yielded ops a.tmps)=true:=by rfl)
 (o:Region.noSelect ops=true:=by kernel_rfl)(l:Region.free md ops b i=true:=by kernel_rfl)(hr:(Region.ready md ops b).contains i=true:=by kernel_rfl)(p:jz md ops D b i=true:=by kernel_rfl)
 (q:∀w,S w->(execOp a.eval oi).run P w= .ok (.value v) w:=by(intro w f;(try dsimp only at f);go_simp;try with_reducible rfl))
 (g:∀c a w,Q (.panic c) (a.put oi.dst v) w->Q (.panic c) a w:=by exact fun _ _ _ h=>h):bL P md ops Q S D (e+1) b a w:=
 j4 i d n k o l hr p g (kV ⟨m,q⟩) j h
end
theorem iQ{a:Type}(l:List a)(d v):l.toArray.setIfInBounds d v=(l.set d v).toArray:=List.setIfInBounds_toArray _ _ _
theorem cI{P c m e n l}(i j){oi f d b a w}(hr:Region.ready e c b=[i,j])(s:c[i]?=some oi)(t:c[j]?=some f)(q:∀K':Act->World->Prop,Shut (∀a w,(l i=false->n w)->bL P e c m n l d (b.setIfInBounds i true) a w->K' a w)->if Region.wanted oi (yielded c a.tmps)=true then Oper.wp P oi a w K' m else K' (a.put oi.dst undef) w)(r:∀K':Act->World->Prop,Shut (∀a w,(l j=false->n w)->bL P e c m n l d (b.setIfInBounds j true) a w->K' a w)->if Region.wanted f (yielded c a.tmps)=true then Oper.wp P f a w K' m else K' (a.put f.dst undef) w):bL P e c m n l (d+1) b a w:=
 ⟨fun o=>(by rw[hr]at o;cases o),fun x hx=>by
  rw[hr]at hx;have p:x=i\/x=j:=by simpa using hx
  rcases p with rfl|rfl
  ·exact wpOp_step s (fun K' g=>q K' (fun a w h k=>g a w ⟨h,k⟩))
  ·exact wpOp_step t (fun K' g=>r K' (fun a w h k=>g a w ⟨h,k⟩))⟩
theorem fO{w v o b K T S}(A:o.guard=none)(s x)(M:o.op= .call {callee:= .builtin .append,args:=#[s,x],argTypes:=#[70,70]})(B a n c xs)(N:b.eval s= .slice a n c)(r:Own B w a n c xs)(g m d l)(hx:b.eval x= .slice (some ⟨g,0,none⟩) m d)(t:Bs w (some ⟨g,0,none⟩) m d l)(L:n+m<=140737488355328)(z:B<=w.1.size)(h:∀f p w',Own B w' f (n+m) p (xs++l)->Below B w w'->w.grownBy w' (Value.slice a n c).ownBlock->K (b.put o.dst (.slice f (n+m) p)) w'):
 if Region.wanted o (yielded v b.tmps)=true then Oper.wp prog o b w K T else S:=by
 have P:Region.wanted o (yielded v b.tmps)=true:=by simp[Region.wanted,A]
 rw[qb P];obtain⟨i,I,D,E,F⟩:=sk i7;refine wp_append_own w s x _ M B 5 i _ 1 1 rC I D E F rfl kH _ n (ob xs) N r ⟨g,0,none⟩ m d (ob l) hx (by simp[ob,t.len_eq]) ?_ (ev l) (by unfold maxLen;omega) kH z ?_
 ·intro j V y;have C:j<l.length:=by have:=(lb.1 y).1;simpa [ob]using this
  obtain⟨U,off,e,_,H⟩:=t.at_ (by have:=t.len_eq;omega);cases e;rw[de? l j C]at y;rw[sj,H j (by have:=t.len_eq;omega)];exact y
 ·intro v' w' q u _;have e:ob xs++ob l=ob (xs++l):=by simp[ob]
  rw[e]at q;have O:∃f p,v'= .slice f (n+m) p:=by
   rcases q.2 with⟨rfl,G⟩|⟨g,Q,R,rfl,_⟩
   ·exact⟨none,0,by rw[G]⟩
   ·exact⟨_,_,rfl⟩
  obtain⟨f,p,rfl⟩:=O;exact h f p w' q (kF.grown u z (fun k J=>(qX r k J).1)) u
theorem Ce{B w w'}(h:Below B w.drew w'):Below B w w':=⟨h.os,h.tape,h.output,h.size,h.block⟩
section
variable {P:Program} {ops:Array Oper} {Q:Exit->Act->World->Prop} {md:Region.Mode} {S:World->Prop} {D:Nat->Bool}
theorem aa(i:Nat){d:Nat}{oi:Oper}{v:Value}{e:Nat}{b:Array Bool}{a f:Act}{w:World}(k:S w)
 (h:bL P md ops Q S D e (b.setIfInBounds i true) f w)(p:ops[i]?=some oi:=by rfl)(m:oi.dst=some d:=by rfl)(o:Region.wanted oi (yielded ops a.tmps)=true:=by rfl)
 (q:Region.noSelect ops=true:=by kernel_rfl)(n:Region.free md ops b i=true:=by kernel_rfl)(hr:(Region.ready md ops b).contains i=true:=by kernel_rfl)(r:jz md ops D b i=true:=by kernel_rfl)
 (s:∀w,S w->(execOp a.eval oi).run P w= .ok (.value v) w:=by(intro w g;(try dsimp only at g);go_simp;try with_reducible rfl))
 (l:a.put (some d) v=f:=by(simp only[Act.put,iQ,List.set];first|done|exact rfl))
 (j:∀c a w,Q (.panic c) (a.put oi.dst v) w->Q (.panic c) a w:=by exact fun _ _ _ h=>h):bL P md ops Q S D (e+1) b a w:=
 j4 i d p m q n hr r j (kV ⟨o,s⟩) k (by rw[l];exact h)
theorem aY(i:Nat){d:Nat}{oi:Oper}{v:Value}{e:Nat}{b:Array Bool}{a f:Act}{w:World}(k:S w)
 (h:bL P md ops Q S D e (b.setIfInBounds i true) f w)(p:ops[i]?=some oi:=by rfl)(m:oi.dst=some d:=by rfl)(o:Region.wanted oi (yielded ops a.tmps)=true:=by rfl)
 (q:Region.noSelect ops=true:=by kernel_rfl)(n:Region.free md ops b i=true:=by kernel_rfl)(hr:(Region.ready md ops b).contains i=true:=by kernel_rfl)(r:jz md ops D b i=true:=by kernel_rfl)
 (s:∀w,S w->(execOp a.eval oi).run P w= .ok (.value v) w:=by(intro w g;obtain⟨t,u⟩:=g;go_simp;try with_reducible rfl))
 (l:a.put (some d) v=f:=by(simp only[Act.put,iQ,List.set];first|done|exact rfl))
 (j:∀c a w,Q (.panic c) (a.put oi.dst v) w->Q (.panic c) a w:=by exact fun _ _ _ h=>h):bL P md ops Q S D (e+1) b a w:=
 j4 i d p m q n hr r j (kV ⟨o,s⟩) k (by rw[l];exact h)
theorem ed(i:Nat){d:Nat}{oi:Oper}{v:Value}{e:Nat}{b:Array Bool}{a f:Act}{w:World}(k:S w)
 (h:bL P md ops Q S D e (b.setIfInBounds i true) f w)(p:ops[i]?=some oi:=by rfl)(m:oi.dst=some d:=by rfl)(o:Region.wanted oi (yielded ops a.tmps)=true:=by rfl)
 (q:Region.noSelect ops=true:=by kernel_rfl)(n:Region.free md ops b i=true:=by kernel_rfl)(hr:(Region.ready md ops b).contains i=true:=by kernel_rfl)(r:jz md ops D b i=true:=by kernel_rfl)
 (s:∀w,S w->(execOp a.eval oi).run P w= .ok (.value v) w:=by(intro w g;obtain⟨t,u,x⟩:=g;go_simp;try with_reducible rfl))
 (l:a.put (some d) v=f:=by(simp only[Act.put,iQ,List.set];first|done|exact rfl))
 (j:∀c a w,Q (.panic c) (a.put oi.dst v) w->Q (.panic c) a w:=by exact fun _ _ _ h=>h):bL P md ops Q S D (e+1) b a w:=
 j4 i d p m q n hr r j (kV ⟨o,s⟩) k (by rw[l];exact h)
theorem aC(i:Nat){d:Nat}{oi:Oper}(v:Value){e:Nat}{b:Array Bool}{a f:Act}{w:World}(j:S w)(r:∀w,S w->(execOp a.eval oi).run P w= .ok (.value v) w)
 (h:bL P md ops Q S D e (b.setIfInBounds i true) f w)(o:ops[i]?=some oi:=by rfl)(l:oi.dst=some d:=by rfl)(n:Region.wanted oi (yielded ops a.tmps)=true:=by rfl)
 (p:Region.noSelect ops=true:=by kernel_rfl)(m:Region.free md ops b i=true:=by kernel_rfl)(hr:(Region.ready md ops b).contains i=true:=by kernel_rfl)(q:jz md ops D b i=true:=by kernel_rfl)
 (k:a.put (some d) v=f:=by(simp only[Act.put,iQ,List.set];first|done|exact rfl))
 (g:∀c a w,Q (.panic c) (a.put oi.dst v) w->Q (.panic c) a w:=by exact fun _ _ _ h=>h):bL P md ops Q S D (e+1) b a w:=
 j4 i d o l p m hr q g (kV ⟨n,r⟩) j (by rw[k];exact h)
theorem aq(i:Nat){d:Nat}{oi:Oper}{e:Nat}{b:Array Bool}{a f:Act}{w:World}(j:S w)
 (h:bL P md ops Q S D e (b.setIfInBounds i true) f w)(o:ops[i]?=some oi:=by rfl)(l:oi.dst=some d:=by rfl)(n:Region.wanted oi (yielded ops a.tmps)=false:=by rfl)
 (p:Region.noSelect ops=true:=by kernel_rfl)(m:Region.free md ops b i=true:=by kernel_rfl)(hr:(Region.ready md ops b).contains i=true:=by kernel_rfl)(q:jz md ops D b i=true:=by kernel_rfl)
 (k:a.put (some d) undef=f:=by(simp only[Act.put,iQ,List.set];first|done|exact rfl))
 (g:∀c a w,Q (.panic c) (a.put oi.dst undef) w->Q (.panic c) a w:=by exact fun _ _ _ h=>h):bL P md ops Q S D (e+1) b a w:=
 j4 i d o l p m hr q g (kT ⟨n,rfl⟩) j (by rw[k];exact h)
theorem aj(i:Nat){o:Oper}{c:Nat}{b:Array Bool}{a:Act}{w:World}
 (h:∀K':Act->World->Prop,Shut (∀a w,(D i=false->S w)->bL P md ops Q S D c (b.setIfInBounds i true) a w->K' a w)->Oper.wp P o a w K' Q)(hr:Region.ready md ops b=[i]:=by kernel_rfl)(f:ops[i]?=some o:=by rfl)(e:Region.wanted o (yielded ops a.tmps)=true:=by rfl):bL P md ops Q S D (c+1) b a w:=
 aT i hr f fun K' d=>by rw[qb e];exact h K' d
theorem al{c:Prop}{s:World->Prop}{e K':Act->World->Prop}{a:Act}{w:World}(b:Shut (∀a w,(c->s w)->e a w->K' a w))(h:e a w)
 (d:c->s w:=by first|exact fun _=>trivial|(intro _;assumption)|(intro h;exact absurd h kN)|(intro h;cases h;done)):K' a w:=b.out a w d h
theorem cU{c:Prop}{s:World->Prop}{d:Nat}{b:Array Bool}{a:Act}{w:World}{K':Act->World->Prop}(e:Shut (∀a w,(c->s w)->bL P md ops Q S D d b a w->K' a w))(h:Q .normal a w)
 (f:c->s w:=by first|exact fun _=>trivial|(intro _;assumption)|(intro h;exact absurd h kN)|(intro h;cases h;done))(hr:Region.ready md ops b=[]:=by kernel_rfl):K' a w:=e.out a w f (uI hr h _)
theorem ax{c:Nat}{b:Array Bool}{a:Act}{w:World}(h:Q .normal a w)(hr:Region.ready md ops b=[]:=by kernel_rfl):bL P md ops Q S D c b a w:=uI hr h c
end
theorem gI(a b:Nat)(c:a<4294967296)(d:b<4294967296):bits .xor .i64 (a:Int) (b:Int)=((a^^^b:Nat):Int):=by
 have hx:a^^^b<2^32:=Nat.xor_lt_two_pow kH kH;show IntKind.i64.wrap ((BitVec.ofInt 64 (a:Int)^^^BitVec.ofInt 64 (b:Int)).toNat:Int)= _;rw[BitVec.toNat_xor,ofInt_u64 a kH,ofInt_u64 b kH];simp[IntKind.wrap,IntKind.bits,IntKind.signed];omega
def gW(h:Nat):Nat:=if h%2=1 then(h/2)^^^3988292384 else h/2
def fZ:Nat->Nat->Nat
 |0,h=>h
 |j+1,h=>gW (fZ j h)
def ee(l:List Int):Nat->Nat
 |0=>4294967295
 |k+1=>fZ 8 (ee l k^^^(l.getD k 0).toNat)
def crc(l:List Int):Nat:=ee l l.length^^^4294967295
theorem lu{a b}(c:a<4294967296)(d:b<4294967296):a^^^b<4294967296:=Nat.xor_lt_two_pow (n:=32) kH kH
theorem Cf{h}(a:h<4294967296):gW h<4294967296:=by
 unfold gW;split
 ·exact lu kH kH
 ·omega
theorem nM{h}(a:h<4294967296):∀j,fZ j h<4294967296
 |0=>a
 |j+1=>Cf (nM a j)
theorem nN{l}(a:∀i,0<=l.getD i 0/\l.getD i 0<256):∀k,ee l k<4294967296
 |0=>by unfold ee;omega
 |k+1=>nM (lu (nN a k) (by have:=a k;omega)) 8
theorem uJ{l}(a:∀i,0<=l.getD i 0/\l.getD i 0<256):crc l<4294967296:=lu (nN a _) kH
theorem uK{h}(a:h%2=1):gW h=(h/2)^^^3988292384:=by unfold gW;rw[qb a]
theorem uL{h}(a:¬h%2=1):gW h=h/2:=by unfold gW;rw[q4 a]
theorem nO(m)(h:m<=6):(256:Int)^m<=281474976710656:=by
 have k:∀m:Fin 7,(256:Int)^(m:Nat)<=281474976710656:=kN;exact k ⟨m,kH⟩
theorem iR(a n c l w)(h:Bs w a n c l)(D:n<=6):
 Calls prog 80 #[.slice a n c] w fun e w'=>e= .returned (.int .i64 (low l))/\w'=w:=by
 have f:Hid (∀k,0<=low (l.drop k)/\low (l.drop k)<=281474976710656):=fun k=>by
  have p:=gG (ff h.byte k);have q:(l.drop k).length<=6:=by rw[k3,h.len_eq];omega
  have B:=nO _ q;exact⟨p.1,kH⟩
 have g:Hid (low (l.drop n)=0):=by
  have:l.drop n=[]:=by rw[p2,h.len_eq];exact kE
  show low (l.drop n)=0;rw[this];rfl
 go_enter func80,ntmps80;go_wp2
 go_loop [3,4] (fun v i=> ∃j:Nat,j<=n/\i= .int .i64 ((j:Int)-1)/\v= .int .i64 (low (l.drop j))) (fun _ i=>(intOf i+1).toNat)
 case atStart=>exact⟨n,kE,rfl,by rw[g.out]⟩
 case round=>
  obtain⟨j,C,rfl,rfl⟩:=hrel;by_cases A:0<j
  ·obtain⟨b,off,rfl,t,d⟩:=h.at_ kH;obtain⟨i,rfl⟩:∃i,j=i+1:=⟨j-1,kH⟩;have u:=d i kH;have s:=h.byte i;have m:Hid _:=nL l i (by rw[h.len_eq];omega);have r:=f.out (i+1);have o:((i+1:Nat):Int)-1=(i:Int):=kH;rw[o];have x:(0:Int)<=(i:Int):=kH;have z:(i:Int)< (n:Int):=kH;generalize low (l.drop (i+1))=E at*;generalize l.getD i 0=y at*;clear d h;go_wp2
   go_round
   case rel=>exact⟨i,kH,by go_num,by rw[m.out];congr 1;omega⟩
   case measure=>simp[intOf]
  ·have e:j=0:=kH;subst e;go_wp2;go_ret;exact⟨rfl,rfl⟩
theorem Cg(a b:Nat)(c:a<281474976710656)(d:b<256):bits .or .i64 ((a:Int)*256) (b:Int)=(a:Int)*256+b:=by
 rw[show(a:Int)*256=((a*256:Nat):Int)by omega,show((a*256:Nat):Int)+(b:Int)=((a*256+b:Nat):Int)by omega];have e:a*256|||b=a*256+b:=by
  have:=Nat.shiftLeft_add_eq_or_of_lt (i:=8) (b:=b) kH a;rw[Nat.shiftLeft_eq]at this;exact this.symm
 show IntKind.i64.wrap ((BitVec.ofInt 64 ((a*256:Nat):Int)|||BitVec.ofInt 64 (b:Int)).toNat:Int)= _;rw[BitVec.toNat_or,ofInt_u64 (a*256) kH,ofInt_u64 b kH,e];simp[IntKind.wrap,IntKind.bits,IntKind.signed];omega
theorem lv(a n c l w)(h:Bs w a n c l)(H:n<=6):
 Calls prog 96 #[.slice a n c] w fun e w'=>e= .returned (.int .i64 (low l))/\w'=w:=by
 have o:Hid (∀k,0<k->0<=low (l.drop k)/\low (l.drop k)<281474976710656):=fun k G=>by
  have t:=gG (ff h.byte k);by_cases I:k<n
  ·have D:(l.drop k).length<=5:=by rw[k3,h.len_eq];omega
   have E:=nO _ (show(l.drop k).length<=6 by omega);exact⟨t.1,kH⟩
  ·have:l.drop k=[]:=by rw[p2,h.len_eq];omega
   rw[this];simp[low]
 have p:Hid (low (l.drop n)=0):=by
  have:l.drop n=[]:=by rw[p2,h.len_eq];exact kE
  show low (l.drop n)=0;rw[this];rfl
 go_enter func96,ntmps96;go_wp2
 go_loop [3,4] (fun v i=> ∃j:Nat,j<=n/\i= .int .i64 ((j:Int)-1)/\v= .int .i64 (low (l.drop j))) (fun _ i=>(intOf i+1).toNat)
 case atStart=>exact⟨n,kE,rfl,by rw[p.out]⟩
 case round=>
  obtain⟨j,F,rfl,rfl⟩:=hrel;by_cases C:0<j
  ·obtain⟨b,off,rfl,u,g⟩:=h.at_ kH;obtain⟨i,rfl⟩:∃i,j=i+1:=⟨j-1,kH⟩;have z:=g i kH;have f:=h.byte i;have r:Hid _:=nL l i (by rw[h.len_eq];omega);have d:=o.out (i+1) kH;have s:((i+1:Nat):Int)-1=(i:Int):=kH;rw[s];have A:(0:Int)<=(i:Int):=kH;have B:(i:Int)< (n:Int):=kH;generalize low (l.drop (i+1))=J at*;generalize l.getD i 0=y at*;obtain⟨x,rfl⟩:=n3 d.1;obtain⟨y,rfl⟩:=n3 f.1;have m:=Cg x y kH kH;clear g h;have q:Hid _:=m;clear m;go_wp2
   go_round
   case rel=>exact⟨i,kH,by go_num,by rw[r.out,q.out];congr 1;omega⟩
   case measure=>simp[intOf]
  ·have e:j=0:=kH;subst e;go_wp2;go_ret;exact⟨rfl,rfl⟩
theorem uM{l m:List Int}(c:l.length=m.length)(h:∀i,i<l.length->l.getD i 0=m.getD i 0):l=m:=by
 apply oS c;intro i a b;have:=h i a;simpa [List.getD_eq_getElem?_getD,a,b]using this
theorem uN(a b n m F G l k w)(h:Bs w a n F l)(h':Bs w b m G k):
 Calls prog 111 #[.slice a n F,.slice b m G] w fun e w'=>e= .returned (.bool (decide (l=k)))/\Below w.1.size w w':=by
 have H:n<=maxLen:=k2 h.le h.le';have I:m<=maxLen:=k2 h'.le h'.le';unfold maxLen at H I;by_cases t:n=m
 case neg=>
  have J:((n:Int) !=(m:Int))=true:=by simp;omega
  rw[show decide (l=k)=false from q5 (fun e=>t (by rw[<-h.len_eq,<-h'.len_eq,e]))];go_enter func111,ntmps111;go_wp2;go_ret;exact⟨rfl,kF⟩
 subst t;have J:((n:Int) !=(n:Int))=false:=by simp
 have N:Hid ((∀i,i<n->l.getD i 0=k.getD i 0)->decide (l=k)=true):=fun P=>q6 (uM (by rw[h.len_eq,h'.len_eq]) (fun i c=>P i (by rw[h.len_eq]at c;exact c)));have M:Hid (∀i,l.getD i 0≠k.getD i 0->decide (l=k)=false):=fun i c=>q5 (fun e=>c (by rw[e]));go_enter func111,ntmps111;go_wp2;go_loopw [5] (fun i wr=> ∃j:Nat,j<=n/\i= .int .i64 j/\Below w.1.size w wr/\∀i,i<j->l.getD i 0=k.getD i 0) (fun i _=>n-(intOf i).toNat)
 case atStart=>exact⟨0,kX _,rfl,kF,fun i c=>absurd c kH⟩
 case round=>
  obtain⟨j,U,rfl,f,d⟩:=hrel;have z:Hid _:=d;clear d;by_cases s:j<n
  ·obtain⟨D,g,rfl,u,q⟩:=h.at_ kH;obtain⟨E,o,rfl,v,r⟩:=h'.at_ kH;have V:wr.cell? ⟨D,g+j,none⟩=some (.int .u8 (l.getD j 0)):=by rw[f.cell (p:=⟨D,g+j,none⟩) u];exact q j s
   have W:wr.cell? ⟨E,o+j,none⟩=some (.int .u8 (k.getD j 0)):=by rw[f.cell (p:=⟨E,o+j,none⟩) v];exact r j s
   have Q:(0:Int)<=(j:Int):=kH;have R:(j:Int)< (n:Int):=kH;have A:Hid _:=f;clear q r h h' f;generalize hx:l.getD j 0=x at*;generalize K:k.getD j 0=y at*;have B:Hid _:=hx;have C:Hid _:=K;clear hx K;by_cases e:x=y
   ·subst e;have S:(x !=x)=false:=by simp
    go_wp2_with fail;go_region
    all_goals
     go_wp2;go_roundw
     case rel=>
      refine⟨j+1,kH,by go_num,A.out.drew,fun i c=> ?_⟩;by_cases e:i=j
      ·subst e;rw[B.out,C.out]
      ·exact z.out i kH
     case measure=>simp[intOf];omega
   ·have T:(x !=y)=true:=by simp[e]
    have L:Hid (decide (l=k)=false):=M.out j (by rw[B.out,C.out];exact e);clear e;go_wp2_with fail;go_region
    all_goals
     go_wp2;go_ret;exact⟨by rw[L.out];rfl,A.out.drew⟩
  ·have e:j=n:=kH;subst e;have O:Hid (decide (l=k)=true):=N.out z.out;go_wp2;go_ret;exact⟨by rw[O.out];rfl,f⟩
def ja(l:List Int):Bool:=decide (l=List.replicate l.length 0)
theorem nP(a n c l w)(h:Bs w a n c l):
 Calls prog 237 #[.slice a n c] w fun e w'=>e= .returned (.bool (ja l))/\w'=w:=by
 have o:=k2 h.le h.le';unfold maxLen at o;have r:Hid ((∀i,i<n->l.getD i 0=0)->ja l=true):=fun u=>q6 (uM kP (fun i b=>by rw[h.len_eq]at b;rw[u i b];simp[List.getD_eq_getElem?_getD,List.getElem?_replicate];split<;>rfl));have q:Hid (∀i,l.getD i 0≠0->ja l=false):=fun i b=>q5 (fun e=>b (by rw[e];simp[List.getD_eq_getElem?_getD,List.getElem?_replicate];split<;>rfl));go_enter func237,ntmps237;go_wp2
 go_loop [4,7] (fun _ i=> ∃j:Nat,j<=n/\i= .int .i64 j/\∀i,i<j->l.getD i 0=0) (fun _ i=>n-(intOf i).toNat)
 case atStart=>exact⟨0,kX _,rfl,fun i b=>absurd b kH⟩
 case round=>
  obtain⟨j,C,rfl,d⟩:=hrel;have g:Hid _:=d;clear d;by_cases m:j<n
  ·obtain⟨B,v,rfl,t,f⟩:=h.at_ kH;have D:=f j m;have y:(0:Int)<=(j:Int):=kH;have z:(j:Int)< (n:Int):=kH;clear f h;generalize hx:l.getD j 0=x at*;have k:Hid _:=hx;clear hx;by_cases e:x=0
   ·subst e;go_wp2
    go_round
    case rel=>
     refine⟨j+1,kH,by go_num,fun i b=> ?_⟩;by_cases e:i=j
     ·subst e;exact k.out
     ·exact g.out i kH
    case measure=>simp[intOf];omega
   ·have A:(x !=0)=true:=by simp[e]
    have p:Hid (ja l=false):=q.out j (by rw[k.out];exact e);clear e;go_wp2;go_ret;exact⟨by rw[p.out];rfl,rfl⟩
  ·have e:j=n:=kH;subst e;have s:Hid (ja l=true):=r.out g.out;go_wp2;go_ret;exact⟨by rw[s.out];rfl,rfl⟩
def orE:List (ByteArray×ByteArray)->ByteArray×ByteArray->Option (ByteArray×ByteArray)
 |[],x=>some x
 |e::es,x=>if sl x.1 e.1=true/\sle x.2 e.1=true then orE es (e.1,x.2)else none
def orT:Tr->Bool->ByteArray×ByteArray->Option (ByteArray×ByteArray)
 | .leaf _ es,_,x=>orE es x
 | .node _ ks,_,x=>orT ks true x
 | .nil,_,x=>some x
 | .cons s t ks,b,x=>if b=true\/sl x.1 s=true then(orT t true (x.1,if b=true then x.2 else s)).bind (orT ks false)else none
def inB(low high k:ByteArray):Bool:=sle low k&&(high.size==0||sl k high)
def jA:List (ByteArray×ByteArray)->Bool
 |[]=>true
 |[_]=>true
 |a::b::es=>sl a.1 b.1&&jA (b::es)
def lz(low s:ByteArray):ByteArray:=if sl s low then low else s
def nQ(high s:ByteArray):ByteArray:=if high.size==0||sl s high then s else high
def hdS:Tr->Option ByteArray
 | .cons s _ _=>some s
 |_=>none
def j5(high:ByteArray):Option ByteArray->ByteArray
 |some s=>nQ high s
 |none=>high
def okT:Tr->Bool->ByteArray->ByteArray->Bool
 | .leaf _ es,_,low,high=>es.all (fun e=>inB low high e.1)&&jA es
 | .node _ ks,_,low,high=>okT ks true low high
 | .nil,_,_,_=>true
 | .cons s t ks,b,low,high=>okT t true (if b=true then low else lz low s) (j5 high (hdS ks))&&okT ks false low high
def aR:Tr->List ByteArray
 | .leaf _ es=>es.map (·.1)
 | .node _ ks=>aR ks
 | .nil=>[]
 | .cons _ t ks=>aR t++aR ks
def mw(l:ByteArray)(ks:Tr):Prop:= ∀s,hdS ks=some s->sl l s=true
def inn:Tr->Bool->Prop
 | .leaf _ es,_=>(es.map (·.1)).Pairwise (fun a b=>sl a b=true)
 | .node _ ks,_=>inn ks true
 | .nil,_=>True
 | .cons s t ks,b=>inn t true/\(b=false->∀k∈aR t,sle s k=true)/\(∀k∈aR t,mw k ks)/\inn ks false
def isT:Tr->Bool
 | .leaf _ _=>true
 | .node _ _=>true
 |_=>false
def full:Tr->Bool->Prop
 | .leaf _ es,_=>es≠[]
 | .node _ ks,_=>(∃s t r,ks= .cons s t r)/\full ks true
 | .nil,_=>True
 | .cons s t ks,b=>(b=false->1<=s.size)/\isT t=true/\isT ks=false/\full t true/\full ks false
theorem Ci{es}{a b:ByteArray×ByteArray}(h:((a::b::es).map (·.1)).Pairwise (fun x y=>sl x y=true)):sl a.1 b.1=true:=by
 simp only[k4,o8]at h;exact h.1 b.1 kP
theorem qM:∀es:List (ByteArray×ByteArray),jA es=true↔(es.map (·.1)).Pairwise (fun a b=>sl a b=true)
 |[]=>by simp[jA]
 |[a]=>by simp[jA]
 |a::b::es=>by
  have ih:=qM (b::es);constructor
  ·intro h;simp only[jA,ly]at h;have d:=ih.1 h.2;rw[k4,o8];refine⟨fun k c=> ?_,d⟩;rw[k4]at c d;rcases l3.1 c with rfl|c
   ·exact h.1
   ·exact jx h.1 (List.rel_of_pairwise_cons d c)
  ·intro h;simp only[jA,ly];exact⟨Ci h,ih.2 (by rw[k4,o8]at h;exact h.2)⟩
theorem my{low a k}:inB low a k=true↔sle low k=true/\(a.size=0\/sl k a=true):=by
 simp[inB]
theorem Cj{low s a k}:inB (lz low s) a k=true↔inB low a k=true/\sle s k=true:=by
 rw[my,my];unfold lz;split
 ·rename_i h;exact⟨fun x=>⟨x,jY (mt h) x.1⟩,fun x=>x.1⟩
 ·rename_i h;have b:sle low s=true:=by unfold sle;simpa using h
  exact⟨fun x=>⟨⟨jY b x.1,x.2⟩,x.1⟩,fun x=>⟨x.2,x.1.2⟩⟩
theorem Ck{low s c k}(e:1<=s.size):inB low (nQ c s) k=true↔inB low c k=true/\sl k s=true:=by
 rw[my,my];unfold nQ;split
 ·rename_i h;simp only[Bool.or_eq_true,beq_iff_eq]at h;constructor
  ·rintro⟨b,a⟩;rcases a with a|a
   ·omega
   ·exact⟨⟨b,by rcases h with h|h;exact kV h;exact kT (jx a h)⟩,a⟩
  ·rintro⟨⟨b,_⟩,a⟩;exact⟨b,kT a⟩
 ·rename_i h;simp only[Bool.or_eq_true,beq_iff_eq,not_or]at h;have d:sle c s=true:=by unfold sle;simpa using h.2
  constructor
  ·rintro⟨b,a⟩;rcases a with a|a
   ·exact absurd a h.1
   ·exact⟨⟨b,kT a⟩,qI a d⟩
  ·rintro⟨⟨b,a⟩,_⟩;exact⟨b,a⟩
theorem Cl{low a k ks}(b:∀s,hdS ks=some s->1<=s.size):inB low (j5 a (hdS ks)) k=true↔inB low a k=true/\mw k ks:=by
 unfold mw;cases h:hdS ks with
 |none=>simp[j5]
 |some s=>simp only[j5,Ck (b s h),Option.some.injEq];exact⟨fun x=>⟨x.1,fun _ e=>e▸x.2⟩,fun x=>⟨x.1,x.2 s rfl⟩⟩
theorem Cm{ks}(h:full ks false):∀s,hdS ks=some s->1<=s.size:=fun s e=>by
 cases ks with
 |cons a b r=>rw[hdS]at e;cases e;rw[full]at h;exact h.1 rfl
 |_=>simp[hdS]at e
theorem mz:∀(o:Tr)(b:Bool)(low c:ByteArray),full o b->(okT o b low c=true↔inn o b/\∀k∈aR o,inB low c k=true)
 | .leaf id es,_,low,c,_=>by
  simp only[okT,ly,inn,aR,qM,oW,oj];constructor
  ·rintro⟨l,m⟩;exact⟨m,by rintro k ⟨e,n,rfl⟩;exact l e n⟩
  ·rintro⟨l,m⟩;exact⟨fun e n=>m _ ⟨e,n,rfl⟩,l⟩
 | .node id ks,_,low,c,h=>by
  rw[full]at h;rw[okT,inn,aR];exact mz ks true low c h.2
 | .nil,_,_,_,_=>by simp[okT,inn,aR]
 | .cons s o ks,b,low,c,h=>by
  rw[full]at h;rw[okT,inn,aR,ly,mz o true _ _ h.2.2.2.1,mz ks false low c h.2.2.2.2];simp only[Cl (Cm h.2.2.2.2),mx];cases b with
  |true=>
   simp only[if_true];constructor
   ·rintro⟨⟨f,d⟩,g,i⟩;exact⟨⟨f,fun x=>absurd x kN,fun k a=>(d k a).2,g⟩,fun k a=>by rcases a with a|a;exact(d k a).1;exact i k a⟩
   ·rintro⟨⟨f,_,g,i⟩,j⟩;exact⟨⟨f,fun k a=>⟨j k (kV a),g k a⟩⟩,i,fun k a=>j k (kT a)⟩
  |false=>
   simp only[Bool.false_eq_true,if_false,Cj,true_implies];constructor
   ·rintro⟨⟨f,d⟩,g,i⟩;exact⟨⟨f,fun k a=>(d k a).1.2,fun k a=>(d k a).2,g⟩,fun k a=>by rcases a with a|a;exact(d k a).1.1;exact i k a⟩
   ·rintro⟨⟨f,d,g,i⟩,j⟩;exact⟨⟨f,fun k a=>⟨⟨j k (kV a),d k a⟩,g k a⟩⟩,i,fun k a=>j k (kT a)⟩
theorem mA:∀(c:Tr)(b:Bool),full c b->isT c=true->aR c≠[]
 | .leaf id es,_,h,_=>by simpa [aR,full]using h
 | .node id (.cons s c r),_,h,_=>by
  rw[full]at h;have a:=h.2;rw[full]at a;simp only[aR];intro e;exact mA c true a.2.2.2.1 a.2.1 (List.append_eq_nil_iff.1 e).1
 | .node id (.leaf _ _),_,h,_=>by rw[full]at h;obtain⟨⟨_,_,_,e⟩,_⟩:=h;cases e
 | .node id (.node _ _),_,h,_=>by rw[full]at h;obtain⟨⟨_,_,_,e⟩,_⟩:=h;cases e
 | .node id .nil,_,h,_=>by rw[full]at h;obtain⟨⟨_,_,_,e⟩,_⟩:=h;cases e
 | .nil,_,_,h=>by simp[isT]at h
 | .cons _ _ _,_,_,h=>by simp[isT]at h
def gJ(l:ByteArray):List ByteArray->ByteArray
 |[]=>l
 |k::ks=>gJ k ks
theorem lA{l}:∀{ks:List ByteArray},ks≠[]->gJ l ks∈ks
 |[],h=>absurd rfl h
 |[k],_=>by simp[gJ]
 |k::a::ks,_=>by
  have:=lA (l:=k) (ks:=a::ks) kP;rw[gJ];exact List.mem_cons_of_mem _ this
theorem uO(l):∀(a b:List ByteArray),gJ l (a++b)=gJ (gJ l a) b
 |[],b=>rfl
 |k::a,b=>by simp only[List.cons_append,gJ];exact uO k a b
theorem qN(a):sle a a=true:=by unfold sle;rw[lq];rfl
theorem uP{l}:∀{ks:List ByteArray},ks.Pairwise (fun a b=>sl a b=true)->∀k∈ks,sle k (gJ l ks)=true
 |[],_,k,c=>by simp at c
 |[a],_,k,c=>by simp at c;subst c;exact qN _
 |a::b::ks,h,k,c=>by
  rw[o8]at h;rw[gJ];rcases l3.1 c with rfl|c
  ·exact mt (h.1 _ (lA kP))
  ·exact uP (l:=a) h.2 k c
theorem qO:∀(es:List (ByteArray×ByteArray))(l s:ByteArray)(x:ByteArray×ByteArray),orE es (l,s)=some x↔((es.map (·.1)).Pairwise (fun a b=>sl a b=true)/\∀k∈es.map (·.1),sl l k=true/\sle s k=true)/\x=(gJ l (es.map (·.1)),s)
 |[],l,s,x=>by
  rw[orE];constructor
  ·intro h;cases h;exact⟨⟨kP,kP⟩,rfl⟩
  ·rintro⟨_,rfl⟩
   rfl
 |e::es,l,s,x=>by
  rw[orE];simp only[k4,gJ];by_cases h:sl l e.1=true/\sle s e.1=true
  ·rw[qb h,qO es e.1 s x,o8];constructor
   ·rintro⟨⟨g,d⟩,f⟩;refine⟨⟨⟨fun k c=>(d k c).1,g⟩,fun k c=> ?_⟩,f⟩;rcases l3.1 c with rfl|c
    ·exact h
    ·exact⟨jx h.1 (d k c).1,(d k c).2⟩
   ·rintro⟨⟨⟨g,d⟩,f⟩,i⟩;exact⟨⟨d,fun k c=>⟨g k c,(f k (List.mem_cons_of_mem _ c)).2⟩⟩,i⟩
  ·rw[q4 h];constructor
   ·intro x;cases x
   ·rintro⟨⟨_,f⟩,_⟩;exact absurd (f e.1 kP) h
theorem uQ:∀(ks:Tr)(d:ByteArray),full ks false->inn ks false->hdS ks=some d->∀k∈aR ks,sle d k=true
 | .cons s j ks,d,b,h,e,k,a=>by
  rw[hdS]at e;cases e;rw[inn]at h;rw[full]at b;rw[aR,mx]at a;rcases a with a|a
  ·exact h.2.1 rfl k a
  ·obtain⟨k0,c⟩:=List.exists_mem_of_ne_nil _ (mA j true b.2.2.2.1 b.2.1);cases ks with
   |nil=>simp[aR]at a
   |leaf _ _=>have:=b.2.2.1;simp[isT]at this
   |node _ _=>have:=b.2.2.1;simp[isT]at this
   |cons f i r=>
    have g:=uQ (.cons f i r) f b.2.2.2.2 h.2.2.2 rfl k a;exact jY (h.2.1 rfl k0 c) (jY (mt (h.2.2.1 k0 c f rfl)) g)
 | .nil,_,_,_,e,_,_=>by simp[hdS]at e
 | .leaf _ _,_,_,_,e,_,_=>by simp[hdS]at e
 | .node _ _,_,_,_,e,_,_=>by simp[hdS]at e
theorem lB:∀(g:Tr)(b:Bool),full g b->inn g b->(aR g).Pairwise (fun a b=>sl a b=true)
 | .leaf id es,_,_,h=>by simpa [inn,aR]using h
 | .node id ks,_,d,h=>by
  rw[full]at d;rw[inn]at h;rw[aR];exact lB ks true d.2 h
 | .nil,_,_,_=>by simp[aR]
 | .cons s g ks,b,d,h=>by
  rw[inn]at h;rw[full]at d;rw[aR,List.pairwise_append];refine⟨lB g true d.2.2.2.1 h.1,lB ks false d.2.2.2.2 h.2.2.2,fun a i c f=> ?_⟩;cases ks with
  |nil=>simp[aR]at f
  |leaf _ _=>have:=d.2.2.1;simp[isT]at this
  |node _ _=>have:=d.2.2.1;simp[isT]at this
  |cons e j r=>exact qI (h.2.2.1 a i e rfl) (uQ (.cons e j r) e d.2.2.2.2 h.2.2.2 rfl c f)
theorem j6:∀(d:Tr)(b:Bool)(l s:ByteArray)(x:ByteArray×ByteArray),full d b->orT d b (l,s)=some x->
 inn d b/\(∀k∈aR d,sl l k=true)/\((isT d=true\/b=true)->∀k∈aR d,sle s k=true)/\(b=false->mw l d)/\x.1=gJ l (aR d)/\((isT d=true\/sle s l=true)->sle x.2 x.1=true)
 | .leaf id es,b,l,s,x,c,h=>by
  rw[orT,qO]at h;obtain⟨⟨o,j⟩,rfl⟩:=h;refine⟨by simpa [inn]using o,fun k a=>(j k (by simpa [aR]using a)).1,fun _ k a=>(j k (by simpa [aR]using a)).2,fun _ s e=>by simp[hdS]at e,by simp[aR],fun _=> ?_⟩;have p:=lA (l:=l) (ks:=es.map (·.1)) (by simpa [full]using c);exact(j _ p).2
 | .node id (.cons r d ks),b,l,s,x,c,h=>by
  rw[full]at c;rw[orT]at h;have ih:=j6 (.cons r d ks) true l s x c.2 h;have q:aR (.cons r d ks)≠[]:=mA (.node id (.cons r d ks)) b (by rw[full];exact c) rfl;have p:=lA (l:=l) q;rw[inn,aR];refine⟨ih.1,ih.2.1,fun _=>ih.2.2.1 (kT rfl),fun _ s e=>by simp[hdS]at e,ih.2.2.2.2.1,fun _=> ?_⟩;have n:=c.2;rw[full]at n;rw[orT,qb (kV rfl)]at h;obtain⟨g,o,j⟩:=m5.1 h;have H:=j6 d true l _ g n.2.2.2.1 o;have I:=j6 ks false g.1 g.2 x n.2.2.2.2 j;exact I.2.2.2.2.2 (kT (H.2.2.2.2.2 (kV n.2.1)))
 | .node id (.leaf _ _),_,_,_,_,h,_=>by rw[full]at h;obtain⟨⟨_,_,_,e⟩,_⟩:=h;cases e
 | .node id (.node _ _),_,_,_,_,h,_=>by rw[full]at h;obtain⟨⟨_,_,_,e⟩,_⟩:=h;cases e
 | .node id .nil,_,_,_,_,h,_=>by rw[full]at h;obtain⟨⟨_,_,_,e⟩,_⟩:=h;cases e
 | .nil,b,l,s,x,_,h=>by
  rw[orT]at h;cases h;exact⟨by simp[inn],by simp[aR],by simp[aR],fun _ s e=>by simp[hdS]at e,by simp[aR,gJ],fun h=>by rcases h with h|h;simp[isT]at h;exact h⟩
 | .cons r d ks,b,l,s,x,c,h=>by
  rw[orT]at h;rw[full]at c;by_cases i:b=true\/sl l r=true
  ·rw[qb i]at h;obtain⟨g,o,j⟩:=m5.1 h;obtain⟨v,w,B,_,t,C⟩:=j6 d true l _ g c.2.2.2.1 o;obtain⟨D,y,_,E,F,G⟩:=j6 ks false g.1 g.2 x c.2.2.2.2 j;have q:=mA d true c.2.2.2.1 c.2.1;have p:g.1∈aR d:=by rw[t];exact lA q
   have u:∀k∈aR d,sle k g.1=true:=by rw[t];exact uP (lB d true c.2.2.2.1 v)
   have m:=B (kV c.2.1);rw[inn,aR];refine⟨⟨v,fun f k a=> ?_,fun k a A e=>qJ (u k a) (E rfl A e),D⟩,fun k a=> ?_,fun f k a=> ?_,fun f A e=> ?_,by rw[uO,<-t];exact F,fun _=>G (kT (C (kV c.2.1)))⟩
   ·have:=m k a;rw[q4 (by rw[f];decide)]at this;exact this
   ·rw[mx]at a;rcases a with a|a
    ·exact w k a
    ·exact jx (w _ p) (y k a)
   ·have z:b=true:=by rcases f with f|f;simp[isT]at f;exact f
    rw[qb z]at m;rw[mx]at a;rcases a with a|a
    ·exact m k a
    ·exact jY (m _ p) (mt (y k a))
   ·rw[hdS]at e;cases e;rcases i with i|i
    ·rw[f]at i;exact absurd i kN
    ·exact i
  ·rw[q4 i]at h;cases h
theorem nR:∀(i:Tr)(b:Bool)(l s:ByteArray),full i b->inn i b->(∀k∈aR i,sl l k=true)->((isT i=true\/b=true)->∀k∈aR i,sle s k=true)->(b=false->mw l i)->∃x,orT i b (l,s)=some x
 | .leaf id es,b,l,s,a,c,e,f,_=>⟨_,by rw[orT,qO];exact⟨⟨by simpa [inn]using c,fun k d=>⟨e k (by simpa [aR]using d),f (kV rfl) k (by simpa [aR]using d)⟩⟩,rfl⟩⟩
 | .node id ks,b,l,s,a,c,e,f,_=>by
  rw[full]at a;rw[inn]at c;rw[aR]at e f;rw[orT];exact nR ks true l s a.2 c e (fun _=>f (kV rfl)) (fun h=>absurd h kN)
 | .nil,b,l,s,_,_,_,_,_=>⟨_,by rw[orT]⟩
 | .cons p i ks,b,l,s,a,c,e,f,t=>by
  have j:=lB _ b a c;rw[full]at a;rw[inn]at c;rw[aR]at e f;rw[aR,List.pairwise_append]at j;obtain⟨m,n⟩:=nR i true l (if b=true then s else p) a.2.2.2.1 c.1 (fun k d=>e k (List.mem_append_left _ d)) (fun _ k d=>by
   by_cases g:b=true
   ·rw[qb g];exact f (kT g) k (List.mem_append_left _ d)
   ·rw[q4 g];exact c.2.1 (by simpa using g) k d) (fun h=>absurd h kN)
  have q:=(j6 i true l _ m a.2.2.2.1 n).2.2.2.2.1;have o:m.1∈aR i:=by rw[q];exact lA (mA i true a.2.2.2.1 a.2.1)
  obtain⟨x,r⟩:=nR ks false m.1 m.2 a.2.2.2.2 c.2.2.2 (fun k d=>j.2.2 _ o k d) (fun h=>by
   rcases h with h|h
   ·rw[a.2.2.1]at h;exact absurd h kN
   ·exact absurd h kN) (fun _=>c.2.2.1 _ o)
  refine⟨x,?_⟩;rw[orT,qb,n]
  ·exact r
  ·by_cases g:b=true
   ·exact kV g
   ·exact kT (t (by simpa using g) p rfl)
theorem Cn{k}(h:1<=k.size):sl (strOfNums []) k=true:=by
 have e:(strOfNums []).toList=[]:=by rw[ByteArray.toList_eq];rfl
 have b:k.toList.length=k.size:=by rw[ByteArray.toList_eq];rfl
 unfold sl;rw[e];cases hx:k.toList with
 |nil=>rw[hx]at b;simp at b;omega
 |cons a x=>rfl
theorem Co(k):sle (strOfNums []) k=true:=by
 have e:(strOfNums []).toList=[]:=by rw[ByteArray.toList_eq];rfl
 unfold sle sl;rw[e];cases k.toList<;>rfl
theorem Cp{c}(b:full c true)(e:∀k∈aR c,1<=k.size):okT c true (strOfNums []) (strOfNums [])=(orT c true (strOfNums [],strOfNums [])).isSome:=by
 rw[Bool.eq_iff_iff,mz c _ _ _ b,Option.isSome_iff_exists];constructor
 ·rintro⟨a,_⟩;exact nR c true _ _ b a (fun k hx=>Cn (e k hx)) (fun _ k _=>Co k) (fun h=>absurd h kN)
 ·rintro⟨x,hx⟩;obtain⟨a,f,d,_⟩:=j6 c true _ _ x b hx;exact⟨a,fun k hx=>my.2 ⟨d (kT rfl) k hx,kV rfl⟩⟩
theorem Bs.cut{w b off n d l}(h:Bs w (some ⟨b,off,none⟩) n d l)(i m)(r:i+m<=n)(a)(g:m<=a)(f:a<=maxLen):Bs w (some ⟨b,off+i,none⟩) m a ((l.drop i).take m):=by
 refine⟨by simp[h.len_eq];omega,g,f,fun e=>(by cases e),fun s=> ?_,?_⟩
 ·obtain⟨q,p,e,o,c⟩:=h.at_ kH;cases e;refine⟨b,off+i,rfl,o,fun j k=> ?_⟩;rw[oK,c (i+j) kH];simp[List.getD,k]
 ·refine dR (fun j=> ?_) m;have:=h.byte (i+j);simpa [List.getD]using this
theorem Bs.only{w w' a n c g l}(h:Bs w a n c l)(f:OnlyB g w w')(m:∀b off,0<n->a=some ⟨b,off,none⟩->b≠g):Bs w' a n c l:=
 ⟨h.len_eq,h.le,h.le',h.nil,fun j=>by
  obtain⟨b,off,e,d,k⟩:=h.at_ j;refine⟨b,off,e,lk d f.size,fun i o=> ?_⟩;rw[r8 (a:=⟨b,off+i,none⟩) (f.block b d (m b off j e))];exact k i o,h.byte⟩
def aU:List PanicEntry:=[{v:= .iface 237 (.agg #[]),recovered:=false}]
theorem fl(w):Calls prog 161 #[.bool true] w fun e w'=>e= .returned (.tuple #[])/\w'=w:=by
 go_enter func161,ntmps161;go_wp2
 go_end0
 exact⟨rfl,rfl⟩
theorem f9(w):Calls prog 161 #[.bool false] w fun e w'=>e= .panicked aU/\w'=w:=by
 go_enter func161,ntmps161;go_wp2;exact⟨rfl,rfl,rfl⟩
structure CurA(w:World)(g B:Nat)(a:Option Addr)(n c:Nat)(l:List Int):Prop where
 blk:Blk w 162 g [.slice a n c]
 bs:Bs w a n c l
 low:∀b off,0<n->a=some ⟨b,off,none⟩->b<B
def Cur(w:World)(g B:Nat)(l:List Int):Prop:= ∃a n c,CurA w g B a n c l
theorem CurA.ne{w g B a n c l}(h:CurA w g B a n c l):∀b off,0<n->a=some ⟨b,off,none⟩->b≠g:=fun b off f e i=>by
 obtain⟨o,m,d,p,j⟩:=h.bs.at_ f;rw[e]at d;cases d;subst i;have:=j 0 f;rw[h.blk.cell]at this;cases off with
 |zero=>simp at this
 |succ k=>simp at this
theorem Cur.below{w w' g B l}(h:Cur w g B l)(b:Below w.1.size w w'):Cur w' g B l:=by
 obtain⟨a,n,c,h⟩:=h;exact⟨a,n,c,h.blk.below b,h.bs.below b,h.low⟩
theorem Cur.only{w w' g B k l}(h:Cur w g B l)(d:OnlyB k w w')(j:B<=k)(f:g≠k):Cur w' g B l:=by
 obtain⟨a,n,c,h⟩:=h;exact⟨a,n,c,h.blk.only d f,h.bs.only d (fun b off i e m=>by have:=h.low b off i e;omega),h.low⟩
theorem Cur.belowB{w w' g B N l}(h:Cur w g B l)(d:Below N w w')(q:B<=N)(k:g<N):Cur w' g B l:=by
 obtain⟨a,n,c,h⟩:=h;refine⟨a,n,c,(d.block g k).trans h.blk,⟨h.bs.len_eq,h.bs.le,h.bs.le',h.bs.nil,fun f=> ?_,h.bs.byte⟩,h.low⟩;obtain⟨b,off,e,o,j⟩:=h.bs.at_ f;have p:=h.low b off f e;refine⟨b,off,e,lk o d.size,fun i m=> ?_⟩;rw[r8 (a:=⟨b,off+i,none⟩) (d.block b kH)];exact j i m
theorem uS{B e s N:Nat}{w w' v n xs}(b:w.ownsRow B e s v n xs)(c:Below N w w')(a:∀k,v.ownBlock=some k->k<N):w'.ownsRow B e s v n xs:=by
 refine⟨b.1,?_⟩;rcases b.2 with h2|⟨k,cap,cur,hv,hg,hh,r⟩
 ·exact kV h2
 ·exact kT ⟨k,cap,cur,hv,hg,by rw[c.block k (a k (by rw[hv];rfl))];exact hh,r⟩
theorem OnlyB.thenN{g N w w1 b}(h:OnlyB g w w1)(a:Below N w1 b)(e:w.1.size<=N):OnlyB g w b:=
 ⟨a.os.trans h.os,a.tape.trans h.tape,a.output.trans h.output,k2 h.size a.size,fun k c d=>(a.block k kH).trans (h.block k c d)⟩
theorem Cur.lt{w g B l}(h:Cur w g B l):g<w.1.size:=by
 obtain⟨a,n,c,h⟩:=h;exact h.blk.lt
theorem Cur.byte{w g B l}(h:Cur w g B l):IsB l:=by
 obtain⟨a,n,c,h⟩:=h;exact h.bs.byte
theorem iu(g B l k w)(h:Cur w g B l)(G:1<=k)(H:k<=l.length):
 Calls prog 97 #[.pointer (some ⟨g,0,none⟩),.int .i64 (k:Int)] w fun e w'=> ∃b off t,e= .returned (.slice (some ⟨b,off,none⟩) k t)/\OnlyB g w w'/\Cur w' g B (l.drop k)/\Bs w' (some ⟨b,off,none⟩) k t (l.take k)/\b<w.1.size/\b≠g/\b<B:=by
 obtain⟨a,n,c,h⟩:=h;have I:=h.bs.len_eq;obtain⟨b,off,rfl,x,_⟩:=h.bs.at_ kH;have f:=h.ne b off kH rfl;have j:=h.low b off kH rfl;have D:=h.bs.le;have y:=h.bs.le';unfold maxLen at y;have E:=h.blk.cell 0;have F:=h.blk.free 0;have C:decide (k<=n)=true:=by simp;omega
 have r:Bs w (some ⟨b,off,none⟩) k c (l.take k):=by have:=h.bs.cut 0 k kH c kH h.bs.le';simpa using this
 have i:Bs w (some ⟨b,off+k,none⟩) (n-k) (c-k) (l.drop k):=by
  have:=h.bs.cut k (n-k) kH (c-k) kH (by have:=h.bs.le';omega);rwa [mm (by rw[k3];omega)]at this
 have q:Hid (∀d,(d=some ⟨b,off+k,none⟩\/(c=k/\d=some ⟨b,off,none⟩))->OnlyB g w (w.setCell ⟨g,0,none⟩ (.slice d (n-k) (c-k)))/\Cur (w.setCell ⟨g,0,none⟩ (.slice d (n-k) (c-k))) g B (l.drop k)/\Bs (w.setCell ⟨g,0,none⟩ (.slice d (n-k) (c-k))) (some ⟨b,off,none⟩) k c (l.take k)):=fun d u=>by
  have o:=aB w g 0 (.slice d (n-k) (c-k));refine⟨o,⟨d,n-k,c-k,h.blk.set 0 _,?_,fun s m z e=> ?_⟩,r.only o (fun s m _ e=>by cases e;exact f)⟩
  rotate_left
  ·rcases u with rfl|⟨hc,rfl⟩<;>cases e<;>exact j
  rcases u with rfl|⟨hc,rfl⟩
  ·exact i.only o (fun s m _ e=>by cases e;exact f)
  ·refine⟨i.len_eq,i.le,i.le',fun e=>(by cases e),fun z=>by omega,i.byte⟩
 clear h r i;go_enter func97,ntmps97;go_wp2_with fail;refine q2 (fl w) ?_;rintro e w1 ⟨rfl,A⟩;obtain rfl:=A.symm;go_wp2
 ·have v:c-k=0:=kH;go_ret;have p:=q.out (some ⟨b,off,none⟩) (kT ⟨by assumption,rfl⟩);rw[v]at p;exact⟨b,off,c,by simp_all,p.1,p.2.1,p.2.2,x,f,j⟩
 ·go_ret;have p:=q.out (some ⟨b,off+k,none⟩) (kV rfl);exact⟨b,off,c,rfl,p.1,p.2.1,p.2.2,x,f,j⟩
theorem jb(g B l k w)(h:Cur w g B l)(m:l.length<k)(f:k<=1048576):
 Calls prog 97 #[.pointer (some ⟨g,0,none⟩),.int .i64 (k:Int)] w fun e w'=>e= .panicked aU/\w'=w:=by
 obtain⟨a,n,c,h⟩:=h;have o:=h.bs.len_eq;have b:=h.bs.le';unfold maxLen at b;have j:=h.blk.cell 0;have i:decide (k<=n)=false:=by simp;omega
 clear h;go_enter func97,ntmps97;go_wp2_with fail;refine q2 (f9 w) ?_;rintro e w1 ⟨rfl,d⟩;obtain rfl:=d.symm;go_wp2;exact⟨rfl,rfl,rfl⟩
