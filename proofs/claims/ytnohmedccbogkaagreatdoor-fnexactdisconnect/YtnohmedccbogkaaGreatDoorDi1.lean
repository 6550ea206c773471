import Derived.Test.YtnohmedccbogkaaGreatDoorDi0
import Derived.Laws.CopyRow
import Derived.Deep.AppendLies
namespace Go.Proofs.YtnohmedccbogkaaGreatDoor
open Go.RowKit
set_option linter.unusedVariables false
theorem run_loadVar_at {P : Program} (w : World) (g off : Nat) (ty : TypeId) (cs : List Value) (d : TypeDesc) (hc : ∀ j v, cs[j]? = some v → w.cell? ⟨g, off + j, none⟩ = some v)
    (hu : P.underlying ty = some d) (hd : (match d with | .struct _ | .array _ _ => true | _ => false) = true) (hi : (P.info? ty).map (·.size) = some cs.length) :
    (loadVar ty ⟨g, off, none⟩).run P w = .ok (.agg cs.toArray) w := by
  have hl : (loadCells ⟨g, off, none⟩ cs.length).run P w = .ok cs.toArray w :=
    run_loadCells_list (P := P) w ⟨g, off, none⟩ cs (fun j v hv => by rw [Addr.add_lit]; exact hc j v hv)
  cases hq : P.info? ty with
  | none => simp [hq] at hi
  | some i =>
    have hs : i.size = cs.length := by simpa [hq] using hi
    have hagg : (isAgg ty).run P w = .ok true w := by
      unfold isAgg
      rw [Sem.run_bind, run_underlying hu w]
      cases d <;> simp_all
    simp [loadVar, Sem.run_bind, hagg, sizeOf, typeInfo, hq, hs, hl]
theorem wpList_load_at {P : Program} {ops : Array Oper} {rest : List Oper} {o : Oper} {a : Act} {w : World} {Q : Exit → Act → World → Prop} (hgd : o.guard = none) (ty : TypeId) (x : Operand) (ho : o.op = .load ty x)
    (g off : Nat) (hx : a.eval x = .pointer (some ⟨g, off, none⟩)) (cs : List Value) (d : TypeDesc) (hc : ∀ j v, cs[j]? = some v → w.cell? ⟨g, off + j, none⟩ = some v)
    (hu : P.underlying ty = some d) (hd : (match d with | .struct _ | .array _ _ => true | _ => false) = true) (hi : (P.info? ty).map (·.size) = some cs.length)
    (h : wpList P ops Q rest (a.put o.dst (.agg cs.toArray)) w) : wpList P ops Q (o :: rest) a w :=
  wpList_plain hgd fun _ hK => by
    unfold Oper.wp execOp
    simp only [ho, hx, Instr.loadAt, Instr.sureAddr, Sem.run_bind, Sem.run_pure, Result.andThen_ok, run_loadVar_at w g off ty cs d hc hu hd hi]
    exact hK _ _ h
theorem yield_load {P : Program} {w : World} {t : TypeId} {ρ : Operand → Value} {x : Operand} {o : Oper} {p v : Value} (ho : o.op = .load t x) (hx : ρ x = p) (h : (Instr.loadAt t p).run P w = .ok v w) : (execOp ρ o).run P w = .ok (.value v) w := by
  unfold execOp
  simp only [ho, hx, Sem.run_bind, h, Result.andThen_ok, Sem.run_pure]
end Go.Proofs.YtnohmedccbogkaaGreatDoor

namespace Go.Proofs.YtnohmedccbogkaaGreatDoor
open Go.RowKit
set_option linter.unusedVariables false
def rowV (f : Nat → List Value) : Nat → List Value
  | 0 => []
  | k + 1 => rowV f k ++ f k
structure IsRow (s : Nat) (f : Nat → List Value) (n : Nat) : Prop where
  len : ∀ i, i < n → (f i).length = s
  one : ∀ i, i < n → ∀ u ∈ f i, u.oneCell' = true
theorem IsRow.mono {s : Nat} {f : Nat → List Value} {n k : Nat} (H : IsRow s f n) (hk : k ≤ n) : IsRow s f k := ⟨fun i hi => H.len i (by omega), fun i hi => H.one i (by omega)⟩
theorem rowV_len {s : Nat} {f : Nat → List Value} : ∀ n, IsRow s f n → (rowV f n).length = n * s
  | 0, _ => by simp [rowV]
  | n + 1, H => by
    rw [rowV, List.length_append, rowV_len n (H.mono (by omega)), H.len n (by omega), Nat.add_mul, Nat.one_mul]
theorem rowV_get {s : Nat} {f : Nat → List Value} : ∀ n, IsRow s f n → ∀ i q, i < n → q < s → (rowV f n)[i * s + q]? = (f i)[q]?
  | 0, _, i, _, hi, _ => by omega
  | n + 1, H, i, q, hi, hq => by
    rw [rowV]
    have hl := rowV_len n (H.mono (by omega))
    by_cases e : i = n
    · subst e
      rw [List.getElem?_append_right (by omega), hl, show i * s + q - i * s = q by omega]
    · have hm : (i + 1) * s ≤ n * s := Nat.mul_le_mul_right _ (by omega)
      rw [Nat.add_mul, Nat.one_mul] at hm
      rw [List.getElem?_append_left (by omega)]
      exact rowV_get n (H.mono (by omega)) i q (by omega) hq
theorem rowV_congr {f f' : Nat → List Value} : ∀ n, (∀ i, i < n → f i = f' i) → rowV f n = rowV f' n
  | 0, _ => rfl
  | n + 1, H => by rw [rowV, rowV, rowV_congr n (fun i hi => H i (by omega)), H n (by omega)]
theorem rowV_oneCell {s : Nat} {f : Nat → List Value} : ∀ n, IsRow s f n → ∀ u ∈ rowV f n, u.oneCell' = true
  | 0, _, u, hu => by simp [rowV] at hu
  | n + 1, H, u, hu => by
    rw [rowV, List.mem_append] at hu
    rcases hu with hu | hu
    · exact rowV_oneCell n (H.mono (by omega)) u hu
    · exact H.one n (by omega) u hu
structure RRow (w : World) (s : Nat) (a : Option Addr) (n c : Nat) (f : Nat → List Value) : Prop where
  ok : IsRow s f n
  le : n ≤ c
  le' : c ≤ maxLen
  nil : a = none → c = 0
  at_ : 0 < n → ∃ b off, a = some ⟨b, off, none⟩ ∧ b < w.heap.size ∧ ∀ i q, i < n → q < s → w.cell? ⟨b, off + i * s + q, none⟩ = (f i)[q]?
theorem RRow.cells {w : World} {s n c b off : Nat} {f : Nat → List Value} (H : RRow w s (some ⟨b, off, none⟩) n c f) (i : Nat) (hi : i < n) : ∀ j v, (f i)[j]? = some v → w.cell? ⟨b, off + i * s + j, none⟩ = some v := fun j v hv => by
  have hj : j < s := by have := (List.getElem?_eq_some_iff.1 hv).1; rw [H.ok.len i hi] at this; exact this
  obtain ⟨b', off', e, _, hc⟩ := H.at_ (by omega)
  cases e
  rw [hc i j hi hj, hv]
def ORow (e s B : Nat) (w : World) (a : Option Addr) (n c : Nat) (f : Nat → List Value) : Prop := w.ownsRow B e s (.slice a n c) n (rowV f n)
theorem ORow.reads {e s B : Nat} {w : World} {a : Option Addr} {n c : Nat} {f : Nat → List Value} (H : ORow e s B w a n c f) (ok : IsRow s f n) : RRow w s a n c f := by
  rcases H.2 with ⟨e1, h0⟩ | ⟨g, cap, cur, e1, hg, hh, h1, h2, h3, h4⟩
  · cases e1
    exact ⟨ok, by omega, Nat.zero_le _, fun _ => rfl, fun hp => absurd hp (by omega)⟩
  · cases e1
    refine ⟨ok, h1, h2, fun e => (by cases e), fun hp => ⟨g, 0, rfl, (Array.getElem?_eq_some_iff.1 hh).1, fun i q hi hq => ?_⟩⟩
    have hm : (i + 1) * s ≤ n * s := Nat.mul_le_mul_right _ (by omega)
    rw [Nat.add_mul, Nat.one_mul] at hm
    rw [show 0 + i * s + q = i * s + q by omega, World.ownsRow.cellAt H (i * s + q) (by omega)]
    exact rowV_get n ok i q hi hq
theorem ORow.below {e s B : Nat} {w w' : World} {a : Option Addr} {n c : Nat} {f : Nat → List Value} (H : ORow e s B w a n c f) (hb : Below w.heap.size w w') : ORow e s B w' a n c f := own_below H hb
theorem ORow.mono {e s B B' : Nat} {w : World} {a : Option Addr} {n c : Nat} {f : Nat → List Value} (H : ORow e s B w a n c f) (hB : B' ≤ B) : ORow e s B' w a n c f := World.ownsRow.mono H hB
theorem ORow.congr {e s B : Nat} {w : World} {a : Option Addr} {n c : Nat} {f f' : Nat → List Value} (H : ORow e s B w a n c f) (h : ∀ i, i < n → f i = f' i) : ORow e s B w a n c f' := by
  unfold ORow at H ⊢
  rw [← rowV_congr n h]
  exact H
theorem orow_nil (e s B : Nat) (w : World) (f : Nat → List Value) : ORow e s B w none 0 0 f := World.ownsRow_nil w B _ _
theorem orow_lit0 (e s B : Nat) (w : World) (hB : B ≤ w.heap.size) (f : Nat → List Value) : ORow e s B (w.alloc (.cells #[] e)) (some ⟨w.heap.size, 0, none⟩) 0 0 f := by
  have := World.ownsRow_lit (base := B) (e := e) (size := s) w #[] 0 hB (by unfold maxLen; omega) (by simp)
  simpa [ORow, rowV] using this
def updR (f : Nat → List Value) (n : Nat) (x : List Value) : Nat → List Value := fun i => if i = n then x else f i
theorem updR_same (f : Nat → List Value) (n : Nat) (x : List Value) : updR f n x n = x := by simp [updR]
theorem updR_lt (f : Nat → List Value) {n i : Nat} (x : List Value) (hi : i < n) : updR f n x i = f i := by simp [updR, Nat.ne_of_lt hi]
theorem rowV_updR (f : Nat → List Value) (n : Nat) (x : List Value) : rowV (updR f n x) (n + 1) = rowV f n ++ x := by
  rw [rowV, updR_same, rowV_congr n (fun i hi => updR_lt f x hi)]
structure ElT (t e s : Nat) (z : Value) (bytes : Nat) : Prop where
  und : Tryz.prog.underlying t = some (.slice e)
  inf : (Tryz.prog.info? e).map (fun i => (i.zero, i.size, i.bytes)) = some (some z, s, bytes)
  cells : z.cells.size = s
  pos : 0 < s
theorem wp_appRow {w1 : World} {o : Oper} {act : Act} {KK : Act → World → Prop} {Q : Exit → Act → World → Prop} (so xo : Operand) {t e s bytes : Nat} {z : Value} (T : ElT t e s z bytes)
    (ho : o.op = .call { callee := .builtin .append, args := #[so, xo], argTypes := #[t, t] })
    (B : Nat) (a : Option Addr) (n c : Nat) (f : Nat → List Value) (hs : act.eval so = .slice a n c) (hown : ORow e s B w1 a n c f) (x : List Value) (hxl : x.length = s) (hx1 : ∀ u ∈ x, u.oneCell' = true)
    (hx : act.eval xo = .slice (some ⟨w1.heap.size, 0, none⟩) 1 1) (hn : n ≤ 1048576) (hbt : bytes ≤ 1048576) (hB : B ≤ w1.heap.size)
    (hh : ∀ a' c' w', ORow e s B w' a' (n + 1) c' (updR f n x) → Below B w1 w' → (w1.alloc (.cells x.toArray e)).grownBy w' (Value.slice a n c).ownBlock → KK (act.put o.dst (.slice a' (n + 1) c')) w') :
    o.wp Tryz.prog act (w1.alloc (.cells x.toArray e)) KK Q := by
  obtain ⟨i, hi, hz0, hz1, hz2⟩ := info_parts T.inf
  have q0 : Below w1.heap.size w1 (w1.alloc (.cells x.toArray e)) := (Below.refl _ _).alloc (Nat.le_refl _) _
  refine wp_append_own _ so xo _ ho B e i z s bytes T.und hi hz0 hz1 hz2 T.cells T.pos _ n (rowV f n) hs (own_below hown q0) ⟨w1.heap.size, 0, none⟩ 1 1 x hx (by rw [hxl, Nat.one_mul]) ?_ hx1 (by unfold maxLen; omega) ?_ (by simp; omega) ?_
  · intro j u hj
    rw [Addr.add_lit, Nat.zero_add]
    have : (w1.alloc (.cells x.toArray e)).cell? ⟨w1.heap.size, j, none⟩ = x.toArray[j]? := cell_of_row _ w1.heap.size j _ e (0, 0) (heap_alloc_new w1 _)
    rw [this, ← hj]
    simp
  · have : (n + 1) * bytes ≤ (n + 1) * 1048576 := Nat.mul_le_mul_left _ hbt
    omega
  · intro v' w' ho' hg' _
    rw [← rowV_updR] at ho'
    have hv : ∃ a' c', v' = .slice a' (n + 1) c' := by
      rcases ho'.2 with ⟨rfl, h0⟩ | ⟨g, cap, cur, rfl, _⟩
      · omega
      · exact ⟨_, _, rfl⟩
    obtain ⟨a', c', rfl⟩ := hv
    exact hh a' c' w' ho' ((q0.mono hB).trans ((Below.refl _ _).grown hg' (by simp; omega) (fun k hk => (World.ownsRow.lt (own_below hown q0) k hk).1))) hg'
theorem wpList_appRow {w1 : World} {ops : Array Oper} {rest : List Oper} {o : Oper} {act : Act} {Q : Exit → Act → World → Prop} (hgd : o.guard = none) (so xo : Operand) {t e s bytes : Nat} {z : Value} (T : ElT t e s z bytes)
    (ho : o.op = .call { callee := .builtin .append, args := #[so, xo], argTypes := #[t, t] })
    (B : Nat) (a : Option Addr) (n c : Nat) (f : Nat → List Value) (hs : act.eval so = .slice a n c) (hown : ORow e s B w1 a n c f) (x : List Value) (hxl : x.length = s) (hx1 : ∀ u ∈ x, u.oneCell' = true)
    (hx : act.eval xo = .slice (some ⟨w1.heap.size, 0, none⟩) 1 1) (hn : n ≤ 1048576) (hbt : bytes ≤ 1048576) (hB : B ≤ w1.heap.size)
    (hh : ∀ a' c' w', ORow e s B w' a' (n + 1) c' (updR f n x) → Below B w1 w' → (w1.alloc (.cells x.toArray e)).grownBy w' (Value.slice a n c).ownBlock → wpList Tryz.prog ops Q rest (act.put o.dst (.slice a' (n + 1) c')) w') :
    wpList Tryz.prog ops Q (o :: rest) act (w1.alloc (.cells x.toArray e)) :=
  wpList_plain hgd fun _ hK => wp_appRow so xo T ho B a n c f hs hown x hxl hx1 hx hn hbt hB fun a' c' w' h1 h2 h3 => hK _ _ (hh a' c' w' h1 h2 h3)
theorem blk_orow {e s B g n : Nat} {w : World} {f : Nat → List Value} (hb : Blk w e g (rowV f n)) (ok : IsRow s f n) (hB : B ≤ g) (hn : n ≤ 1048576) : ORow e s B w (some ⟨g, 0, none⟩) n n f := by
  have hl := rowV_len n ok
  exact ⟨hl, Or.inr ⟨g, n, (rowV f n).toArray, rfl, hB, hb, Nat.le_refl _, by unfold maxLen; omega, by simpa using hl, List.take_of_length_le (by simp; omega)⟩⟩
end Go.Proofs.YtnohmedccbogkaaGreatDoor

namespace Go.Proofs.YtnohmedccbogkaaGreatDoor
open Go.RowKit
set_option linter.unusedVariables false
structure KeepT (t : Nat) (w w' : World) : Prop where
  size : w.heap.size ≤ w'.heap.size
  block : ∀ (k : Nat) (cs : Array Value) (fr : Nat × Nat), w.heap[k]? = some (.cells cs t fr) → w'.heap[k]? = some (.cells cs t fr)
theorem KeepT.refl (t : Nat) (w : World) : KeepT t w w := ⟨Nat.le_refl _, fun _ _ _ h => h⟩
theorem KeepT.trans {t : Nat} {a b c : World} (h : KeepT t a b) (k : KeepT t b c) : KeepT t a c := ⟨Nat.le_trans h.size k.size, fun i cs fr hi => k.block i cs fr (h.block i cs fr hi)⟩
theorem keepT_below {t : Nat} {w w' : World} (h : Below w.heap.size w w') : KeepT t w w' := ⟨h.size, fun k cs fr hk => by rw [h.block k (Array.getElem?_eq_some_iff.1 hk).1]; exact hk⟩
theorem keepT_grown {t e s B : Nat} {w w' : World} {v : Value} {n : Nat} {xs : List Value} (ho : w.ownsRow B e s v n xs) (hg : w.grownBy w' v.ownBlock) (he : e ≠ t) : KeepT t w w' :=
  ⟨hg.size, fun k cs fr hk => by
    rw [hg.block k (Array.getElem?_eq_some_iff.1 hk).1 (fun e1 => ?_)]
    · exact hk
    · rcases ho.2 with ⟨e2, _⟩ | ⟨g, cap, cur, e2, _, hh, _⟩
      · subst e2; simp [Value.ownBlock] at e1
      · subst e2
        simp [Value.ownBlock] at e1
        subst e1
        rw [hk] at hh
        cases hh
        exact he rfl⟩
theorem ownsRow_keepT {t s B : Nat} {w w' : World} {v : Value} {n : Nat} {xs : List Value} (h : w.ownsRow B t s v n xs) (hk : KeepT t w w') : w'.ownsRow B t s v n xs := by
  refine ⟨h.1, ?_⟩
  rcases h.2 with h2 | ⟨k, cap, cur, hv, hg, hh, r⟩
  · exact Or.inl h2
  · exact Or.inr ⟨k, cap, cur, hv, hg, hk.block k _ _ hh, r⟩
theorem Blk.keepT {w w' : World} {t g : Nat} {xs : List Value} (h : Blk w t g xs) (hk : KeepT t w w') : Blk w' t g xs := hk.block g _ _ h
theorem keepT_only {t e g : Nat} {w w' : World} {xs : List Value} (h : OnlyB g w w') (hg : Blk w e g xs) (he : e ≠ t) : KeepT t w w' :=
  ⟨h.size, fun k cs fr hk => by
    by_cases e1 : k = g
    · subst e1
      rw [hg] at hk
      cases hk
      exact absurd rfl he
    · exact (h.block k (Array.getElem?_eq_some_iff.1 hk).1 e1).trans hk⟩
theorem keepT_onlyC {t e g : Nat} {w w' : World} {cur : Array Value} {fr : Nat × Nat} (h : OnlyB g w w') (hg : w.heap[g]? = some (.cells cur e fr)) (he : e ≠ t) : KeepT t w w' :=
  ⟨h.size, fun k cs fr2 hk => by
    by_cases e1 : k = g
    · subst e1
      rw [hg] at hk
      cases hk
      exact absurd rfl he
    · exact (h.block k (Array.getElem?_eq_some_iff.1 hk).1 e1).trans hk⟩
end Go.Proofs.YtnohmedccbogkaaGreatDoor

namespace Go.Proofs.YtnohmedccbogkaaGreatDoor
open Go.RowKit
set_option linter.unusedVariables false
theorem fold_put (off : Nat) : ∀ (xs : List Value) (k : Nat) (Z : Array Value), off + k + xs.length ≤ Z.size → (xs.zipIdx k).foldl (fun cs x => cs.setIfInBounds (off + x.2) x.1) Z = (Z.toList.take (off + k) ++ xs ++ Z.toList.drop (off + k + xs.length)).toArray
  | [], k, Z, h => by simp
  | x :: xs, k, Z, h => by
    have hk : off + k < Z.toList.length := by simp at h ⊢; omega
    rw [List.zipIdx_cons, List.foldl_cons, fold_put off xs (k + 1) (Z.setIfInBounds (off + k) x) (by simp at h ⊢; omega)]
    rw [Array.toList_setIfInBounds, show off + (k + 1) = off + k + 1 by omega, List.take_succ_eq_append_getElem (by simpa using hk), List.getElem_set_self, List.take_set_of_le (Nat.le_refl _), List.drop_set_of_lt (by omega)]
    rw [List.length_cons, show off + k + 1 + xs.length = off + k + (xs.length + 1) by omega]
    simp
theorem fill_step (place : Nat → Option (Nat × Nat)) (Z : Array Value) (i off : Nat) (v : Value) (x : List Value) (rest : List (Nat × Value)) (hp : place i = some (off, x.length)) (hv : v.cells = x.toArray) (hfit : off + x.length ≤ Z.size) :
    Instr.fill place Z ((i, v) :: rest) = Instr.fill place (Z.toList.take off ++ x ++ Z.toList.drop (off + x.length)).toArray rest := by
  have hf := fold_put off x 0 Z (by omega)
  rw [Nat.add_zero] at hf
  rw [Instr.fill]
  have hcond : (decide (v.cells.size ≠ x.length) || decide (off + v.cells.size > Z.size)) = false := by
    rw [hv]
    simp
    omega
  rw [hp]
  simp only
  rw [hcond, if_neg (by decide), hv, ← hf]
  simp
theorem run_bsRow {t e s bytes : Nat} {z : Value} (T : ElT t e s z bytes) (hs : s ≤ 1048576) (v : Value) (x : List Value) (hv : v.cells = x.toArray) (hx : x.length = s) (w : World) :
    (Instr.buildSlice t 1 #[(0, v)]).run Tryz.prog w = .ok (.slice (some ⟨w.heap.size, 0, none⟩) 1 1) (w.alloc (.cells x.toArray e)) := by
  obtain ⟨i, hi, hz0, hz1, hz2⟩ := info_parts T.inf
  have hpos := T.pos
  have hzs := T.cells
  have hf : ∀ Z : Array Value, Z.size = s → Instr.fill (fun i => some (i * s, s)) Z [(0, v)] = some x.toArray := fun Z hZ => by
    rw [fill_step _ Z 0 0 v x [] (by simp [hx]) hv (by omega)]
    simp only [Instr.fill, List.take_zero, List.nil_append, Nat.zero_add]
    rw [List.drop_of_length_le (by simp [hZ, hx]), List.append_nil]
  have hlim : ¬ (2 ^ 24 < s) := by omega
  have h0 : ¬ (s = 0) := by omega
  simp [Instr.buildSlice, Sem.run_bind, run_underlying T.und w, sizeOf, typeInfo, hi, hz1, zeroValue, hz0, h0]
  rw [if_neg (by omega)]
  rw [hf _ (by simp)]
  simp [newRow, go_sem]
theorem wp_build_eq1 {P : Program} {o : Oper} {a : Act} {w : World} {K : Act → World → Prop} {Q : Exit → Act → World → Prop} (t : TypeId) (parts : Array (Nat × Operand)) (ho : o.op = .build t parts) {cs : Array Value}
    (hb : P.built t (parts.map fun (i, x) => (i, a.eval x)).toList = some cs) (h : K (a.put o.dst (.agg cs)) w) : o.wp P a w K Q :=
  wp_build t parts ho (by rw [hb]; rfl) (by rw [hb]; exact h)
theorem wpList_build1 {P : Program} {ops : Array Oper} {rest : List Oper} {o : Oper} {a : Act} {w : World} {Q : Exit → Act → World → Prop} (hgd : o.guard = none) (t : TypeId) (parts : Array (Nat × Operand)) (ho : o.op = .build t parts) {cs : Array Value}
    (hb : P.built t (parts.map fun (i, x) => (i, a.eval x)).toList = some cs) (h : wpList P ops Q rest (a.put o.dst (.agg cs)) w) : wpList P ops Q (o :: rest) a w :=
  wpList_plain hgd fun _ hK => wp_build_eq1 t parts ho hb (hK _ _ h)
theorem wp_buildSlice_eq1 {P : Program} {o : Oper} {a : Act} {w w' : World} {K : Act → World → Prop} {Q : Exit → Act → World → Prop} (t : TypeId) (len : Nat) (parts : Array (Nat × Operand)) (ho : o.op = .buildSlice t len parts) {v : Value}
    (h : (Instr.buildSlice t len (parts.map fun (i, x) => (i, a.eval x))).run P w = .ok v w') (hk : K (a.put o.dst v) w') : o.wp P a w K Q := by
  unfold Oper.wp execOp
  simp only [ho, Sem.run_bind, h, Result.andThen_ok, Sem.run_pure]
  exact hk
theorem results_cellTmp {P : Program} {fn : Func} {p q : Tmp} {ty : TypeId} (h : fn.results = #[.cell p ty, .tmp q]) (tmps : Array Value) (w : World) (g : Nat) (t : TypeId) (cs : Array Value) (d : TypeDesc) {v : Value}
    (hp : tmps.getD p undef = .pointer (some ⟨g, 0, none⟩)) (hg : w.heap[g]? = some (.cells cs t (0, 0)))
    (hu : P.underlying ty = some d) (hd : (match d with | .struct _ | .array _ _ => true | _ => false) = true) (hi : (P.info? ty).map (·.size) = some cs.size) (hq : tmps.getD q undef = v) :
    (results fn tmps).run P w = .ok (.tuple #[.agg cs, v]) w := by
  have hp' : tmps[p]?.getD undef = .pointer (some ⟨g, 0, none⟩) := by simpa using hp
  have hq' : tmps[q]?.getD undef = v := by simpa using hq
  simp [results, h, hp', hq', asAddr, run_loadVar_row w g t ty cs (0, 0) d hg hu hd hi]
def plan (P : Program) (t : TypeId) : Option (Array Value × List (Nat × Nat)) :=
  match P.info? t, P.underlying t with
  | some it, some (.struct fields) =>
    match it.zero, fields.toList.mapM (fun f => (P.info? f.type).map fun i => (f.offset, i.size)) with
    | some z, some places => some (z.cells, places)
    | _, _ => none
  | _, _ => none
theorem built_plan {P : Program} {t : TypeId} {Z : Array Value} {pl : List (Nat × Nat)} (h : plan P t = some (Z, pl)) (parts : List (Nat × Value)) : P.built t parts = Instr.fill (pl.toArray[·]?) Z parts := by
  unfold plan at h
  split at h
  · rename_i it fields hi hu
    split at h
    · rename_i z places hz hpl
      cases h
      simp [Program.built, hi, hu, hz, hpl]
    · cases h
  · cases h
end Go.Proofs.YtnohmedccbogkaaGreatDoor

namespace Go.Proofs.YtnohmedccbogkaaGreatDoor
open Go.RowKit
set_option linter.unusedVariables false
def Own1 (e B : Nat) (w : World) (a : Option Addr) (n c : Nat) (xs : List Value) : Prop := w.ownsRow B e 1 (.slice a n c) n xs
def f1 (xs : List Value) : Nat → List Value := fun i => [xs.getD i undef]
theorem f1_app (xs ys : List Value) : ∀ n, n ≤ xs.length → rowV (f1 (xs ++ ys)) n = rowV (f1 xs) n
  | 0, _ => rfl
  | n + 1, h => by
    rw [rowV, rowV, f1_app xs ys n (by omega)]
    simp [f1, List.getD, List.getElem?_append_left (show n < xs.length by omega)]
theorem rowV_f1 : ∀ (xs : List Value), rowV (f1 xs) xs.length = xs := fun xs => by
  have key : ∀ n, n ≤ xs.length → rowV (f1 xs) n = xs.take n := by
    intro n
    induction n with
    | zero => intro _; simp [rowV]
    | succ n ih =>
      intro h
      rw [rowV, ih (by omega), List.take_add_one]
      simp [f1, List.getD, List.getElem?_eq_getElem (show n < xs.length by omega)]
  rw [key _ (Nat.le_refl _), List.take_length]
theorem Own1.len {e B : Nat} {w : World} {a : Option Addr} {n c : Nat} {xs : List Value} (h : Own1 e B w a n c xs) : xs.length = n := by have := h.1; omega
theorem Own1.row {e B : Nat} {w : World} {a : Option Addr} {n c : Nat} {xs : List Value} (h : Own1 e B w a n c xs) : ORow e 1 B w a n c (f1 xs) := by
  unfold ORow
  have := rowV_f1 xs
  rw [h.len] at this
  rw [this]
  exact h
theorem Own1.below {e B : Nat} {w w' : World} {a : Option Addr} {n c : Nat} {xs : List Value} (h : Own1 e B w a n c xs) (hb : Below w.heap.size w w') : Own1 e B w' a n c xs := own_below h hb
theorem Own1.mono {e B B' : Nat} {w : World} {a : Option Addr} {n c : Nat} {xs : List Value} (h : Own1 e B w a n c xs) (hB : B' ≤ B) : Own1 e B' w a n c xs := World.ownsRow.mono h hB
theorem Own1.keep {e B : Nat} {w w' : World} {a : Option Addr} {n c : Nat} {xs : List Value} (h : Own1 e B w a n c xs) (hk : KeepT e w w') : Own1 e B w' a n c xs := ownsRow_keepT h hk
theorem own1_nil (e B : Nat) (w : World) : Own1 e B w none 0 0 [] := World.ownsRow_nil w B _ _
theorem Own1.at_ {e B : Nat} {w : World} {a : Option Addr} {n c : Nat} {xs : List Value} (h : Own1 e B w a n c xs) (hp : 0 < n) : ∃ g, a = some ⟨g, 0, none⟩ ∧ B ≤ g ∧ g < w.heap.size ∧ (∃ cur, w.heap[g]? = some (.cells cur e (0, 0))) ∧ ∀ i, i < n → w.cell? ⟨g, i, none⟩ = some (xs.getD i undef) := by
  rcases h.2 with ⟨_, h0⟩ | ⟨g, cap, cur, e1, hB, hh, h1, h2, h3, h4⟩
  · omega
  · cases e1
    refine ⟨g, rfl, hB, (Array.getElem?_eq_some_iff.1 hh).1, ⟨cur, hh⟩, fun i hi => ?_⟩
    rw [cell_of_row w g i cur e (0, 0) hh]
    have hl := h.len
    rw [← h4]
    simp only [List.getD_eq_getElem?_getD, Nat.mul_one]
    rw [List.getElem?_take_of_lt hi]
    have : i < cur.size := by omega
    simp [this]
theorem Own1.set {e B g : Nat} {w : World} {n c : Nat} {xs : List Value} (h : Own1 e B w (some ⟨g, 0, none⟩) n c xs) (i : Nat) (u : Value) : Own1 e B (w.setCell ⟨g, i, none⟩ u) (some ⟨g, 0, none⟩) n c (xs.set i u) := (World.ownsRow.stored h i u).1
theorem Own1.free {e B g : Nat} {w : World} {n c : Nat} {xs : List Value} (h : Own1 e B w (some ⟨g, 0, none⟩) n c xs) (i : Nat) : w.frozen? ⟨g, i, none⟩ = false := by
  rcases h.2 with ⟨e1, _⟩ | ⟨g', cap, cur, e1, hB, hh, _⟩
  · cases e1
  · cases e1
    exact frozen_of_row w g i cur e hh
theorem wp_app1 {w1 : World} {o : Oper} {act : Act} {KK : Act → World → Prop} {Q : Exit → Act → World → Prop} (so xo : Operand) {t e bytes : Nat} {z : Value} (T : ElT t e 1 z bytes)
    (ho : o.op = .call { callee := .builtin .append, args := #[so, xo], argTypes := #[t, t] })
    (B : Nat) (a : Option Addr) (n c : Nat) (xs : List Value) (hs : act.eval so = .slice a n c) (hown : Own1 e B w1 a n c xs) (x : Value) (hx1 : x.oneCell' = true)
    (hx : act.eval xo = .slice (some ⟨w1.heap.size, 0, none⟩) 1 1) (hn : n ≤ 1048576) (hbt : bytes ≤ 1048576) (hB : B ≤ w1.heap.size)
    (hh : ∀ a' c' w', Own1 e B w' a' (n + 1) c' (xs ++ [x]) → Below B w1 w' → (w1.alloc (.cells #[x] e)).grownBy w' (Value.slice a n c).ownBlock → KK (act.put o.dst (.slice a' (n + 1) c')) w') :
    o.wp Tryz.prog act (w1.alloc (.cells #[x] e)) KK Q := by
  refine wp_appRow so xo T ho B a n c (f1 xs) hs hown.row [x] rfl (by intro u hu; simp at hu; subst hu; exact hx1) hx hn hbt hB (fun a' c' w' h1 h2 h3 => hh a' c' w' ?_ h2 h3)
  unfold ORow at h1
  rw [rowV_updR] at h1
  have := rowV_f1 xs
  rw [hown.len] at this
  rw [this] at h1
  exact h1
theorem wpList_app1 {w1 : World} {ops : Array Oper} {rest : List Oper} {o : Oper} {act : Act} {Q : Exit → Act → World → Prop} (hgd : o.guard = none) (so xo : Operand) {t e bytes : Nat} {z : Value} (T : ElT t e 1 z bytes)
    (ho : o.op = .call { callee := .builtin .append, args := #[so, xo], argTypes := #[t, t] })
    (B : Nat) (a : Option Addr) (n c : Nat) (xs : List Value) (hs : act.eval so = .slice a n c) (hown : Own1 e B w1 a n c xs) (x : Value) (hx1 : x.oneCell' = true)
    (hx : act.eval xo = .slice (some ⟨w1.heap.size, 0, none⟩) 1 1) (hn : n ≤ 1048576) (hbt : bytes ≤ 1048576) (hB : B ≤ w1.heap.size)
    (hh : ∀ a' c' w', Own1 e B w' a' (n + 1) c' (xs ++ [x]) → Below B w1 w' → (w1.alloc (.cells #[x] e)).grownBy w' (Value.slice a n c).ownBlock → wpList Tryz.prog ops Q rest (act.put o.dst (.slice a' (n + 1) c')) w') :
    wpList Tryz.prog ops Q (o :: rest) act (w1.alloc (.cells #[x] e)) :=
  wpList_plain hgd fun _ hK => wp_app1 so xo T ho B a n c xs hs hown x hx1 hx hn hbt hB fun a' c' w' h1 h2 h3 => hK _ _ (hh a' c' w' h1 h2 h3)
theorem wp_app1L {w1 : World} {o : Oper} {act : Act} {KK : Act → World → Prop} {Q : Exit → Act → World → Prop} (so xo : Operand) {t e bytes : Nat} {z : Value} (T : ElT t e 1 z bytes)
    (ho : o.op = .call { callee := .builtin .append, args := #[so, xo], argTypes := #[t, t] })
    (B : Nat) (a : Option Addr) (n c : Nat) (xs : List Value) (hs : act.eval so = .slice a n c) (hown : Own1 e B w1 a n c xs) (x : Value) (hx1 : x.oneCell' = true)
    (hx : act.eval xo = .slice (some ⟨w1.heap.size, 0, none⟩) 1 1) (hn : n ≤ 1048576) (hbt : bytes ≤ 1048576) (hB : B ≤ w1.heap.size)
    (hh : ∀ g c' w', Own1 e B w' (some ⟨g, 0, none⟩) (n + 1) c' (xs ++ [x]) → Below B w1 w' → (w1.alloc (.cells #[x] e)).grownBy w' (Value.slice a n c).ownBlock → (a = some ⟨g, 0, none⟩ ∨ w1.heap.size < g) → KK (act.put o.dst (.slice (some ⟨g, 0, none⟩) (n + 1) c')) w') :
    o.wp Tryz.prog act (w1.alloc (.cells #[x] e)) KK Q := by
  obtain ⟨i, hi, hz0, hz1, hz2⟩ := info_parts T.inf
  have q0 : Below w1.heap.size w1 (w1.alloc (.cells #[x] e)) := (Below.refl _ _).alloc (Nat.le_refl _) _
  refine wp_append_lies _ so xo t ho B e i z 1 bytes T.und hi hz0 hz1 hz2 T.cells T.pos _ n xs hs (own_below hown q0) ⟨w1.heap.size, 0, none⟩ 1 1 [x] hx rfl ?_ (by intro u hu; simp at hu; subst hu; exact hx1) (by omega) (by unfold maxLen; omega) ?_ (by simp; omega) (w1.heap.size + 1) (by simp) ?_
  · intro j u hj
    rw [Addr.add_lit, Nat.zero_add]
    have : (w1.alloc (.cells #[x] e)).cell? ⟨w1.heap.size, j, none⟩ = #[x][j]? := cell_of_row _ w1.heap.size j _ e (0, 0) (heap_alloc_new w1 _)
    rw [this, ← hj]
    simp
  · have : (n + 1) * bytes ≤ (n + 1) * 1048576 := Nat.mul_le_mul_left _ hbt
    omega
  · intro g cap w' ho' hg' hat _
    refine hh g cap w' ho' ((q0.mono hB).trans ((Below.refl _ _).grown hg' (by simp; omega) (fun k hk => (World.ownsRow.lt (own_below hown q0) k hk).1))) hg' ?_
    rcases hat with hat | hat
    · left
      rcases hown.2 with ⟨e1, _⟩ | ⟨g', cap', cur, e1, _⟩
      · rw [e1] at hat; simp [Value.ownBlock] at hat
      · rw [e1] at hat
        simp [Value.ownBlock] at hat
        cases e1
        rw [hat]
    · right; omega
theorem wp_appRowL {w1 : World} {o : Oper} {act : Act} {KK : Act → World → Prop} {Q : Exit → Act → World → Prop} (so xo : Operand) {t e s bytes : Nat} {z : Value} (T : ElT t e s z bytes)
    (ho : o.op = .call { callee := .builtin .append, args := #[so, xo], argTypes := #[t, t] })
    (B : Nat) (a : Option Addr) (n c : Nat) (f : Nat → List Value) (hs : act.eval so = .slice a n c) (hown : ORow e s B w1 a n c f) (x : List Value) (hxl : x.length = s) (hx1 : ∀ u ∈ x, u.oneCell' = true)
    (hx : act.eval xo = .slice (some ⟨w1.heap.size, 0, none⟩) 1 1) (hn : n ≤ 1048576) (hbt : bytes ≤ 1048576) (hB : B ≤ w1.heap.size)
    (hh : ∀ g c' w', ORow e s B w' (some ⟨g, 0, none⟩) (n + 1) c' (updR f n x) → Below B w1 w' → (w1.alloc (.cells x.toArray e)).grownBy w' (Value.slice a n c).ownBlock → (a = some ⟨g, 0, none⟩ ∨ w1.heap.size < g) → KK (act.put o.dst (.slice (some ⟨g, 0, none⟩) (n + 1) c')) w') :
    o.wp Tryz.prog act (w1.alloc (.cells x.toArray e)) KK Q := by
  obtain ⟨i, hi, hz0, hz1, hz2⟩ := info_parts T.inf
  have q0 : Below w1.heap.size w1 (w1.alloc (.cells x.toArray e)) := (Below.refl _ _).alloc (Nat.le_refl _) _
  refine wp_append_lies _ so xo t ho B e i z s bytes T.und hi hz0 hz1 hz2 T.cells T.pos _ n (rowV f n) hs (own_below hown q0) ⟨w1.heap.size, 0, none⟩ 1 1 x hx (by rw [hxl, Nat.one_mul]) ?_ hx1 (by omega) (by unfold maxLen; omega) ?_ (by simp; omega) (w1.heap.size + 1) (by simp) ?_
  · intro j u hj
    rw [Addr.add_lit, Nat.zero_add]
    have : (w1.alloc (.cells x.toArray e)).cell? ⟨w1.heap.size, j, none⟩ = x.toArray[j]? := cell_of_row _ w1.heap.size j _ e (0, 0) (heap_alloc_new w1 _)
    rw [this, ← hj]
    simp
  · have : (n + 1) * bytes ≤ (n + 1) * 1048576 := Nat.mul_le_mul_left _ hbt
    omega
  · intro g cap w' ho' hg' hat _
    rw [← rowV_updR] at ho'
    refine hh g cap w' ho' ((q0.mono hB).trans ((Below.refl _ _).grown hg' (by simp; omega) (fun k hk => (World.ownsRow.lt (own_below hown q0) k hk).1))) hg' ?_
    rcases hat with hat | hat
    · left
      rcases hown.2 with ⟨e1, _⟩ | ⟨g', cap', cur, e1, _⟩
      · rw [e1] at hat; simp [Value.ownBlock] at hat
      · rw [e1] at hat
        simp [Value.ownBlock] at hat
        cases e1
        rw [hat]
    · right; omega
theorem Own1.grown {e B B2 e2 : Nat} {w w' : World} {a a2 : Option Addr} {n c n2 c2 : Nat} {xs xs2 : List Value} (h : Own1 e B w a n c xs) (h2 : Own1 e2 B2 w a2 n2 c2 xs2) (hg : w.grownBy w' (Value.slice a2 n2 c2).ownBlock) (sep : ∀ g, a2 = some ⟨g, 0, none⟩ → a ≠ some ⟨g, 0, none⟩) : Own1 e B w' a n c xs := by
  refine World.ownsRow.kept h hg ?_
  rcases h.2 with ⟨e1, _⟩ | ⟨g, cap, cur, e1, _⟩
  · left; rw [e1]; rfl
  · right
    intro hc
    cases e1
    rcases h2.2 with ⟨e3, _⟩ | ⟨g2, cap2, cur2, e3, _⟩
    · cases e3; simp [Value.ownBlock] at hc
    · cases e3
      simp [Value.ownBlock] at hc
      subst hc
      exact sep _ rfl rfl
theorem Own1.lt {e B : Nat} {w : World} {a : Option Addr} {n c : Nat} {xs : List Value} (h : Own1 e B w a n c xs) {g : Nat} (hg : a = some ⟨g, 0, none⟩) : g < w.heap.size := by
  rcases h.2 with ⟨e1, _⟩ | ⟨g', cap, cur, e1, _, hh, _⟩
  · cases e1; cases hg
  · cases e1; cases hg; exact (Array.getElem?_eq_some_iff.1 hh).1
theorem run_bs1 {t e bytes : Nat} {z : Value} (T : ElT t e 1 z bytes) (x : Value) (hx : x.cells = #[x]) (w : World) :
    (Instr.buildSlice t 1 #[(0, x)]).run Tryz.prog w = .ok (.slice (some ⟨w.heap.size, 0, none⟩) 1 1) (w.alloc (.cells #[x] e)) := run_bsRow T (by omega) x [x] (by rw [hx]) rfl w
end Go.Proofs.YtnohmedccbogkaaGreatDoor

