/- The hasher: what stands in its block. -/
import Derived.Test.YthobegpfibfocaaDoorMid
import Derived.Test.YthobegpfibfocaaDoorShaTurn
import Derived.Test.YthobegpfibfocaaDoorHeldT
namespace Go.Proofs.YthobegpfibfocaaDoor
open Go.RowKit
set_option linter.unusedVariables false

/-- Words of 32 bits. -/
def ow (l : List Nat) : List Value := l.map fun n : Nat => .int .u32 (n : Int)
theorem ow_len (l : List Nat) : (ow l).length = l.length := by simp [ow]
theorem ow_getElem? (l : List Nat) (j : Nat) (h : j < l.length) : (ow l)[j]? = some (.int .u32 (l.getD j 0 : Nat)) := by simp [ow, List.getD, h]
theorem ow_set (l : List Nat) (i : Nat) (x : Nat) : (ow l).set i (.int .u32 (x : Int)) = ow (l.set i x) := by simp [ow, List.map_set]
theorem ow_all (l : List Nat) : (ow l).toArray.all (·.oneCell') = true := by
  rw [Array.all_eq_true_iff_forall_mem]
  intro v hv
  simp only [ow, List.mem_toArray, List.mem_map] at hv
  obtain ⟨n, _, rfl⟩ := hv
  rfl
theorem ow_size (l : List Nat) : (ow l).toArray.size = l.length := by simp [ow]

/-- The cells of a hasher. -/
def hx (v : R8) (ch : List Int) (s : Nat) : List Value := ow v.list ++ (ob ch ++ [.int .i64 (s : Int)])
theorem hx_word (v : R8) (ch : List Int) (s j : Nat) (h : j < 8) : (hx v ch s)[j]? = some (.int .u32 (v.list.getD j 0 : Nat)) := by
  unfold hx
  rw [List.getElem?_append_left (by rw [ow_len]; exact h)]
  exact ow_getElem? _ j h
theorem hx_chunk (v : R8) (ch : List Int) (s j : Nat) (hc : ch.length = 64) (h : j < 64) : (hx v ch s)[8 + j]? = some (.int .u8 (ch.getD j 0)) := by
  unfold hx
  have e : (ow v.list).length = 8 := rfl
  rw [List.getElem?_append_right (by omega), e, show 8 + j - 8 = j by omega, List.getElem?_append_left (by rw [ob_length]; omega)]
  exact ob_getElem? _ j (by omega)
theorem hx_size (v : R8) (ch : List Int) (s : Nat) (hc : ch.length = 64) : (hx v ch s)[72]? = some (.int .i64 (s : Int)) := by
  unfold hx
  have e : (ow v.list).length = 8 := rfl
  rw [List.getElem?_append_right (by omega), e, List.getElem?_append_right (by rw [ob_length]; omega), ob_length, hc]
  rfl
theorem hx_setWord (v : R8) (ch : List Int) (s j : Nat) (x : Nat) (h : j < 8) : (hx v ch s).set j (.int .u32 (x : Int)) = ow (v.list.set j x) ++ (ob ch ++ [.int .i64 (s : Int)]) := by
  unfold hx
  rw [List.set_append_left _ _ (by rw [ow_len]; exact h), ow_set]

/-- Block b is a hasher with these words, this chunk and this size. -/
structure IsH (w : World) (b : Nat) (v : R8) (ch : List Int) (s : Nat) : Prop where
  blk : Blk w 112 b (hx v ch s)
  len : ch.length = 64
  byte : IsB ch
  ok : v.Ok
  ne1 : b ≠ 0
  ne2 : b ≠ 1
theorem IsH.below {w w' : World} {b : Nat} {v : R8} {ch : List Int} {s : Nat} (h : IsH w b v ch s) (hb : Below w.heap.size w w') : IsH w' b v ch s := ⟨h.blk.below hb, h.len, h.byte, h.ok, h.ne1, h.ne2⟩

/-- The two tables stand. -/
structure Tabs (w : World) : Prop where
  s : ∀ j, j < 8 → w.cell? ⟨0, j, none⟩ = some (.int .u32 (startR.list.getD j 0 : Nat))
  k : ∀ j, j < 64 → w.cell? ⟨1, j, none⟩ = some (.int .u32 (kW.getD j 0 : Nat))
  lt : 0 < w.heap.size ∧ 1 < w.heap.size
theorem Tabs.below {w w' : World} (h : Tabs w) (hb : Below w.heap.size w w') : Tabs w' :=
  ⟨fun j hj => by rw [hb.cell (p := ⟨0, j, none⟩) h.lt.1]; exact h.s j hj, fun j hj => by rw [hb.cell (p := ⟨1, j, none⟩) h.lt.2]; exact h.k j hj, by have := hb.size; have := h.lt; omega⟩
theorem Tabs.only {w w' : World} {b : Nat} (h : Tabs w) (ho : OnlyB b w w') (h1 : b ≠ 0) (h2 : b ≠ 1) : Tabs w' :=
  ⟨fun j hj => by rw [World.cell?_of_block (a := ⟨0, j, none⟩) (ho.block _ h.lt.1 (Ne.symm h1))]; exact h.s j hj,
   fun j hj => by rw [World.cell?_of_block (a := ⟨1, j, none⟩) (ho.block _ h.lt.2 (Ne.symm h2))]; exact h.k j hj, by have := ho.size; have := h.lt; omega⟩

/-- One element of an array's value. -/
theorem run_index_agg {P : Program} (w : World) (t e : TypeId) (n : Nat) (cs : List Value) (j : Nat) (v : Value) (hu : P.underlying t = some (.array n e)) (d : TypeDesc) (he : P.underlying e = some d) (hd : (match d with | .struct _ | .array _ _ => true | _ => false) = false)
    (hi : (P.info? e).map (·.size) = some 1) (hj : j < n) (hc : cs[j]? = some v) :
    (Instr.index t (.agg cs.toArray) (.int .i64 (j : Int))).run P w = .ok v w := by
  have hagg : (isAgg e).run P w = .ok false w := by
    unfold isAgg
    rw [Sem.run_bind, run_underlying he w]
    cases d <;> simp_all
  cases hq : P.info? e with
  | none => simp [hq] at hi
  | some i =>
    have hs : i.size = 1 := by simpa [hq] using hi
    simp [Instr.index, asIntOf, Sem.run_bind, run_underlying hu w, hj, sizeOf, typeInfo, hq, hs, part, hagg, hc]
theorem size8 : (Tryd.prog.info? 5).map (·.size) = some 1 := by kernel_rfl
theorem size32 : (Tryd.prog.info? 108).map (·.size) = some 1 := by kernel_rfl
theorem sizeC : (Tryd.prog.info? 110).map (·.size) = some 64 := by kernel_rfl
theorem sizeV : (Tryd.prog.info? 109).map (·.size) = some 8 := by kernel_rfl
theorem sizeW : (Tryd.prog.info? 132).map (·.size) = some 64 := by kernel_rfl

/-- The words while the bytes are laid into them. -/
def spF (ch : List Int) : Nat → Nat → Nat
  | 0, _ => 0
  | i + 1, k => if k = i / 4 then spF ch i k * 256 % 4294967296 + (ch.getD i 0).toNat else spF ch i k
theorem spF_lo (ch : List Int) : ∀ i k, i ≤ 4 * k → spF ch i k = 0
  | 0, _, _ => rfl
  | i + 1, k, h => by
    rw [spF, if_neg (by omega)]
    exact spF_lo ch i k (by omega)
theorem spF_full (ch : List Int) (hb : ∀ i, 0 ≤ ch.getD i 0 ∧ ch.getD i 0 < 256) (k : Nat) : spF ch (4 * k + 4) k = hi4 ch k := by
  have h0 := hb (4 * k); have h1 := hb (4 * k + 1); have h2 := hb (4 * k + 2); have h3 := hb (4 * k + 3)
  have s1 : spF ch (4 * k + 1) k = (ch.getD (4 * k) 0).toNat := by rw [spF, if_pos (by omega), spF_lo ch (4 * k) k (by omega)]; omega
  have s2 : spF ch (4 * k + 2) k = (ch.getD (4 * k) 0).toNat * 256 % 4294967296 + (ch.getD (4 * k + 1) 0).toNat := by
    show spF ch (4 * k + 1 + 1) k = _
    rw [spF, if_pos (by omega), s1]
  have s3 : spF ch (4 * k + 3) k = ((ch.getD (4 * k) 0).toNat * 256 % 4294967296 + (ch.getD (4 * k + 1) 0).toNat) * 256 % 4294967296 + (ch.getD (4 * k + 2) 0).toNat := by
    show spF ch (4 * k + 2 + 1) k = _
    rw [spF, if_pos (by omega), s2]
  show spF ch (4 * k + 3 + 1) k = _
  rw [spF, if_pos (by omega), s3]
  unfold hi4
  omega
theorem spF_hi (ch : List Int) (k : Nat) : ∀ d, spF ch (4 * k + 4 + d) k = spF ch (4 * k + 4) k
  | 0 => rfl
  | d + 1 => by
    rw [show 4 * k + 4 + (d + 1) = (4 * k + 4 + d) + 1 from rfl, spF, if_neg (by omega)]
    exact spF_hi ch k d
theorem spF_end (ch : List Int) (hb : ∀ i, 0 ≤ ch.getD i 0 ∧ ch.getD i 0 < 256) (k : Nat) : spF ch 64 k = if k < 16 then hi4 ch k else 0 := by
  by_cases h : k < 16
  · rw [if_pos h, ← spF_full ch hb k]
    have := spF_hi ch k (60 - 4 * k)
    rw [show 4 * k + 4 + (60 - 4 * k) = 64 by omega] at this
    exact this
  · rw [if_neg h]; exact spF_lo ch 64 k (by omega)
theorem spF_lt (ch : List Int) (hb : ∀ i, 0 ≤ ch.getD i 0 ∧ ch.getD i 0 < 256) : ∀ i k, spF ch i k < 4294967296
  | 0, _ => by unfold spF; omega
  | i + 1, k => by
    have := spF_lt ch hb i k
    have := hb i
    unfold spF
    split
    · omega
    · exact spF_lt ch hb i k

/-- A row of 64 words, given by a function. -/
def fr (f : Nat → Nat) : List Nat := (List.range 64).map f
theorem fr_len (f : Nat → Nat) : (fr f).length = 64 := by simp [fr]
theorem fr_getD (f : Nat → Nat) (j : Nat) (h : j < 64) : (fr f).getD j 0 = f j := by simp [fr, List.getD, h]
theorem fr_set (f g : Nat → Nat) (j : Nat) (h : ∀ k, g k = if k = j then g j else f k) : (fr f).set j (g j) = fr g := by
  apply List.ext_getElem
  · simp [fr]
  · intro i h1 h2
    rw [List.getElem_set]
    simp only [fr, List.getElem_map, List.getElem_range]
    rw [h i]
    by_cases e : j = i
    · subst e; simp
    · rw [if_neg e, if_neg (Ne.symm e)]
theorem fr_congr {f g : Nat → Nat} (h : ∀ k, k < 64 → f k = g k) : fr f = fr g := by
  apply List.ext_getElem
  · simp [fr]
  · intro i h1 h2
    simp only [fr, List.getElem_map, List.getElem_range]
    exact h i (by simpa [fr] using h1)
/-- The words from the front up to t, and zeros. -/
def wF (ch : List Int) (t k : Nat) : Nat := if k < t then wAt ch k else 0
theorem wds_fr (ch : List Int) : wds ch 64 = fr (wAt ch) := by
  apply List.ext_getElem
  · simp [wds_len, fr]
  · intro i h1 h2
    have := wds_getD ch 64 i (by simpa [wds_len] using h1)
    simp only [fr, List.getElem_map, List.getElem_range]
    simpa [List.getD, h1] using this
end Go.Proofs.YthobegpfibfocaaDoor
