import Derived.Test.YthobegpfibfocaaDoorFB0
import Derived.Test.YthobegpfibfocaaDoorFB19
import Derived.Laws.Shifts
import Derived.Test.YthobegpfibfocaaDoorFB2
import Derived.Test.YthobegpfibfocaaDoorFB10
import Derived.Test.YthobegpfibfocaaDoorFB6
import Derived.Test.YthobegpfibfocaaDoorFB3
/- Turning words: the specification's way and the library's. -/
namespace Go.Proofs.YthobegpfibfocaaDoor
open Go.RowKit

theorem wrap64_id {n : Int} (h0 : 0 ≤ n) (h1 : n < 9223372036854775808) : wrap64 n = n := by unfold wrap64; omega
theorem turn_num (a b c : Nat) (h : a + b * c < 4294967296) (hc : c ≤ 4294967296) : wrap64 (wrap64 (a : Int) + wrap64 ((b : Int) * wrap64 (c : Int))) = ((a + b * c : Nat) : Int) := by
  rw [wrap64_id (n := (c : Int)) (by omega) (by omega), ← Int.natCast_mul]
  generalize b * c = d at *
  rw [wrap64_id (n := (a : Int)) (by omega) (by omega), wrap64_id (n := (d : Int)) (by omega) (by omega), wrap64_id (by omega) (by omega)]
  omega
/-- A power of two, under a name. -/
def pw (r : Nat) : Nat := 2 ^ r
theorem pw_le {r : Nat} (h : r ≤ 32) : pw r ≤ 4294967296 := Nat.pow_le_pow_right (n := 2) (by omega) h
theorem pw_succ (k : Nat) : pw (k + 1) = pw k * 2 := Nat.pow_succ 2 k

set_option maxHeartbeats 400000 in
theorem l5Power_calls (r : Nat) (w : World) (hr : r ≤ 32) :
    Calls Tryd.prog 94 #[.int .i64 r] w fun e w' => e = .returned (.int .i64 (pw r : Nat)) ∧ w' = w := by
  go_enter Tryd.func94, Tryd.ntmps94
  go_wp2
  go_loop [3, 4] (fun v i => ∃ k : Nat, k ≤ r ∧ i = .int .i64 k ∧ v = .int .i64 (pw k : Nat)) (fun _ i => r - (intOf i).toNat)
  case atStart => exact ⟨0, Nat.zero_le _, rfl, rfl⟩
  case round =>
    obtain ⟨k, hk, rfl, rfl⟩ := hrel
    have hX := pw_le (r := k) (by omega)
    have HS : Hid (pw (k + 1) = pw k * 2) := pw_succ k
    by_cases hlt : k < r
    · generalize pw k = X at *
      go_wp2
      go_round
      case rel => exact ⟨k + 1, by omega, by go_num, by rw [HS.out]; go_num⟩
      case measure => simp [intOf]; omega
    · have e : k = r := by omega
      subst e
      go_wp2
      go_ret
      exact ⟨rfl, rfl⟩

set_option maxHeartbeats 400000 in
theorem l5Turn_calls (x r : Nat) (w : World) (hr : r ≤ 32) (hx : x < 4294967296) :
    Calls Tryd.prog 75 #[.int .i64 x, .int .i64 r] w fun e w' => e = .returned (.int .i64 (rotr r x : Nat)) ∧ ∃ m, w' = w.drewN m := by
  have C := l5Power_calls r w hr
  have HR : Hid (rotr r x = x / pw r + x % pw r * (4294967296 / pw r)) := by
    show rotr r x = x / 2 ^ r + x % 2 ^ r * (4294967296 / 2 ^ r)
    have e : 4294967296 = 2 ^ r * 2 ^ (32 - r) := by rw [← Nat.pow_add, show r + (32 - r) = 32 by omega]
    have e2 : 4294967296 / 2 ^ r = 2 ^ (32 - r) := by
      have := Nat.mul_div_cancel_left (2 ^ (32 - r)) (Nat.two_pow_pos r)
      rw [← e] at this
      exact this
    rw [e2, rotr]
  have HL := rotr_lt hr hx
  have hp : 1 ≤ pw r := Nat.two_pow_pos r
  have hX := pw_le hr
  rw [HR.out] at HL
  have hm := Nat.lt_of_le_of_lt (Nat.le_add_left _ _) HL
  generalize pw r = X at *
  go_enter Tryd.func75, Tryd.ntmps75
  have h0 : ((X : Int) == 0) = false := by simp; omega
  go_wp2_with fail
  refine C.mono ?_
  rintro e w1 ⟨rfl, rfl⟩
  have q1 : (x : Int).tdiv (X : Int) = ((x / X : Nat) : Int) := by rw [Int.tdiv_eq_ediv_of_nonneg (by omega)]; rfl
  have q2 : (x : Int).tmod (X : Int) = ((x % X : Nat) : Int) := by rw [Int.tmod_eq_emod_of_nonneg (by omega)]; rfl
  have q3 : (4294967296 : Int).tdiv (X : Int) = ((4294967296 / X : Nat) : Int) := by rw [Int.tdiv_eq_ediv_of_nonneg (by omega)]; rfl
  go_wp2
  go_quiet (fail)
  go_wp2
  go_ret
  exact ⟨ret_int (by rw [HR.out]; exact turn_num (x / X) (x % X) (4294967296 / X) HL (Nat.div_le_self _ _)), _, rfl⟩

theorem u64_mask (r : Nat) (h1 : 1 ≤ r) (h2 : r < 32) : bits .and .u64 (IntKind.u64.wrap (-(r : Int))) 31 = ((32 - r : Nat) : Int) := by
  have e : IntKind.u64.wrap (-(r : Int)) = ((18446744073709551616 - r : Nat) : Int) := by
    simp [IntKind.wrap, IntKind.bits, IntKind.signed]
    omega
  rw [e]
  have := u64_and_nat (18446744073709551616 - r) 31 (by omega) (by omega)
  rw [nat_mask5] at this
  rw [show (31 : Int) = ((31 : Nat) : Int) from rfl, this]
  omega

theorem rotl_num (x r : Nat) (hr : r < 32) (hx : x < 4294967296) : bits .or .u32 ((x : Int) * 2 ^ (32 - r) % 4294967296) ((x : Int) / 2 ^ (32 - (32 - r))) = (rotr r x : Nat) := by
  have e := u32_or_nat (x * 2 ^ (32 - r) % 4294967296) (x / 2 ^ r) (Nat.mod_lt _ (by omega)) (Nat.lt_of_le_of_lt (Nat.div_le_self _ _) hx)
  rw [rotr_join (by omega) hx] at e
  rw [show 32 - (32 - r) = r by omega, ← e]
  simp

set_option maxHeartbeats 400000 in
theorem rotl_calls (x r : Nat) (w : World) (h1 : 1 ≤ r) (hr : r < 32) (hx : x < 4294967296) :
    Calls Tryd.prog 101 #[.int .u32 x, .int .i64 (-(r : Int))] w fun e w' => e = .returned (.int .u32 (rotr r x : Nat)) ∧ w' = w := by
  have hk := u64_mask r h1 hr
  have hs : (0 : Int) ≤ ((32 - r : Nat) : Int) := by omega
  have hs2 : (0 : Int) ≤ 32 - ((32 - r : Nat) : Int) := by omega
  have hs3 : (32 : Int) - ((32 - r : Nat) : Int) < 18446744073709551616 := by omega
  go_enter Tryd.func101, Tryd.ntmps101
  go_wp2
  go_ret
  exact ⟨ret_int (rotl_num x r hr hx), rfl⟩

set_option maxHeartbeats 400000 in
theorem turned_calls (x r : Nat) (w : World) (h1 : 1 ≤ r) (hr : r < 32) (hx : x < 4294967296) :
    Calls Tryd.prog 96 #[.int .u32 x, .int .i64 r] w fun e w' => e = .returned (.int .u32 (rotr r x : Nat)) ∧ w' = w := by
  go_enter Tryd.func96, Tryd.ntmps96
  go_wp2_with fail
  refine (rotl_calls x r w h1 hr hx).mono ?_
  rintro e w1 ⟨rfl, rfl⟩
  go_wp2
  go_ret
  exact ⟨rfl, rfl⟩

set_option maxHeartbeats 400000 in
theorem l5High_calls (a : Option Addr) (n c : Nat) (l : List Int) (w : World) (h : Bs w a n c l) (hn : n = 4) :
    Calls Tryd.prog 93 #[.slice a n c] w fun e w' => e = .returned (.int .i64 (hi4 l 0 : Nat)) ∧ ∃ m, w' = w.drewN m := by
  subst hn
  obtain ⟨b, off, rfl, hbl, hc⟩ := h.at_ (by omega)
  have h0 : w.cell? ⟨b, off, none⟩ = _ := hc 0 (by omega); have h1 := hc 1 (by omega); have h2 := hc 2 (by omega); have h3 := hc 3 (by omega)
  have b0 := h.byte 0; have b1 := h.byte 1; have b2 := h.byte 2; have b3 := h.byte 3
  have HH : Hid (hi4 l 0 = (l.getD 0 0).toNat * 16777216 + (l.getD 1 0).toNat * 65536 + (l.getD 2 0).toNat * 256 + (l.getD 3 0).toNat) := rfl
  generalize l.getD 0 0 = B0 at *; generalize l.getD 1 0 = B1 at *; generalize l.getD 2 0 = B2 at *; generalize l.getD 3 0 = B3 at *
  clear h hc
  go_enter Tryd.func93, Tryd.ntmps93
  go_wp2
  go_quiet (fail)
  go_wp2
  go_ret
  exact ⟨ret_int (by rw [HH.out]; go_num), _, rfl⟩
end Go.Proofs.YthobegpfibfocaaDoor

/- The hasher: what stands in its block. -/
namespace Go.Proofs.YthobegpfibfocaaDoor
open Go.RowKit
set_option linter.unusedVariables false

/-- Words of 32 bits. -/
def ow (l : List Nat) : List Value := l.map fun n : Nat => .int .u32 (n : Int)
theorem ow_len (l : List Nat) : (ow l).length = l.length := by simp [ow]
theorem ow_getElem? (l : List Nat) (j : Nat) (h : j < l.length) : (ow l)[j]? = some (.int .u32 (l.getD j 0 : Nat)) := by simp [ow, List.getD, h]
theorem ow_set (l : List Nat) (i : Nat) (x : Nat) : (ow l).set i (.int .u32 (x : Int)) = ow (l.set i x) := by simp [ow, List.map_set]
theorem ow_all (l : List Nat) : (ow l).toArray.all (·.oneCell') = true := by
  rw [Array.all_eq_true_iff_forall_mem]
  intro v hv
  simp only [ow, List.mem_toArray, List.mem_map] at hv
  obtain ⟨n, _, rfl⟩ := hv
  rfl
theorem ow_size (l : List Nat) : (ow l).toArray.size = l.length := by simp [ow]

/-- The cells of a hasher. -/
def hx (v : R8) (ch : List Int) (s : Nat) : List Value := ow v.list ++ (ob ch ++ [.int .i64 (s : Int)])
theorem hx_word (v : R8) (ch : List Int) (s j : Nat) (h : j < 8) : (hx v ch s)[j]? = some (.int .u32 (v.list.getD j 0 : Nat)) := by
  unfold hx
  rw [List.getElem?_append_left (by rw [ow_len]; exact h)]
  exact ow_getElem? _ j h
theorem hx_chunk (v : R8) (ch : List Int) (s j : Nat) (hc : ch.length = 64) (h : j < 64) : (hx v ch s)[8 + j]? = some (.int .u8 (ch.getD j 0)) := by
  unfold hx
  have e : (ow v.list).length = 8 := rfl
  rw [List.getElem?_append_right (by omega), e, show 8 + j - 8 = j by omega, List.getElem?_append_left (by rw [ob_length]; omega)]
  exact ob_getElem? _ j (by omega)
theorem hx_size (v : R8) (ch : List Int) (s : Nat) (hc : ch.length = 64) : (hx v ch s)[72]? = some (.int .i64 (s : Int)) := by
  unfold hx
  have e : (ow v.list).length = 8 := rfl
  rw [List.getElem?_append_right (by omega), e, List.getElem?_append_right (by rw [ob_length]; omega), ob_length, hc]
  rfl
theorem hx_setWord (v : R8) (ch : List Int) (s j : Nat) (x : Nat) (h : j < 8) : (hx v ch s).set j (.int .u32 (x : Int)) = ow (v.list.set j x) ++ (ob ch ++ [.int .i64 (s : Int)]) := by
  unfold hx
  rw [List.set_append_left _ _ (by rw [ow_len]; exact h), ow_set]

/-- Block b is a hasher with these words, this chunk and this size. -/
structure IsH (w : World) (b : Nat) (v : R8) (ch : List Int) (s : Nat) : Prop where
  blk : Blk w 112 b (hx v ch s)
  len : ch.length = 64
  byte : IsB ch
  ok : v.Ok
  ne1 : b ≠ 0
  ne2 : b ≠ 1
theorem IsH.below {w w' : World} {b : Nat} {v : R8} {ch : List Int} {s : Nat} (h : IsH w b v ch s) (hb : Below w.heap.size w w') : IsH w' b v ch s := ⟨h.blk.below hb, h.len, h.byte, h.ok, h.ne1, h.ne2⟩

/-- The two tables stand. -/
structure Tabs (w : World) : Prop where
  s : ∀ j, j < 8 → w.cell? ⟨0, j, none⟩ = some (.int .u32 (startR.list.getD j 0 : Nat))
  k : ∀ j, j < 64 → w.cell? ⟨1, j, none⟩ = some (.int .u32 (kW.getD j 0 : Nat))
  lt : 0 < w.heap.size ∧ 1 < w.heap.size
theorem Tabs.below {w w' : World} (h : Tabs w) (hb : Below w.heap.size w w') : Tabs w' :=
  ⟨fun j hj => by rw [hb.cell (p := ⟨0, j, none⟩) h.lt.1]; exact h.s j hj, fun j hj => by rw [hb.cell (p := ⟨1, j, none⟩) h.lt.2]; exact h.k j hj, by have := hb.size; have := h.lt; omega⟩
theorem Tabs.only {w w' : World} {b : Nat} (h : Tabs w) (ho : OnlyB b w w') (h1 : b ≠ 0) (h2 : b ≠ 1) : Tabs w' :=
  ⟨fun j hj => by rw [World.cell?_of_block (a := ⟨0, j, none⟩) (ho.block _ h.lt.1 (Ne.symm h1))]; exact h.s j hj,
   fun j hj => by rw [World.cell?_of_block (a := ⟨1, j, none⟩) (ho.block _ h.lt.2 (Ne.symm h2))]; exact h.k j hj, by have := ho.size; have := h.lt; omega⟩

/-- One element of an array's value. -/
theorem run_index_agg {P : Program} (w : World) (t e : TypeId) (n : Nat) (cs : List Value) (j : Nat) (v : Value) (hu : P.underlying t = some (.array n e)) (d : TypeDesc) (he : P.underlying e = some d) (hd : (match d with | .struct _ | .array _ _ => true | _ => false) = false)
    (hi : (P.info? e).map (·.size) = some 1) (hj : j < n) (hc : cs[j]? = some v) :
    (Instr.index t (.agg cs.toArray) (.int .i64 (j : Int))).run P w = .ok v w := by
  have hagg : (isAgg e).run P w = .ok false w := by
    unfold isAgg
    rw [Sem.run_bind, run_underlying he w]
    cases d <;> simp_all
  cases hq : P.info? e with
  | none => simp [hq] at hi
  | some i =>
    have hs : i.size = 1 := by simpa [hq] using hi
    simp [Instr.index, asIntOf, Sem.run_bind, run_underlying hu w, hj, sizeOf, typeInfo, hq, hs, part, hagg, hc]
theorem size8 : (Tryd.prog.info? 5).map (·.size) = some 1 := by kernel_rfl
theorem size32 : (Tryd.prog.info? 108).map (·.size) = some 1 := by kernel_rfl
theorem sizeC : (Tryd.prog.info? 110).map (·.size) = some 64 := by kernel_rfl
theorem sizeV : (Tryd.prog.info? 109).map (·.size) = some 8 := by kernel_rfl
theorem sizeW : (Tryd.prog.info? 132).map (·.size) = some 64 := by kernel_rfl

/-- The words while the bytes are laid into them. -/
def spF (ch : List Int) : Nat → Nat → Nat
  | 0, _ => 0
  | i + 1, k => if k = i / 4 then spF ch i k * 256 % 4294967296 + (ch.getD i 0).toNat else spF ch i k
theorem spF_lo (ch : List Int) : ∀ i k, i ≤ 4 * k → spF ch i k = 0
  | 0, _, _ => rfl
  | i + 1, k, h => by
    rw [spF, if_neg (by omega)]
    exact spF_lo ch i k (by omega)
theorem spF_full (ch : List Int) (hb : ∀ i, 0 ≤ ch.getD i 0 ∧ ch.getD i 0 < 256) (k : Nat) : spF ch (4 * k + 4) k = hi4 ch k := by
  have h0 := hb (4 * k); have h1 := hb (4 * k + 1); have h2 := hb (4 * k + 2); have h3 := hb (4 * k + 3)
  have s1 : spF ch (4 * k + 1) k = (ch.getD (4 * k) 0).toNat := by rw [spF, if_pos (by omega), spF_lo ch (4 * k) k (by omega)]; omega
  have s2 : spF ch (4 * k + 2) k = (ch.getD (4 * k) 0).toNat * 256 % 4294967296 + (ch.getD (4 * k + 1) 0).toNat := by
    show spF ch (4 * k + 1 + 1) k = _
    rw [spF, if_pos (by omega), s1]
  have s3 : spF ch (4 * k + 3) k = ((ch.getD (4 * k) 0).toNat * 256 % 4294967296 + (ch.getD (4 * k + 1) 0).toNat) * 256 % 4294967296 + (ch.getD (4 * k + 2) 0).toNat := by
    show spF ch (4 * k + 2 + 1) k = _
    rw [spF, if_pos (by omega), s2]
  show spF ch (4 * k + 3 + 1) k = _
  rw [spF, if_pos (by omega), s3]
  unfold hi4
  omega
theorem spF_hi (ch : List Int) (k : Nat) : ∀ d, spF ch (4 * k + 4 + d) k = spF ch (4 * k + 4) k
  | 0 => rfl
  | d + 1 => by
    rw [show 4 * k + 4 + (d + 1) = (4 * k + 4 + d) + 1 from rfl, spF, if_neg (by omega)]
    exact spF_hi ch k d
theorem spF_end (ch : List Int) (hb : ∀ i, 0 ≤ ch.getD i 0 ∧ ch.getD i 0 < 256) (k : Nat) : spF ch 64 k = if k < 16 then hi4 ch k else 0 := by
  by_cases h : k < 16
  · rw [if_pos h, ← spF_full ch hb k]
    have := spF_hi ch k (60 - 4 * k)
    rw [show 4 * k + 4 + (60 - 4 * k) = 64 by omega] at this
    exact this
  · rw [if_neg h]; exact spF_lo ch 64 k (by omega)
theorem spF_lt (ch : List Int) (hb : ∀ i, 0 ≤ ch.getD i 0 ∧ ch.getD i 0 < 256) : ∀ i k, spF ch i k < 4294967296
  | 0, _ => by unfold spF; omega
  | i + 1, k => by
    have := spF_lt ch hb i k
    have := hb i
    unfold spF
    split
    · omega
    · exact spF_lt ch hb i k

/-- A row of 64 words, given by a function. -/
def fr (f : Nat → Nat) : List Nat := (List.range 64).map f
theorem fr_len (f : Nat → Nat) : (fr f).length = 64 := by simp [fr]
theorem fr_getD (f : Nat → Nat) (j : Nat) (h : j < 64) : (fr f).getD j 0 = f j := by simp [fr, List.getD, h]
theorem fr_set (f g : Nat → Nat) (j : Nat) (h : ∀ k, g k = if k = j then g j else f k) : (fr f).set j (g j) = fr g := by
  apply List.ext_getElem
  · simp [fr]
  · intro i h1 h2
    rw [List.getElem_set]
    simp only [fr, List.getElem_map, List.getElem_range]
    rw [h i]
    by_cases e : j = i
    · subst e; simp
    · rw [if_neg e, if_neg (Ne.symm e)]
theorem fr_congr {f g : Nat → Nat} (h : ∀ k, k < 64 → f k = g k) : fr f = fr g := by
  apply List.ext_getElem
  · simp [fr]
  · intro i h1 h2
    simp only [fr, List.getElem_map, List.getElem_range]
    exact h i (by simpa [fr] using h1)
/-- The words from the front up to t, and zeros. -/
def wF (ch : List Int) (t k : Nat) : Nat := if k < t then wAt ch k else 0
theorem wds_fr (ch : List Int) : wds ch 64 = fr (wAt ch) := by
  apply List.ext_getElem
  · simp [wds_len, fr]
  · intro i h1 h2
    have := wds_getD ch 64 i (by simpa [wds_len] using h1)
    simp only [fr, List.getElem_map, List.getElem_range]
    simpa [List.getD, h1] using this
end Go.Proofs.YthobegpfibfocaaDoor

/- The words of a chunk: the specification. -/
namespace Go.Proofs.YthobegpfibfocaaDoor
open Go.RowKit
set_option linter.unusedVariables false

/-- The words as numbers. -/
def wI (b : List Int) (k : Nat) : List Int := (wds b k).map fun n : Nat => (n : Int)
theorem wI_len (b : List Int) (k : Nat) : (wI b k).length = k := by simp [wI, wds_len]
theorem wI_succ (b : List Int) (k : Nat) : wI b (k + 1) = wI b k ++ [(wAt b k : Int)] := by simp [wI, wds_succ]
theorem wI_getD (b : List Int) (k i : Nat) (h : i < k) : (wI b k).getD i 0 = (wAt b i : Int) := by
  have := wds_getD b k i h
  rw [← this]
  simp [wI, List.getD, wds_len, h]
theorem hi4_shift (b : List Int) (i : Nat) (h : 4 * i + 4 ≤ b.length) : hi4 ((b.drop (4 * i)).take 4) 0 = hi4 b i := by
  simp [hi4, List.getD, List.getElem?_drop]

/-- A part of a row of bytes. -/
theorem Bs.part {w : World} {a : Option Addr} {n c : Nat} {l : List Int} (h : Bs w a n c l) (i j : Nat) (hij : i < j) (hj : j ≤ n) :
    ∃ b off, a = some ⟨b, off, none⟩ ∧ Bs w (some ⟨b, off + i, none⟩) (j - i) (c - i) ((l.drop i).take (j - i)) := by
  obtain ⟨b, off, e, hl, hc⟩ := h.at_ (by omega)
  have h1 := h.le
  have h2 := h.le'
  have h3 := h.len_eq
  refine ⟨b, off, e, by simp; omega, by omega, by omega, fun e => (by cases e), fun _ => ⟨b, off + i, rfl, hl, fun q hq => ?_⟩, fun q => ?_⟩
  · rw [Nat.add_assoc, hc (i + q) (by omega)]
    simp [List.getD, List.getElem?_drop, hq]
  · by_cases hq : q < j - i
    · have := h.byte (i + q)
      simpa [List.getD, List.getElem?_take, List.getElem?_drop, hq] using this
    · simp [List.getD, List.getElem?_take, hq]

theorem wrap_i64_in {n : Int} (h0 : -9223372036854775808 ≤ n) (h1 : n < 9223372036854775808) : IntKind.i64.wrap n = n := by
  simp [IntKind.wrap, IntKind.bits, IntKind.signed]
  omega
theorem sum4_num (a b c d : Nat) (ha : a < 4294967296) (hb : b < 4294967296) (hc : c < 4294967296) (hd : d < 4294967296) : (IntKind.i64.wrap (IntKind.i64.wrap ((a : Int) + (b : Int) + (c : Int)) + (d : Int))).tmod 4294967296 = (((a + b + c + d) % 4294967296 : Nat) : Int) := by
  rw [wrap_i64_in (n := (a : Int) + (b : Int) + (c : Int)) (by omega) (by omega), wrap_i64_in (by omega) (by omega), Int.tmod_eq_emod_of_nonneg (by omega)]
  omega
/-- The last word, in names. -/
theorem wAt_named (ch : List Int) (t : Nat) (h : 16 ≤ t) : ∃ x y p q, x = wAt ch (t - 15) ∧ y = wAt ch (t - 2) ∧ p = wAt ch (t - 7) ∧ q = wAt ch (t - 16) ∧ wAt ch t = (sg1 y + p + sg0 x + q) % 4294967296 :=
  ⟨_, _, _, _, rfl, rfl, rfl, rfl, wAt_hi ch h⟩

set_option maxHeartbeats 1600000 in
set_option maxRecDepth 100000 in
theorem l5Words_calls (a : Option Addr) (c : Nat) (ch : List Int) (w : World) (h : Bs w a 64 c ch) :
    Calls Tryd.prog 73 #[.slice a 64 c] w fun e w' => ∃ g c', e = .returned (.slice (some ⟨g, 0, none⟩) 64 c') ∧ Below w.heap.size w w' ∧ OwnI w.heap.size w' (some ⟨g, 0, none⟩) 64 c' (wI ch 64) := by
  go_enter Tryd.func73, Tryd.ntmps73
  go_wp2
  go_loopw [3, 4] (fun o i wr => ∃ j a c, j ≤ 16 ∧ i = .int .i64 (j : Nat) ∧ o = .slice a j c ∧ Below w.heap.size w wr ∧ OwnI w.heap.size wr a j c (wI ch j)) (fun _ i _ => 16 - (intOf i).toNat)
  case atStart =>
    refine ⟨0, _, 0, Nat.zero_le _, rfl, rfl, (Below.refl _ _).alloc (Nat.le_refl _) _, ?_⟩
    exact ownI_lit w #[] [] 0 rfl rfl (by omega) _ (Nat.le_refl _)
  case round =>
    obtain ⟨j, a2, c2, hj, rfl, rfl, hb, ho⟩ := hrel
    by_cases hlt : j < 16
    · obtain ⟨b, off, rfl, hp⟩ := h.part (4 * j) (4 * j + 4) (by omega) (by omega)
      have hcap := h.le
      have hne : ¬ c = 4 * j := by omega
      have hl := h.len_eq
      have hW : hi4 ((ch.drop (4 * j)).take 4) 0 = wAt ch j := by rw [hi4_shift ch j (by omega), wAt_lo ch hlt]
      have hlt2 := wAt_lt h.byte j
      rw [show 4 * j + 4 - 4 * j = 4 by omega] at hp
      go_wp2_with fail
      refine (l5High_calls _ 4 _ _ wr (hp.below hb) rfl).mono ?_
      rintro e w1 ⟨rfl, m1, rfl⟩
      rw [hW]
      have hb1 : Below w.heap.size w (wr.drewN m1) := below_drewN hb _
      have ho1 : OwnI w.heap.size (wr.drewN m1) a2 j c2 (wI ch j) := ho
      generalize wr.drewN m1 = w1 at *
      clear ho hb hp
      go_wp2_with (at_builtin; refine wpList_appI rfl _ _ rfl w.heap.size a2 j c2 (wI ch j) rfl ho1 _ rfl ?len ?B ?_)
      case len => omega
      case B => exact hb1.size
      intro a' c' w' ho' hb'
      have hb2 : Below w.heap.size w w' := hb1.trans hb'
      rw [← wI_succ] at ho'
      clear ho1 hb1 hb'
      go_wp2
      go_roundw
      case rel => exact ⟨j + 1, a', c', by omega, by go_num, rfl, hb2, ho'⟩
      case measure => simp [intOf]; omega
    · have hj2 : 16 ≤ j := by omega
      clear hlt
      go_wp2
      go_loopw [3, 5] (fun o i wr => ∃ t g c, 16 ≤ t ∧ t ≤ 64 ∧ i = .int .i64 (t : Nat) ∧ o = .slice (some ⟨g, 0, none⟩) t c ∧ Below w.heap.size w wr ∧ OwnI w.heap.size wr (some ⟨g, 0, none⟩) t c (wI ch t)) (fun _ i _ => 64 - (intOf i).toNat)
      case atStart =>
        obtain ⟨g, rfl, _, _⟩ := ho.addr (by omega)
        exact ⟨j, g, c2, hj2, by omega, by rw [show j = 16 by omega]; rfl, rfl, hb, ho⟩
      case round =>
        clear ho hb
        obtain ⟨t, g, c3, ht, ht2, rfl, rfl, hb, ho⟩ := hrel
        by_cases hlt : t < 64
        · have hbs := h.byte
          obtain ⟨x, y, p, q, ex, ey, ep, eq, hW⟩ := wAt_named ch t ht
          have hx : x < 4294967296 := by rw [ex]; exact wAt_lt hbs _
          have hy : y < 4294967296 := by rw [ey]; exact wAt_lt hbs _
          have hp : p < 4294967296 := by rw [ep]; exact wAt_lt hbs _
          have hq : q < 4294967296 := by rw [eq]; exact wAt_lt hbs _
          have cx : wr.cell? ⟨g, t - 15, none⟩ = some (.int .i64 (x : Nat)) := by rw [ho.cell (t - 15) (by omega), wI_getD _ _ _ (by omega), ex]
          have cy : wr.cell? ⟨g, t - 2, none⟩ = some (.int .i64 (y : Nat)) := by rw [ho.cell (t - 2) (by omega), wI_getD _ _ _ (by omega), ey]
          have cp : wr.cell? ⟨g, t - 7, none⟩ = some (.int .i64 (p : Nat)) := by rw [ho.cell (t - 7) (by omega), wI_getD _ _ _ (by omega), ep]
          have cq : wr.cell? ⟨g, t - 16, none⟩ = some (.int .i64 (q : Nat)) := by rw [ho.cell (t - 16) (by omega), wI_getD _ _ _ (by omega), eq]
          have r1 := rotr_lt (r := 7) (by omega) hx
          have r2 := rotr_lt (r := 18) (by omega) hx
          have r3 := rotr_lt (r := 17) (by omega) hy
          have r4 := rotr_lt (r := 19) (by omega) hy
          have k1 := i64_xor_nat _ _ r1 r2
          have k2 := i64_xor_nat _ _ r3 r4
          have k3 : bits .xor .i64 ((rotr 7 x ^^^ rotr 18 x : Nat) : Int) ((x : Int) / 8) = (sg0 x : Nat) := i64_xor_nat _ (x / 8) (xlt r1 r2) (by omega)
          have k4 : bits .xor .i64 ((rotr 17 y ^^^ rotr 19 y : Nat) : Int) ((y : Int) / 1024) = (sg1 y : Nat) := i64_xor_nat _ (y / 1024) (xlt r3 r4) (by omega)
          have s0 := sg0_lt hx
          have s1 := sg1_lt hy
          have T1 : ∀ w, _ := fun w => l5Turn_calls x 7 w (by omega) hx
          have T2 : ∀ w, _ := fun w => l5Turn_calls x 18 w (by omega) hx
          have T3 : ∀ w, _ := fun w => l5Turn_calls y 17 w (by omega) hy
          have T4 : ∀ w, _ := fun w => l5Turn_calls y 19 w (by omega) hy
          have HT : Hid _ := And.intro T1 (And.intro T2 (And.intro T3 T4))
          have HW : Hid _ := hW
          have HO : Hid _ := ho
          have HB : Hid _ := hb
          clear T1 T2 T3 T4 ex ey ep eq hW ho hb hbs
          generalize rotr 7 x ^^^ rotr 18 x = A at *
          generalize rotr 17 y ^^^ rotr 19 y = C at *
          generalize rotr 7 x = R1 at *
          generalize rotr 18 x = R2 at *
          generalize rotr 17 y = R3 at *
          generalize rotr 19 y = R4 at *
          generalize sg0 x = S0 at *
          generalize sg1 y = S1 at *
          go_wp2_with fail
          refine (HT.out.1 _).mono ?_
          rintro e w1 ⟨rfl, m1, rfl⟩
          go_wp2_with fail
          refine (HT.out.2.1 _).mono ?_
          rintro e w1 ⟨rfl, m2, rfl⟩
          go_wp2_with fail
          refine (HT.out.2.2.1 _).mono ?_
          rintro e w1 ⟨rfl, m3, rfl⟩
          go_wp2_with fail
          refine (HT.out.2.2.2 _).mono ?_
          rintro e w1 ⟨rfl, m4, rfl⟩
          go_wp2_with fail
          have e7 : IntKind.i64.wrap ((t : Int) - 7) = ((t - 7 : Nat) : Int) := by rw [wrap_i64_in (by omega) (by omega)]; omega
          have e16 : IntKind.i64.wrap ((t : Int) - 16) = ((t - 16 : Nat) : Int) := by rw [wrap_i64_in (by omega) (by omega)]; omega
          have l7 : ((t - 7 : Nat) : Int) < (t : Int) := by omega
          have l16 : ((t - 16 : Nat) : Int) < (t : Int) := by omega
          have n7 : 0 ≤ ((t - 7 : Nat) : Int) := by omega
          have n16 : 0 ≤ ((t - 16 : Nat) : Int) := by omega
          have z1 : IntKind.i64.wrap ((S1 : Int) + (p : Int)) = ((S1 + p : Nat) : Int) := wrap_i64_in (by omega) (by omega)
          have z2 : IntKind.i64.wrap (((S1 + p : Nat) : Int) + (S0 : Int)) = ((S1 + p + S0 : Nat) : Int) := wrap_i64_in (by omega) (by omega)
          have z3 : IntKind.i64.wrap (((S1 + p + S0 : Nat) : Int) + (q : Int)) = ((S1 + p + S0 + q : Nat) : Int) := wrap_i64_in (by omega) (by omega)
          have hgl : g < wr.heap.size := by
            obtain ⟨g', e1, _, h2⟩ := OwnI.addr HO.out (by omega)
            cases e1; exact h2
          have KEY : Hid (∀ v : World, Below wr.heap.size wr v → v.cell? ⟨g, t - 7, none⟩ = some (.int .i64 (p : Nat)) ∧ v.cell? ⟨g, t - 16, none⟩ = some (.int .i64 (q : Nat))) := fun v bv =>
            ⟨(bv.cell (p := ⟨g, t - 7, none⟩) hgl).trans cp, (bv.cell (p := ⟨g, t - 16, none⟩) hgl).trans cq⟩
          refine wp_regionD (fun v => v.cell? ⟨g, t - 7, none⟩ = some (.int .i64 (p : Nat)) ∧ v.cell? ⟨g, t - 16, none⟩ = some (.int .i64 (q : Nat))) (fun j => decide (18 ≤ j)) (by kernel_rfl) ?_
          have hS0 := And.intro cp cq
          refine wpAnyD_takeT 0 56 (v := ?vv0) rfl rfl (by kernel_rfl) (by kernel_rfl) (by kernel_rfl) (by kernel_rfl) (fun _ _ _ h => h) (Or.inl ⟨by rfl, ?hy0⟩) hS0 ?rest0
          case hy0 => (intro w hSw; (try dsimp only at hSw); go_simp; try with_reducible rfl)
          simp only [Act.put, List.setIfInBounds_toArray, List.set_cons_zero, List.set_cons_succ]
          refine wpAnyD_takeT 1 57 (v := ?vv1) rfl rfl (by kernel_rfl) (by kernel_rfl) (by kernel_rfl) (by kernel_rfl) (fun _ _ _ h => h) (Or.inl ⟨by rfl, ?hy1⟩) hS0 ?rest1
          case hy1 => (intro w hSw; (try dsimp only at hSw); go_simp; try with_reducible rfl)
          simp only [Act.put, List.setIfInBounds_toArray, List.set_cons_zero, List.set_cons_succ]
          refine wpAnyD_takeT 2 58 (v := ?vv2) rfl rfl (by kernel_rfl) (by kernel_rfl) (by kernel_rfl) (by kernel_rfl) (fun _ _ _ h => h) (Or.inl ⟨by rfl, ?hy2⟩) hS0 ?rest2
          case hy2 => (intro w hSw; (try dsimp only at hSw); go_simp; try with_reducible rfl)
          simp only [Act.put, List.setIfInBounds_toArray, List.set_cons_zero, List.set_cons_succ]
          refine wpAnyD_takeT 3 59 (v := ?vv3) rfl rfl (by kernel_rfl) (by kernel_rfl) (by kernel_rfl) (by kernel_rfl) (fun _ _ _ h => h) (Or.inl ⟨by rfl, ?hy3⟩) hS0 ?rest3
          case hy3 => (intro w hSw; (try dsimp only at hSw); go_simp; try with_reducible rfl)
          simp only [Act.put, List.setIfInBounds_toArray, List.set_cons_zero, List.set_cons_succ]
          refine wpAnyD_takeT 4 60 (v := ?vv4) rfl rfl (by kernel_rfl) (by kernel_rfl) (by kernel_rfl) (by kernel_rfl) (fun _ _ _ h => h) (Or.inl ⟨by rfl, ?hy4⟩) hS0 ?rest4
          case hy4 => (intro w hSw; (try dsimp only at hSw); go_simp; try with_reducible rfl)
          simp only [Act.put, List.setIfInBounds_toArray, List.set_cons_zero, List.set_cons_succ]
          refine wpAnyD_takeT 5 61 (v := ?vv5) rfl rfl (by kernel_rfl) (by kernel_rfl) (by kernel_rfl) (by kernel_rfl) (fun _ _ _ h => h) (Or.inl ⟨by rfl, ?hy5⟩) hS0 ?rest5
          case hy5 => (intro w hSw; (try dsimp only at hSw); go_simp; try with_reducible rfl)
          simp only [Act.put, List.setIfInBounds_toArray, List.set_cons_zero, List.set_cons_succ]
          refine wpAnyD_takeT 6 62 (v := ?vv6) rfl rfl (by kernel_rfl) (by kernel_rfl) (by kernel_rfl) (by kernel_rfl) (fun _ _ _ h => h) (Or.inl ⟨by rfl, ?hy6⟩) hS0 ?rest6
          case hy6 => (intro w hSw; (try dsimp only at hSw); go_simp; try with_reducible rfl)
          simp only [Act.put, List.setIfInBounds_toArray, List.set_cons_zero, List.set_cons_succ]
          refine wpAnyD_takeT 7 63 (v := ?vv7) rfl rfl (by kernel_rfl) (by kernel_rfl) (by kernel_rfl) (by kernel_rfl) (fun _ _ _ h => h) (Or.inl ⟨by rfl, ?hy7⟩) hS0 ?rest7
          case hy7 => (intro w hSw; (try dsimp only at hSw); go_simp; try with_reducible rfl)
          simp only [Act.put, List.setIfInBounds_toArray, List.set_cons_zero, List.set_cons_succ]
          refine wpAnyD_takeT 8 64 (v := ?vv8) rfl rfl (by kernel_rfl) (by kernel_rfl) (by kernel_rfl) (by kernel_rfl) (fun _ _ _ h => h) (Or.inl ⟨by rfl, ?hy8⟩) hS0 ?rest8
          case hy8 => (intro w hSw; (try dsimp only at hSw); go_simp; try with_reducible rfl)
          simp only [Act.put, List.setIfInBounds_toArray, List.set_cons_zero, List.set_cons_succ]
          refine wpAnyD_takeT 9 65 (v := ?vv9) rfl rfl (by kernel_rfl) (by kernel_rfl) (by kernel_rfl) (by kernel_rfl) (fun _ _ _ h => h) (Or.inl ⟨by rfl, ?hy9⟩) hS0 ?rest9
          case hy9 => (intro w hSw; (try dsimp only at hSw); go_simp; try with_reducible rfl)
          simp only [Act.put, List.setIfInBounds_toArray, List.set_cons_zero, List.set_cons_succ]
          refine wpAnyD_takeT 10 66 (v := ?vv10) rfl rfl (by kernel_rfl) (by kernel_rfl) (by kernel_rfl) (by kernel_rfl) (fun _ _ _ h => h) (Or.inl ⟨by rfl, ?hy10⟩) hS0 ?rest10
          case hy10 => (intro w hSw; (try dsimp only at hSw); go_simp; try with_reducible rfl)
          simp only [Act.put, List.setIfInBounds_toArray, List.set_cons_zero, List.set_cons_succ]
          refine wpAnyD_takeT 11 67 (v := ?vv11) rfl rfl (by kernel_rfl) (by kernel_rfl) (by kernel_rfl) (by kernel_rfl) (fun _ _ _ h => h) (Or.inl ⟨by rfl, ?hy11⟩) hS0 ?rest11
          case hy11 => (intro w hSw; (try dsimp only at hSw); go_simp; try with_reducible rfl)
          simp only [Act.put, List.setIfInBounds_toArray, List.set_cons_zero, List.set_cons_succ]
          refine wpAnyD_takeT 12 68 (v := ?vv12) rfl rfl (by kernel_rfl) (by kernel_rfl) (by kernel_rfl) (by kernel_rfl) (fun _ _ _ h => h) (Or.inl ⟨by rfl, ?hy12⟩) hS0 ?rest12
          case hy12 => (intro w hSw; (try dsimp only at hSw); go_simp; try with_reducible rfl)
          simp only [Act.put, List.setIfInBounds_toArray, List.set_cons_zero, List.set_cons_succ]
          refine wpAnyD_takeT 13 69 (v := ?vv13) rfl rfl (by kernel_rfl) (by kernel_rfl) (by kernel_rfl) (by kernel_rfl) (fun _ _ _ h => h) (Or.inl ⟨by rfl, ?hy13⟩) hS0 ?rest13
          case hy13 => (intro w hSw; (try dsimp only at hSw); go_simp; try with_reducible rfl)
          simp only [Act.put, List.setIfInBounds_toArray, List.set_cons_zero, List.set_cons_succ]
          refine wpAnyD_takeT 14 70 (v := ?vv14) rfl rfl (by kernel_rfl) (by kernel_rfl) (by kernel_rfl) (by kernel_rfl) (fun _ _ _ h => h) (Or.inl ⟨by rfl, ?hy14⟩) hS0 ?rest14
          case hy14 => (intro w hSw; (try dsimp only at hSw); go_simp; try with_reducible rfl)
          simp only [Act.put, List.setIfInBounds_toArray, List.set_cons_zero, List.set_cons_succ]
          refine wpAnyD_takeT 15 71 (v := ?vv15) rfl rfl (by kernel_rfl) (by kernel_rfl) (by kernel_rfl) (by kernel_rfl) (fun _ _ _ h => h) (Or.inl ⟨by rfl, ?hy15⟩) hS0 ?rest15
          case hy15 => (intro w hSw; (try dsimp only at hSw); go_simp; try with_reducible rfl)
          simp only [Act.put, List.setIfInBounds_toArray, List.set_cons_zero, List.set_cons_succ]
          refine wpAnyD_takeT 16 72 (v := ?vv16) rfl rfl (by kernel_rfl) (by kernel_rfl) (by kernel_rfl) (by kernel_rfl) (fun _ _ _ h => h) (Or.inl ⟨by rfl, ?hy16⟩) hS0 ?rest16
          case hy16 => (intro w hSw; (try dsimp only at hSw); go_simp; try with_reducible rfl)
          simp only [Act.put, List.setIfInBounds_toArray, List.set_cons_zero, List.set_cons_succ]
          refine wpAnyD_one 17 (by kernel_rfl) rfl (fun KK hK => ?_)
          go_simp
          refine hK.out _ _ (fun _ => KEY.out _ ((below_drewN (Below.refl _ _) _).alloc (Nat.le_refl _) _)) ?_
          clear hK KK
          refine wpAnyD_one 18 (by kernel_rfl) rfl (fun KK hK => ?_)
          refine step_appI rfl _ _ rfl w.heap.size (some ⟨g, 0, none⟩) t c3 (wI ch t) rfl ?_ _ ?_ (by omega) ?_ ?_
          · exact HO.out
          · rfl
          · exact HB.out.size
          intro a4 c4 w4 o4 b4
          refine hK.out _ _ (fun h => by cases h) ?_
          clear hK KK
          refine wpAnyD_one 19 (by kernel_rfl) rfl (fun KK hK => ?_)
          go_simp
          refine hK.out _ _ (fun h => by cases h) ?_
          clear hK KK
          refine wpAnyD_done (by kernel_rfl) ?_ _
          obtain ⟨g4, rfl, hg4, hg5⟩ := OwnI.addr o4 (by omega)
          have b5 : Below w.heap.size w w4 := (below_drewN HB.out _).trans b4
          clear HO HB b4 HT
          go_wp2
          go_roundw
          case rel =>
            refine ⟨t + 1, g4, c4, by omega, by omega, by go_num, rfl, b5, ?_⟩
            rw [wI_succ, HW.out, ← sum4_num S1 p S0 q s1 hp s0 hq]
            exact o4
          case measure => simp [intOf]; omega
        · have e : t = 64 := by omega
          subst e
          go_wp2
          go_ret
          exact ⟨g, c3, rfl, hb, ho⟩
end Go.Proofs.YthobegpfibfocaaDoor

