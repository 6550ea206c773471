import Derived.Test.YtljpkbapoaafkaaDB2
import Derived.Test.YtljpkbapoaafkaaDB0
/- A whole array or struct out of the middle of a block. -/
namespace Go.Proofs.Ytljpkbapoaafkaa
open Go.RowKit
set_option linter.unusedVariables false

/-- A whole array out of the middle of a block. -/
theorem run_loadVar_at {P : Program} (w : World) (g off : Nat) (ty : TypeId) (cs : List Value) (d : TypeDesc) (hc : ∀ j v, cs[j]? = some v → w.cell? ⟨g, off + j, none⟩ = some v)
    (hu : P.underlying ty = some d) (hd : (match d with | .struct _ | .array _ _ => true | _ => false) = true) (hi : (P.info? ty).map (·.size) = some cs.length) :
    (loadVar ty ⟨g, off, none⟩).run P w = .ok (.agg cs.toArray) w := by
  have hl : (loadCells ⟨g, off, none⟩ cs.length).run P w = .ok cs.toArray w :=
    run_loadCells_list (P := P) w ⟨g, off, none⟩ cs (fun j v hv => by rw [Addr.add_lit]; exact hc j v hv)
  cases hq : P.info? ty with
  | none => simp [hq] at hi
  | some i =>
    have hs : i.size = cs.length := by simpa [hq] using hi
    have hagg : (isAgg ty).run P w = .ok true w := by
      unfold isAgg
      rw [Sem.run_bind, run_underlying hu w]
      cases d <;> simp_all
    simp [loadVar, Sem.run_bind, hagg, sizeOf, typeInfo, hq, hs, hl]
theorem wpList_load_at {P : Program} {ops : Array Oper} {rest : List Oper} {o : Oper} {a : Act} {w : World} {Q : Exit → Act → World → Prop} (hgd : o.guard = none) (ty : TypeId) (x : Operand) (ho : o.op = .load ty x)
    (g off : Nat) (hx : a.eval x = .pointer (some ⟨g, off, none⟩)) (cs : List Value) (d : TypeDesc) (hc : ∀ j v, cs[j]? = some v → w.cell? ⟨g, off + j, none⟩ = some v)
    (hu : P.underlying ty = some d) (hd : (match d with | .struct _ | .array _ _ => true | _ => false) = true) (hi : (P.info? ty).map (·.size) = some cs.length)
    (h : wpList P ops Q rest (a.put o.dst (.agg cs.toArray)) w) : wpList P ops Q (o :: rest) a w :=
  wpList_plain hgd fun _ hK => by
    unfold Oper.wp execOp
    simp only [ho, hx, Instr.loadAt, Instr.sureAddr, Sem.run_bind, Sem.run_pure, Result.andThen_ok, run_loadVar_at w g off ty cs d hc hu hd hi]
    exact hK _ _ h
/-- A load, as what one operation yields. -/
theorem yield_load {P : Program} {w : World} {t : TypeId} {ρ : Operand → Value} {x : Operand} {o : Oper} {p v : Value} (ho : o.op = .load t x) (hx : ρ x = p) (h : (Instr.loadAt t p).run P w = .ok v w) : (execOp ρ o).run P w = .ok (.value v) w := by
  unfold execOp
  simp only [ho, hx, Sem.run_bind, h, Result.andThen_ok, Sem.run_pure]

end Go.Proofs.Ytljpkbapoaafkaa

namespace Go.Proofs.Ytljpkbapoaafkaa
open Go.RowKit

/-- A number in k bytes, the least first. -/
def num (v : Int) (k : Nat) : List Int := (List.range k).map fun i => v / 256 ^ i % 256

theorem num_len (v : Int) (k : Nat) : (num v k).length = k := by simp [num]
theorem num_snoc (v : Int) (k : Nat) : num v (k + 1) = num v k ++ [v / 256 ^ k % 256] := by simp [num, List.range_succ]
theorem num_isB (v : Int) (k : Nat) : IsB (num v k) := fun i => by
  by_cases h : i < k
  · simp [num, List.getD, h]; omega
  · simp [num, List.getD, h]
theorem div_pow_succ (v : Int) (k : Nat) : v / 256 ^ k / 256 = v / 256 ^ (k + 1) := by
  rw [Int.pow_succ, ← Int.ediv_ediv_of_nonneg (Int.pow_nonneg (by omega))]

theorem div_pow_bd (v : Int) (k : Nat) (h0 : 0 ≤ v) (h1 : v ≤ 9223372036854775807) : 0 ≤ v / 256 ^ k ∧ v / 256 ^ k ≤ 9223372036854775807 := by
  have hp : (0 : Int) < 256 ^ k := Int.pow_pos (by omega)
  refine ⟨Int.ediv_nonneg h0 (Int.le_of_lt hp), ?_⟩
  exact Int.le_trans (Int.ediv_le_self _ h0) h1

set_option maxHeartbeats 400000 in
theorem l2Num_calls (v : Int) (k : Nat) (w : World) (h0 : 0 ≤ v) (h1 : v ≤ 9223372036854775807) (hk : k ≤ 8) :
    Calls Try.prog 32 #[.int .i64 v, .int .i64 k] w fun e w' => ∃ a c, e = .returned (.slice a k c) ∧ Below w.heap.size w w' ∧ Own w.heap.size w' a k c (num v k) := by
  go_enter Try.func32, Try.ntmps32
  go_wp2
  go_loopw [0, 5, 6] (fun x o i wr => ∃ j a c, j ≤ k ∧ i = .int .i64 (j : Nat) ∧ o = .slice a j c ∧ x = .int .i64 (v / 256 ^ j) ∧ Below w.heap.size w wr ∧ Own w.heap.size wr a j c (num v j)) (fun _ _ i _ => k - (intOf i).toNat)
  case atStart => 
    refine ⟨0, _, 0, Nat.zero_le _, rfl, rfl, by simp, (Below.refl _ _).alloc (Nat.le_refl _) _, ?_⟩
    exact own_lit w [] 0 rfl (by omega) _ (Nat.le_refl _)
  case round =>
    obtain ⟨j, a, c, hj, rfl, rfl, rfl, hb, ho⟩ := hrel
    have hd := div_pow_bd v j h0 h1
    have HS : Hid (v / 256 ^ j / 256 = v / 256 ^ (j + 1)) := div_pow_succ v j
    have HN : Hid (num v (j + 1) = num v j ++ [v / 256 ^ j % 256]) := num_snoc v j
    generalize v / 256 ^ j = x at *
    by_cases hlt : j < k
    · go_wp2_with (at_builtin; refine wpList_app rfl _ _ rfl w.heap.size a j c (num v j) rfl ?own _ 1 1 [x % 256] rfl ?bs ?len ?B ?_)
      case own => exact World.ownsRow.alloc ho _
      case bs => exact bs_lit1 wr (x % 256) (by omega) (by omega)
      case len => omega
      case B => have := hb.size; simp; omega
      intro a' c' w' ho' hb' _
      have hb2 : Below w.heap.size w w' := (hb.alloc hb.size _).trans hb'
      clear ho hb hb'
      go_wp2
      go_roundw
      case rel => exact ⟨j + 1, a', c', by omega, by go_num, rfl, by rw [← HS.out], hb2, by rw [HN.out]; exact ho'⟩
      case measure => simp [intOf]; omega
    · have e : j = k := by omega
      subst e
      go_wp2
      go_ret
      exact ⟨a, c, rfl, hb, ho⟩

set_option maxHeartbeats 400000 in
theorem appendNumber_calls (B : Nat) (a : Option Addr) (n c : Nat) (xs : List Int) (v : Int) (k : Nat) (w : World) (hown : Own B w a n c xs) (hB : B ≤ w.heap.size) (hn : n ≤ 1048576) (h0 : 0 ≤ v) (h1 : v ≤ 9223372036854775807) (hk : k ≤ 8) :
    Calls Try.prog 63 #[.slice a n c, .int .i64 v, .int .i64 k] w fun e w' => ∃ a c, e = .returned (.slice a (n + k) c) ∧ Below B w w' ∧ Own B w' a (n + k) c (xs ++ num v k) := by
  go_enter Try.func63, Try.ntmps63
  go_wp2
  go_loopw [0, 1, 8] (fun o x i wr => ∃ j a c, j ≤ k ∧ i = .int .i64 (j : Nat) ∧ o = .slice a (n + j) c ∧ x = .int .i64 (v / 256 ^ j) ∧ Below B w wr ∧ Own B wr a (n + j) c (xs ++ num v j)) (fun _ _ i _ => k - (intOf i).toNat)
  case atStart => exact ⟨0, a, c, Nat.zero_le _, rfl, rfl, by simp, Below.refl _ _, by simpa [num] using hown⟩
  case round =>
    obtain ⟨j, a, c, hj, rfl, rfl, rfl, hb, ho⟩ := hrel
    have hd := div_pow_bd v j h0 h1
    have HS : Hid (v / 256 ^ j / 256 = v / 256 ^ (j + 1)) := div_pow_succ v j
    have HN : Hid (num v (j + 1) = num v j ++ [v / 256 ^ j % 256]) := num_snoc v j
    generalize v / 256 ^ j = x at *
    by_cases hlt : j < k
    · go_wp2_with (at_builtin; refine wpList_app rfl _ _ rfl B a (n + j) c (xs ++ num v j) rfl ?own _ 1 1 [x % 256] rfl ?bs ?len ?B ?_)
      case own => exact World.ownsRow.alloc ho _
      case bs => exact bs_lit1 wr (x % 256) (by omega) (by omega)
      case len => omega
      case B => have := hb.size; simp; omega
      intro a' c' w' ho' hb' _
      have hb2 : Below B w w' := (hb.alloc (Nat.le_trans hB hb.size) _).trans hb'
      clear ho hb hb'
      go_wp2
      go_roundw
      case rel => exact ⟨j + 1, a', c', by omega, by go_num, rfl, by rw [← HS.out], hb2, by rw [HN.out]; exact ho'⟩
      case measure => simp [intOf]; omega
    · have e : j = k := by omega
      subst e
      go_wp2
      go_ret
      exact ⟨a, c, rfl, hb, ho⟩
end Go.Proofs.Ytljpkbapoaafkaa

