import Derived.Test.YtjjfgoeibcmfkaaDoorNum
namespace Go.Proofs.YtjjfgoeibcmfkaaDoor
open Go.RowKit

/-- The values that a page's head may bear. -/
def headOk (id kind n : Int) : Bool := decide (0 ≤ id ∧ id ≤ 1023 ∧ 1 ≤ kind ∧ kind ≤ 4 ∧ n ≤ 240)

set_option maxHeartbeats 400000 in
theorem fits_yes (id kind n : Int) (w : World) (h : headOk id kind n = true) :
    Calls Tryd.prog 87 #[.agg #[.int .i64 id, .int .i64 kind, .int .i64 n]] w fun e w' => e = .returned (.bool true) ∧ Below w.heap.size w w' := by
  obtain ⟨h1, h2, h3, h4, h5⟩ := of_decide_eq_true h
  clear h
  go_enter Tryd.func87, Tryd.ntmps87
  go_wp2
  go_ret
  exact ⟨rfl, (Below.refl _ _).alloc (Nat.le_refl _) _⟩

set_option maxHeartbeats 1000000 in
theorem fits_no (id kind n : Int) (w : World) (h : headOk id kind n = false) :
    Calls Tryd.prog 87 #[.agg #[.int .i64 id, .int .i64 kind, .int .i64 n]] w fun e w' => e = .returned (.bool false) ∧ Below w.heap.size w w' := by
  have h' := of_decide_eq_false h
  clear h
  by_cases h1 : 0 ≤ id
  · by_cases h2 : id < 1024
    · by_cases h3 : 1 ≤ kind
      · by_cases h4 : kind ≤ 4
        · have h5 : ¬ n ≤ 240 := by omega
          clear h'
          have d5 : decide (n ≤ 240) = false := by simpa using h5
          go_enter Tryd.func87, Tryd.ntmps87
          go_wp2
          go_ret
          exact ⟨rfl, (Below.refl _ _).alloc (Nat.le_refl _) _⟩
        · clear h'
          have d5 : decide (kind ≤ 4) = false := by simpa using h4
          go_enter Tryd.func87, Tryd.ntmps87
          go_wp2
          go_ret
          exact ⟨rfl, (Below.refl _ _).alloc (Nat.le_refl _) _⟩
      · clear h'
        have d5 : decide (1 ≤ kind) = false := by simpa using h3
        go_enter Tryd.func87, Tryd.ntmps87
        go_wp2
        go_ret
        exact ⟨rfl, (Below.refl _ _).alloc (Nat.le_refl _) _⟩
    · clear h'
      have d5 : decide (id < 1024) = false := by simpa using h2
      go_enter Tryd.func87, Tryd.ntmps87
      go_wp2
      go_ret
      exact ⟨rfl, (Below.refl _ _).alloc (Nat.le_refl _) _⟩
  · clear h'
    have d5 : decide (0 ≤ id) = false := by simpa using h1
    go_enter Tryd.func87, Tryd.ntmps87
    go_wp2
    go_ret
    exact ⟨rfl, (Below.refl _ _).alloc (Nat.le_refl _) _⟩

/-- A page's head behind its checksum. -/
def head (id kind n : Int) : List Int := num id 4 ++ [kind, 0] ++ num n 2 ++ num 0 4

set_option maxHeartbeats 1000000 in
theorem bytes_calls (id kind n : Int) (w : World) (h : headOk id kind n = true) (hn : 0 ≤ n) :
    Calls Tryd.prog 89 #[.agg #[.int .i64 id, .int .i64 kind, .int .i64 n]] w fun e w' => ∃ a c, e = .returned (.slice a 12 c) ∧ Below w.heap.size w w' ∧ Own w.heap.size w' a 12 c (head id kind n) := by
  obtain ⟨h1, h2, h3, h4, h5⟩ := of_decide_eq_true h
  clear h
  go_enter Tryd.func89, Tryd.ntmps89
  go_wp2_with fail
  refine (appendNumber_calls (w.heap.size + 1) none 0 0 [] id 4 _ (own_nil _ _) (by simp) (by omega) h1 (by omega) (by omega)).mono ?_
  rintro e w1 ⟨a1, c1, rfl, hb1, ho1⟩
  have k1 : w1.cell? ⟨w.heap.size, 1, none⟩ = some (.int .i64 kind) := by rw [hb1.cell (p := ⟨w.heap.size, 1, none⟩) (Nat.lt_succ_self _)]; simp
  have k2 : w1.cell? ⟨w.heap.size, 2, none⟩ = some (.int .i64 n) := by rw [hb1.cell (p := ⟨w.heap.size, 2, none⟩) (Nat.lt_succ_self _)]; simp
  have z1 : w.heap.size + 1 ≤ w1.heap.size := by have := hb1.size; simpa using this
  have b1 : Below w.heap.size w w1 := ((Below.refl _ _).alloc (Nat.le_refl _) _).trans (hb1.mono (Nat.le_succ _))
  clear hb1
  go_wp2_with (at_builtin; refine wpList_app rfl _ _ rfl (w.heap.size + 1) a1 4 c1 ([] ++ num id 4) rfl ?own _ 2 2 [kind, 0] rfl ?bs ?len ?B ?_)
  case own => exact World.ownsRow.alloc ho1 _
  case bs => exact bs_lit2 w1 kind 0 (by omega) (by omega) (by omega) (by omega)
  case len => omega
  case B => simp; omega
  intro a2 c2 w2 ho2 hb2 _
  have q1 : w2.cell? ⟨w.heap.size, 2, none⟩ = some (.int .i64 n) := by rw [hb2.cell (p := ⟨w.heap.size, 2, none⟩) (Nat.lt_succ_self _), ((Below.refl w1.heap.size w1).alloc (Nat.le_refl _) _).cell (p := ⟨w.heap.size, 2, none⟩) z1]; exact k2
  have z2 : w.heap.size + 1 ≤ w2.heap.size := by have := hb2.size; simp at this; omega
  have b2 : Below w.heap.size w w2 := (b1.alloc b1.size _).trans (hb2.mono (Nat.le_succ _))
  clear hb2 k1 k2 b1 ho1
  go_wp2_with fail
  refine (appendNumber_calls (w.heap.size + 1) a2 6 c2 _ n 2 _ ho2 z2 (by omega) hn (by omega) (by omega)).mono ?_
  rintro e w3 ⟨a3, c3, rfl, hb3, ho3⟩
  have z3 : w.heap.size + 1 ≤ w3.heap.size := by have := hb3.size; omega
  have b3 : Below w.heap.size w w3 := b2.trans (hb3.mono (Nat.le_succ _))
  clear hb3 b2 ho2 q1
  go_wp2_with fail
  refine (appendNumber_calls (w.heap.size + 1) a3 8 c3 _ 0 4 _ ho3 z3 (by omega) (by omega) (by omega) (by omega)).mono ?_
  rintro e w4 ⟨a4, c4, rfl, hb4, ho4⟩
  have b4 : Below w.heap.size w w4 := b3.trans (hb4.mono (Nat.le_succ _))
  clear hb4 b3 ho3
  go_wp2
  go_ret
  exact ⟨a4, c4, rfl, b4, ho4.mono (Nat.le_succ _)⟩
end Go.Proofs.YtjjfgoeibcmfkaaDoor
