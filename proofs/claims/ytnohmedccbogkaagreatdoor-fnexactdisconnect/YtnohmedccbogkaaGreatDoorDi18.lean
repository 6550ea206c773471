import Derived.Test.YtnohmedccbogkaaGreatDoorDi2
import Derived.Test.YtnohmedccbogkaaGreatDoorDi7
import Derived.Defers
import Derived.Recover
import Derived.Laws.Pointers
import Derived.Test.YtnohmedccbogkaaGreatDoorDi17
import Derived.Test.YtnohmedccbogkaaGreatDoorDi11
import Derived.Test.YtnohmedccbogkaaGreatDoorDi12
import Derived.Maps.OwnSet
import Derived.Maps.OwnOps
import Derived.Maps.Views
import Derived.Carry
namespace Go.Proofs.YtnohmedccbogkaaGreatDoor
open Go.RowKit
def nmB (used id : Int) : Bool := decide (id = 0 ∨ (2 ≤ id ∧ id < used))
def rngB (gen used : Int) : Bool := decide (1 ≤ gen ∧ gen ≤ 1000000000000 ∧ 2 ≤ used ∧ used ≤ 1024)
def supOk (gen root used free : Int) : Bool := rngB gen used && (nmB used root && nmB used free)
set_option maxHeartbeats 400000 in
theorem names0 (gen root used free id : Int) (w : World) (h : (id == 0) = true) :
    Calls Tryz.prog 183 #[.agg #[.int .i64 gen, .int .i64 root, .int .i64 used, .int .i64 free], .int .i64 id] w fun e w' => e = .returned (.bool true) ∧ Below w.heap.size w w' := by
  go_enter Tryz.func183, Tryz.ntmps183
  go_wp2
  go_ret
  exact ⟨rfl, (Below.refl _ _).alloc (Nat.le_refl _) _⟩
set_option maxHeartbeats 400000 in
theorem names1 (gen root used free id : Int) (w : World) (h : (id == 0) = false) (h2 : 2 ≤ id) (h3 : id < used) :
    Calls Tryz.prog 183 #[.agg #[.int .i64 gen, .int .i64 root, .int .i64 used, .int .i64 free], .int .i64 id] w fun e w' => e = .returned (.bool true) ∧ Below w.heap.size w w' := by
  go_enter Tryz.func183, Tryz.ntmps183
  go_wp2
  go_ret
  exact ⟨rfl, (Below.refl _ _).alloc (Nat.le_refl _) _⟩
set_option maxHeartbeats 400000 in
theorem names2 (gen root used free id : Int) (w : World) (h : (id == 0) = false) (h2 : decide (2 ≤ id) = false) :
    Calls Tryz.prog 183 #[.agg #[.int .i64 gen, .int .i64 root, .int .i64 used, .int .i64 free], .int .i64 id] w fun e w' => e = .returned (.bool false) ∧ Below w.heap.size w w' := by
  go_enter Tryz.func183, Tryz.ntmps183
  go_wp2
  go_ret
  exact ⟨rfl, (Below.refl _ _).alloc (Nat.le_refl _) _⟩
set_option maxHeartbeats 400000 in
theorem names3 (gen root used free id : Int) (w : World) (h : (id == 0) = false) (h2 : 2 ≤ id) (h3 : decide (id < used) = false) :
    Calls Tryz.prog 183 #[.agg #[.int .i64 gen, .int .i64 root, .int .i64 used, .int .i64 free], .int .i64 id] w fun e w' => e = .returned (.bool false) ∧ Below w.heap.size w w' := by
  go_enter Tryz.func183, Tryz.ntmps183
  go_wp2
  go_ret
  exact ⟨rfl, (Below.refl _ _).alloc (Nat.le_refl _) _⟩
theorem names_calls (gen root used free id : Int) (w : World) :
    Calls Tryz.prog 183 #[.agg #[.int .i64 gen, .int .i64 root, .int .i64 used, .int .i64 free], .int .i64 id] w fun e w' => e = .returned (.bool (nmB used id)) ∧ Below w.heap.size w w' := by
  by_cases h : id = 0
  · rw [show nmB used id = true from decide_eq_true (Or.inl h)]
    exact names0 gen root used free id w (by simpa using h)
  · by_cases h2 : 2 ≤ id
    · by_cases h3 : id < used
      · rw [show nmB used id = true from decide_eq_true (Or.inr ⟨h2, h3⟩)]
        exact names1 gen root used free id w (by simpa using h) h2 h3
      · rw [show nmB used id = false from decide_eq_false (by omega)]
        exact names3 gen root used free id w (by simpa using h) h2 (by simpa using h3)
    · rw [show nmB used id = false from decide_eq_false (by omega)]
      exact names2 gen root used free id w (by simpa using h) (by simpa using h2)
set_option maxHeartbeats 400000 in
theorem l2ok_g0 (gen root used free : Int) (w : World) (h : gen < 1) :
    Calls Tryz.prog 139 #[.agg #[.int .i64 gen, .int .i64 root, .int .i64 used, .int .i64 free]] w fun e w' => e = .returned (.bool false) ∧ Below w.heap.size w w' := by
  go_enter Tryz.func139, Tryz.ntmps139
  go_wp2
  go_ret
  exact ⟨rfl, (Below.refl _ _).alloc (Nat.le_refl _) _⟩
set_option maxHeartbeats 400000 in
theorem l2ok_g1 (gen root used free : Int) (w : World) (h : ¬ gen < 1) (h2 : 1000000000000 < gen) :
    Calls Tryz.prog 139 #[.agg #[.int .i64 gen, .int .i64 root, .int .i64 used, .int .i64 free]] w fun e w' => e = .returned (.bool false) ∧ Below w.heap.size w w' := by
  go_enter Tryz.func139, Tryz.ntmps139
  go_wp2
  go_ret
  exact ⟨rfl, (Below.refl _ _).alloc (Nat.le_refl _) _⟩
set_option maxHeartbeats 400000 in
theorem l2ok_u0 (gen root used free : Int) (w : World) (h : ¬ gen < 1) (h2 : ¬ 1000000000000 < gen) (h3 : used < 2) :
    Calls Tryz.prog 139 #[.agg #[.int .i64 gen, .int .i64 root, .int .i64 used, .int .i64 free]] w fun e w' => e = .returned (.bool false) ∧ Below w.heap.size w w' := by
  go_enter Tryz.func139, Tryz.ntmps139
  go_wp2
  go_ret
  exact ⟨rfl, (Below.refl _ _).alloc (Nat.le_refl _) _⟩
set_option maxHeartbeats 400000 in
theorem l2ok_u1 (gen root used free : Int) (w : World) (h : ¬ gen < 1) (h2 : ¬ 1000000000000 < gen) (h3 : ¬ used < 2) (h4 : 1024 < used) :
    Calls Tryz.prog 139 #[.agg #[.int .i64 gen, .int .i64 root, .int .i64 used, .int .i64 free]] w fun e w' => e = .returned (.bool false) ∧ Below w.heap.size w w' := by
  go_enter Tryz.func139, Tryz.ntmps139
  go_wp2
  go_ret
  exact ⟨rfl, (Below.refl _ _).alloc (Nat.le_refl _) _⟩
set_option maxHeartbeats 400000 in
theorem l2ok_zz (gen root used free : Int) (w : World) (h : ¬ gen < 1) (h2 : ¬ 1000000000000 < gen) (h3 : ¬ used < 2) (h4 : ¬ 1024 < used) (r : (root == 0) = true) (f : (free == 0) = true) :
    Calls Tryz.prog 139 #[.agg #[.int .i64 gen, .int .i64 root, .int .i64 used, .int .i64 free]] w fun e w' => e = .returned (.bool true) ∧ Below w.heap.size w w' := by
  go_enter Tryz.func139, Tryz.ntmps139
  go_wp2
  go_ret
  exact ⟨rfl, (Below.refl _ _).alloc (Nat.le_refl _) _⟩
set_option maxHeartbeats 400000 in
theorem l2ok_zy (gen root used free : Int) (w : World) (h : ¬ gen < 1) (h2 : ¬ 1000000000000 < gen) (h3 : ¬ used < 2) (h4 : ¬ 1024 < used) (r : (root == 0) = true) (f : (free == 0) = false) (f2 : 2 ≤ free) (f3 : free < used) :
    Calls Tryz.prog 139 #[.agg #[.int .i64 gen, .int .i64 root, .int .i64 used, .int .i64 free]] w fun e w' => e = .returned (.bool true) ∧ Below w.heap.size w w' := by
  go_enter Tryz.func139, Tryz.ntmps139
  go_wp2
  go_ret
  exact ⟨rfl, (Below.refl _ _).alloc (Nat.le_refl _) _⟩
set_option maxHeartbeats 400000 in
theorem l2ok_za (gen root used free : Int) (w : World) (h : ¬ gen < 1) (h2 : ¬ 1000000000000 < gen) (h3 : ¬ used < 2) (h4 : ¬ 1024 < used) (r : (root == 0) = true) (f : (free == 0) = false) (f2 : decide (2 ≤ free) = false) :
    Calls Tryz.prog 139 #[.agg #[.int .i64 gen, .int .i64 root, .int .i64 used, .int .i64 free]] w fun e w' => e = .returned (.bool false) ∧ Below w.heap.size w w' := by
  go_enter Tryz.func139, Tryz.ntmps139
  go_wp2
  go_ret
  exact ⟨rfl, (Below.refl _ _).alloc (Nat.le_refl _) _⟩
set_option maxHeartbeats 400000 in
theorem l2ok_zb (gen root used free : Int) (w : World) (h : ¬ gen < 1) (h2 : ¬ 1000000000000 < gen) (h3 : ¬ used < 2) (h4 : ¬ 1024 < used) (r : (root == 0) = true) (f : (free == 0) = false) (f2 : 2 ≤ free) (f3 : decide (free < used) = false) :
    Calls Tryz.prog 139 #[.agg #[.int .i64 gen, .int .i64 root, .int .i64 used, .int .i64 free]] w fun e w' => e = .returned (.bool false) ∧ Below w.heap.size w w' := by
  go_enter Tryz.func139, Tryz.ntmps139
  go_wp2
  go_ret
  exact ⟨rfl, (Below.refl _ _).alloc (Nat.le_refl _) _⟩
set_option maxHeartbeats 400000 in
theorem l2ok_yz (gen root used free : Int) (w : World) (h : ¬ gen < 1) (h2 : ¬ 1000000000000 < gen) (h3 : ¬ used < 2) (h4 : ¬ 1024 < used) (r : (root == 0) = false) (r2 : 2 ≤ root) (r3 : root < used) (f : (free == 0) = true) :
    Calls Tryz.prog 139 #[.agg #[.int .i64 gen, .int .i64 root, .int .i64 used, .int .i64 free]] w fun e w' => e = .returned (.bool true) ∧ Below w.heap.size w w' := by
  go_enter Tryz.func139, Tryz.ntmps139
  go_wp2
  go_ret
  exact ⟨rfl, (Below.refl _ _).alloc (Nat.le_refl _) _⟩
set_option maxHeartbeats 400000 in
theorem l2ok_yy (gen root used free : Int) (w : World) (h : ¬ gen < 1) (h2 : ¬ 1000000000000 < gen) (h3 : ¬ used < 2) (h4 : ¬ 1024 < used) (r : (root == 0) = false) (r2 : 2 ≤ root) (r3 : root < used) (f : (free == 0) = false) (f2 : 2 ≤ free) (f3 : free < used) :
    Calls Tryz.prog 139 #[.agg #[.int .i64 gen, .int .i64 root, .int .i64 used, .int .i64 free]] w fun e w' => e = .returned (.bool true) ∧ Below w.heap.size w w' := by
  go_enter Tryz.func139, Tryz.ntmps139
  go_wp2
  go_ret
  exact ⟨rfl, (Below.refl _ _).alloc (Nat.le_refl _) _⟩
set_option maxHeartbeats 400000 in
theorem l2ok_ya (gen root used free : Int) (w : World) (h : ¬ gen < 1) (h2 : ¬ 1000000000000 < gen) (h3 : ¬ used < 2) (h4 : ¬ 1024 < used) (r : (root == 0) = false) (r2 : 2 ≤ root) (r3 : root < used) (f : (free == 0) = false) (f2 : decide (2 ≤ free) = false) :
    Calls Tryz.prog 139 #[.agg #[.int .i64 gen, .int .i64 root, .int .i64 used, .int .i64 free]] w fun e w' => e = .returned (.bool false) ∧ Below w.heap.size w w' := by
  go_enter Tryz.func139, Tryz.ntmps139
  go_wp2
  go_ret
  exact ⟨rfl, (Below.refl _ _).alloc (Nat.le_refl _) _⟩
set_option maxHeartbeats 400000 in
theorem l2ok_yb (gen root used free : Int) (w : World) (h : ¬ gen < 1) (h2 : ¬ 1000000000000 < gen) (h3 : ¬ used < 2) (h4 : ¬ 1024 < used) (r : (root == 0) = false) (r2 : 2 ≤ root) (r3 : root < used) (f : (free == 0) = false) (f2 : 2 ≤ free) (f3 : decide (free < used) = false) :
    Calls Tryz.prog 139 #[.agg #[.int .i64 gen, .int .i64 root, .int .i64 used, .int .i64 free]] w fun e w' => e = .returned (.bool false) ∧ Below w.heap.size w w' := by
  go_enter Tryz.func139, Tryz.ntmps139
  go_wp2
  go_ret
  exact ⟨rfl, (Below.refl _ _).alloc (Nat.le_refl _) _⟩
set_option maxHeartbeats 400000 in
theorem l2ok_a (gen root used free : Int) (w : World) (h : ¬ gen < 1) (h2 : ¬ 1000000000000 < gen) (h3 : ¬ used < 2) (h4 : ¬ 1024 < used) (r : (root == 0) = false) (r2 : decide (2 ≤ root) = false) :
    Calls Tryz.prog 139 #[.agg #[.int .i64 gen, .int .i64 root, .int .i64 used, .int .i64 free]] w fun e w' => e = .returned (.bool false) ∧ Below w.heap.size w w' := by
  go_enter Tryz.func139, Tryz.ntmps139
  go_wp2
  go_ret
  exact ⟨rfl, (Below.refl _ _).alloc (Nat.le_refl _) _⟩
set_option maxHeartbeats 400000 in
theorem l2ok_b (gen root used free : Int) (w : World) (h : ¬ gen < 1) (h2 : ¬ 1000000000000 < gen) (h3 : ¬ used < 2) (h4 : ¬ 1024 < used) (r : (root == 0) = false) (r2 : 2 ≤ root) (r3 : decide (root < used) = false) :
    Calls Tryz.prog 139 #[.agg #[.int .i64 gen, .int .i64 root, .int .i64 used, .int .i64 free]] w fun e w' => e = .returned (.bool false) ∧ Below w.heap.size w w' := by
  go_enter Tryz.func139, Tryz.ntmps139
  go_wp2
  go_ret
  exact ⟨rfl, (Below.refl _ _).alloc (Nat.le_refl _) _⟩
theorem l2ok_calls (gen root used free : Int) (w : World) :
    Calls Tryz.prog 139 #[.agg #[.int .i64 gen, .int .i64 root, .int .i64 used, .int .i64 free]] w fun e w' => e = .returned (.bool (supOk gen root used free)) ∧ Below w.heap.size w w' := by
  by_cases hr : rngB gen used = true
  · obtain ⟨a1, a2, a3, a4⟩ := of_decide_eq_true hr
    have h1 : ¬ gen < 1 := by omega
    have h2 : ¬ 1000000000000 < gen := by omega
    have h3 : ¬ used < 2 := by omega
    have h4 : ¬ 1024 < used := by omega
    unfold supOk
    rw [hr, Bool.true_and]
    by_cases r : root = 0
    · rw [show nmB used root = true from decide_eq_true (Or.inl r), Bool.true_and]
      have r' : (root == 0) = true := by simpa using r
      by_cases f : free = 0
      · rw [show nmB used free = true from decide_eq_true (Or.inl f)]
        exact l2ok_zz gen root used free w h1 h2 h3 h4 r' (by simpa using f)
      · by_cases f2 : 2 ≤ free
        · by_cases f3 : free < used
          · rw [show nmB used free = true from decide_eq_true (Or.inr ⟨f2, f3⟩)]
            exact l2ok_zy gen root used free w h1 h2 h3 h4 r' (by simpa using f) f2 f3
          · rw [show nmB used free = false from decide_eq_false (by omega)]
            exact l2ok_zb gen root used free w h1 h2 h3 h4 r' (by simpa using f) f2 (by simpa using f3)
        · rw [show nmB used free = false from decide_eq_false (by omega)]
          exact l2ok_za gen root used free w h1 h2 h3 h4 r' (by simpa using f) (by simpa using f2)
    · have r' : (root == 0) = false := by simpa using r
      by_cases r2 : 2 ≤ root
      · by_cases r3 : root < used
        · rw [show nmB used root = true from decide_eq_true (Or.inr ⟨r2, r3⟩), Bool.true_and]
          by_cases f : free = 0
          · rw [show nmB used free = true from decide_eq_true (Or.inl f)]
            exact l2ok_yz gen root used free w h1 h2 h3 h4 r' r2 r3 (by simpa using f)
          · by_cases f2 : 2 ≤ free
            · by_cases f3 : free < used
              · rw [show nmB used free = true from decide_eq_true (Or.inr ⟨f2, f3⟩)]
                exact l2ok_yy gen root used free w h1 h2 h3 h4 r' r2 r3 (by simpa using f) f2 f3
              · rw [show nmB used free = false from decide_eq_false (by omega)]
                exact l2ok_yb gen root used free w h1 h2 h3 h4 r' r2 r3 (by simpa using f) f2 (by simpa using f3)
            · rw [show nmB used free = false from decide_eq_false (by omega)]
              exact l2ok_ya gen root used free w h1 h2 h3 h4 r' r2 r3 (by simpa using f) (by simpa using f2)
        · rw [show nmB used root = false from decide_eq_false (by omega), Bool.false_and]
          exact l2ok_b gen root used free w h1 h2 h3 h4 r' r2 (by simpa using r3)
      · rw [show nmB used root = false from decide_eq_false (by omega), Bool.false_and]
        exact l2ok_a gen root used free w h1 h2 h3 h4 r' (by simpa using r2)
  · have hr' : rngB gen used = false := by simpa using hr
    unfold supOk
    rw [hr', Bool.false_and]
    have hn := of_decide_eq_false hr'
    by_cases h1 : gen < 1
    · exact l2ok_g0 gen root used free w h1
    · by_cases h2 : 1000000000000 < gen
      · exact l2ok_g1 gen root used free w h1 h2
      · by_cases h3 : used < 2
        · exact l2ok_u0 gen root used free w h1 h2 h3
        · exact l2ok_u1 gen root used free w h1 h2 h3 (by omega)
set_option maxHeartbeats 400000 in
theorem imok_g0 (gen root used free : Int) (w : World) (h : gen < 1) :
    Calls Tryz.prog 149 #[.agg #[.int .i64 gen, .int .i64 root, .int .i64 used, .int .i64 free]] w fun e w' => e = .returned (.bool false) ∧ Below w.heap.size w w' := by
  go_enter Tryz.func149, Tryz.ntmps149
  go_wp2
  go_ret
  exact ⟨rfl, (Below.refl _ _).alloc (Nat.le_refl _) _⟩
set_option maxHeartbeats 400000 in
theorem imok_g1 (gen root used free : Int) (w : World) (h : ¬ gen < 1) (h2 : 1000000000000 < gen) :
    Calls Tryz.prog 149 #[.agg #[.int .i64 gen, .int .i64 root, .int .i64 used, .int .i64 free]] w fun e w' => e = .returned (.bool false) ∧ Below w.heap.size w w' := by
  go_enter Tryz.func149, Tryz.ntmps149
  go_wp2
  go_ret
  exact ⟨rfl, (Below.refl _ _).alloc (Nat.le_refl _) _⟩
set_option maxHeartbeats 400000 in
theorem imok_u0 (gen root used free : Int) (w : World) (h : ¬ gen < 1) (h2 : ¬ 1000000000000 < gen) (h3 : used < 2) :
    Calls Tryz.prog 149 #[.agg #[.int .i64 gen, .int .i64 root, .int .i64 used, .int .i64 free]] w fun e w' => e = .returned (.bool false) ∧ Below w.heap.size w w' := by
  go_enter Tryz.func149, Tryz.ntmps149
  go_wp2
  go_ret
  exact ⟨rfl, (Below.refl _ _).alloc (Nat.le_refl _) _⟩
set_option maxHeartbeats 400000 in
theorem imok_u1 (gen root used free : Int) (w : World) (h : ¬ gen < 1) (h2 : ¬ 1000000000000 < gen) (h3 : ¬ used < 2) (h4 : 1024 < used) :
    Calls Tryz.prog 149 #[.agg #[.int .i64 gen, .int .i64 root, .int .i64 used, .int .i64 free]] w fun e w' => e = .returned (.bool false) ∧ Below w.heap.size w w' := by
  go_enter Tryz.func149, Tryz.ntmps149
  go_wp2
  go_ret
  exact ⟨rfl, (Below.refl _ _).alloc (Nat.le_refl _) _⟩
set_option maxHeartbeats 400000 in
theorem imok_rf (gen root used free : Int) (w : World) (h : ¬ gen < 1) (h2 : ¬ 1000000000000 < gen) (h3 : ¬ used < 2) (h4 : ¬ 1024 < used)  (r : nmB used root = false) :
    Calls Tryz.prog 149 #[.agg #[.int .i64 gen, .int .i64 root, .int .i64 used, .int .i64 free]] w fun e w' => e = .returned (.bool false) ∧ Below w.heap.size w w' := by
  have HR : Hid (nmB used root = false) := r
  clear r
  go_enter Tryz.func149, Tryz.ntmps149
  go_wp2_with fail
  refine (names_calls gen root used free root _).mono ?_
  rw [HR.out]
  rintro e w1 ⟨rfl, b1⟩
  have q : Below w.heap.size w w1 := ((Below.refl _ _).alloc (Nat.le_refl _) _).trans (b1.mono (by simp))
  go_wp2
  go_ret
  exact ⟨rfl, q⟩
set_option maxHeartbeats 400000 in
theorem imok_rt (gen root used free : Int) (w : World) (h : ¬ gen < 1) (h2 : ¬ 1000000000000 < gen) (h3 : ¬ used < 2) (h4 : ¬ 1024 < used)  (r : nmB used root = true) :
    Calls Tryz.prog 149 #[.agg #[.int .i64 gen, .int .i64 root, .int .i64 used, .int .i64 free]] w fun e w' => e = .returned (.bool (nmB used free)) ∧ Below w.heap.size w w' := by
  have HR : Hid (nmB used root = true) := r
  clear r
  go_enter Tryz.func149, Tryz.ntmps149
  go_wp2_with fail
  refine (names_calls gen root used free root _).mono ?_
  rw [HR.out]
  rintro e w1 ⟨rfl, b1⟩
  have q : Below w.heap.size w w1 := ((Below.refl _ _).alloc (Nat.le_refl _) _).trans (b1.mono (by simp))
  have k0 : w1.cell? ⟨w.heap.size, 0, none⟩ = some (.int .i64 gen) := by rw [b1.cell (p := ⟨w.heap.size, 0, none⟩) (by simp)]; simp
  have k1 : w1.cell? ⟨w.heap.size, 1, none⟩ = some (.int .i64 root) := by rw [b1.cell (p := ⟨w.heap.size, 1, none⟩) (by simp)]; simp
  have k2 : w1.cell? ⟨w.heap.size, 2, none⟩ = some (.int .i64 used) := by rw [b1.cell (p := ⟨w.heap.size, 2, none⟩) (by simp)]; simp
  have k3 : w1.cell? ⟨w.heap.size, 3, none⟩ = some (.int .i64 free) := by rw [b1.cell (p := ⟨w.heap.size, 3, none⟩) (by simp)]; simp
  clear b1
  go_wp2_with fail
  refine (names_calls gen root used free free _).mono ?_
  rintro e w2 ⟨rfl, b2⟩
  go_wp2
  go_ret
  exact ⟨rfl, q.trans (b2.mono q.size)⟩
theorem imok_calls (gen root used free : Int) (w : World) :
    Calls Tryz.prog 149 #[.agg #[.int .i64 gen, .int .i64 root, .int .i64 used, .int .i64 free]] w fun e w' => e = .returned (.bool (supOk gen root used free)) ∧ Below w.heap.size w w' := by
  by_cases hr : rngB gen used = true
  · obtain ⟨a1, a2, a3, a4⟩ := of_decide_eq_true hr
    unfold supOk
    rw [hr, Bool.true_and]
    cases r : nmB used root with
    | true =>
      rw [Bool.true_and]
      exact imok_rt gen root used free w (by omega) (by omega) (by omega) (by omega) r
    | false =>
      rw [Bool.false_and]
      exact imok_rf gen root used free w (by omega) (by omega) (by omega) (by omega) r
  · have hr' : rngB gen used = false := by simpa using hr
    unfold supOk
    rw [hr', Bool.false_and]
    have hn := of_decide_eq_false hr'
    by_cases h1 : gen < 1
    · exact imok_g0 gen root used free w h1
    · by_cases h2 : 1000000000000 < gen
      · exact imok_g1 gen root used free w h1 h2
      · by_cases h3 : used < 2
        · exact imok_u0 gen root used free w h1 h2 h3
        · exact imok_u1 gen root used free w h1 h2 h3 (by omega)
end Go.Proofs.YtnohmedccbogkaaGreatDoor

namespace Go.Proofs.YtnohmedccbogkaaGreatDoor
open Go.RowKit
set_option linter.unusedVariables false
def badR : List PanicEntry := [{ v := .iface 237 (.agg #[]), recovered := true }]
theorem run_mine (v : Value) (x : TypeId) (w : World) : (Instr.typeAssert (.iface 237 v) x 237 true).run Tryz.prog w = .ok (.tuple #[v, .bool true]) w := by
  simp [Instr.typeAssert, run_underlying Tryz.underlying237 w]
set_option maxRecDepth 100000 in
theorem catch_bad (w : World) :
    CallsD Tryz.prog 167 #[] (.panicking badE) w fun e u' w' => e = .returned (.tuple #[]) ∧ u' = .panicking badR ∧ Below w.heap.size w w' := by
  have hta := run_mine (.agg #[])
  refine callsD_of_wpS Tryz.func167 rfl fun c₀ cs hu => ?_
  apply wpS_seq
  apply wpS_region
  simp [wpOpsS, go_sem, recoverD, hu, Tryz.ntmps167, Exit.thenS, badE]
  simp only [show Array.replicate 14 undef = #[undef, undef, undef, undef, undef, undef, undef, undef, undef, undef, undef, undef, undef, undef] from rfl, List.setIfInBounds_toArray, List.set_cons_zero, List.set_cons_succ]
  refine wpS_of_wp ?_
  go_wp2
  have hb : Below w.heap.size w (w.alloc (Obj.cells #[] 237)) := (Below.refl _ _).alloc (Nat.le_refl _) _
  simp [bodyPostS, results, Tryz.results167, badR]
  exact hb
theorem catch_idle (w : World) :
    CallsD Tryz.prog 167 #[] .returning w fun e u' w' => e = .returned (.tuple #[]) ∧ u' = .returning ∧ w' = w := by
  refine callsD_of_wpS Tryz.func167 rfl fun c₀ cs hu => ?_
  apply wpS_seq
  apply wpS_region
  simp [wpOpsS, go_sem, recoverD, hu, Tryz.ntmps167, Exit.thenS]
  simp only [show Array.replicate 14 undef = #[undef, undef, undef, undef, undef, undef, undef, undef, undef, undef, undef, undef, undef, undef] from rfl, List.setIfInBounds_toArray, List.set_cons_zero, List.set_cons_succ]
  refine wpS_of_wp ?_
  go_wp2
  cases c₀
  simp_all [bodyPostS, results, Tryz.results167]
theorem reads_yes (f : FuncId) (cap : Array Value) (w : World) (R : World → Prop) (hcf : ∀ w, (callFunc f cap).run Tryz.prog w = .ok (.enter f cap) w) (h : Calls Tryz.prog f cap w fun e w' => e = .returned (.tuple #[]) ∧ R w') :
    Calls Tryz.prog 121 #[.func (.func f) #[] cap] w fun e w' => e = .returned (.bool true) ∧ R w' := by
  go_enter_defers Tryz.func121, Tryz.ntmps121
  go_wp2_with fail
  refine Calls.mono h ?_
  rintro e w1 ⟨rfl, hR⟩
  go_wp2
  refine leaves_cons (f := 167) (args := #[]) (by simp) (by simp [go_sem]) ?_
  refine (catch_idle w1).mono ?_
  rintro e u' w2 ⟨rfl, rfl, rfl⟩
  simp [Leaves, settle, results, Tryz.results121, go_sem]
  exact hR
theorem reads_no (f : FuncId) (cap : Array Value) (w : World) (R : World → Prop) (hcf : ∀ w, (callFunc f cap).run Tryz.prog w = .ok (.enter f cap) w) (h : Calls Tryz.prog f cap w fun e w' => e = .panicked badE ∧ R w') :
    Calls Tryz.prog 121 #[.func (.func f) #[] cap] w fun e w' => e = .returned (.bool false) ∧ ∃ w1, R w1 ∧ Below w1.heap.size w1 w' := by
  go_enter_defers Tryz.func121, Tryz.ntmps121
  go_wp2_with fail
  refine Calls.mono h ?_
  rintro e w1 ⟨rfl, hR⟩
  go_wp2
  refine leaves_cons (f := 167) (args := #[]) (by simp) (by simp [go_sem]) ?_
  refine (catch_bad w1).mono ?_
  rintro e u' w2 ⟨rfl, rfl, hb⟩
  simp [Leaves, settle, results, Tryz.results121, go_sem, badR]
  exact ⟨w1, hR, hb⟩
end Go.Proofs.YtnohmedccbogkaaGreatDoor

namespace Go.Proofs.YtnohmedccbogkaaGreatDoor
open Go.RowKit
set_option linter.unusedVariables false
theorem trGood_len {N : Nat} {o : Option Tr} (h : trGood N o) : okO o ∧ (pgNo o).length ≤ N ∧ ∀ x ∈ pgNo o, x ≠ 0 := by
  cases o with
  | none => exact ⟨trivial, Nat.zero_le _, fun x hx => by simp [pgNo] at hx⟩
  | some T =>
    obtain ⟨h1, h2, h3, h4⟩ := h
    have hs : SeenOk (pgsT T) N := ⟨h3, fun x hx => by have := h4 x hx; omega⟩
    refine ⟨⟨h1, h2⟩, by show (pgN T).length ≤ N; rw [(pgN_perm T).length_eq]; exact hs.le, fun x hx => by have := h4 x ((pgN_perm T).mem_iff.1 hx); omega⟩
def hoR (P : Pg) (N : Nat) (root free : Int) (M : Nat) : Bool := match rtO P N root, flR P (N + 1) free [] [] with
  | some o, some p => once (srt (pgNo o) ++ (p.1 ++ p.2)) M
  | _, _ => false
def hoB (P : Pg) (N : Nat) (pages gen root used free : Int) : Bool := supOk gen root used free && decide (used ≤ pages) && hoR P N root free used.toNat
theorem hoR_yes {P : Pg} {N : Nat} {root free : Int} {M : Nat} {o : Option Tr} {fs own : List Int} (h1 : rtO P N root = some o) (h2 : flR P (N + 1) free [] [] = some (fs, own)) : hoR P N root free M = once (srt (pgNo o) ++ (fs ++ own)) M := by unfold hoR; rw [h1, h2]
theorem hoR_no {P : Pg} {N : Nat} {root free : Int} {M : Nat} (h : rtO P N root = none ∨ flR P (N + 1) free [] [] = none) : hoR P N root free M = false := by
  unfold hoR
  rcases h with h | h
  · rw [h]
  · rw [h]; cases rtO P N root <;> rfl
def HiP (P : Pg) (N : Nat) (S : World → Prop) (X : Nat → Prop) (r : Bool) (w : World) (e : Ending) (w' : World) : Prop :=
  OnlyS X w w' ∧ (r = true → S w') ∧ ∃ cs : List Value, cs.length = 4 ∧ (∀ u ∈ cs, u.oneCell' = true) ∧ e = .returned (.tuple #[.agg cs.toArray, .bool r])
theorem sizeHo : (Tryz.prog.info? 148).map (·.size) = some 4 := by kernel_rfl
theorem sizeSu : (Tryz.prog.info? 38).map (·.size) = some 4 := by kernel_rfl
theorem built_ho : Tryz.prog.built 148 [] = some hoZ.toArray := by kernel_rfl
theorem hoZ_one : ∀ u ∈ hoZ, u.oneCell' = true := by intro u hu; simp [hoZ, hoC] at hu; rcases hu with rfl | rfl <;> rfl
theorem hoC_one (p : Option Addr) (a b c : Option Addr) (n m k i j l : Nat) : ∀ u ∈ hoC (.pointer p) (.slice a n i) (.slice b m j) (.slice c k l), u.oneCell' = true := by
  intro u hu
  simp [hoC] at hu
  rcases hu with rfl | rfl | rfl | rfl <;> rfl
variable {S : World → Prop} {X : Nat → Prop} {B0 N ty fn : Nat} {v : Value} {P : Pg}
set_option maxHeartbeats 4000000 in
set_option maxRecDepth 100000 in
theorem holdingIn_calls (PW : PgW P N) (hbd : ∀ t, (P.bd t).length ≤ 256) (HS : Src P B0 ty fn v S X) (pages : Nat) (gen root used free : Int) (w : World) (hS : S w) (hB : B0 ≤ w.heap.size) :
    Calls Tryz.prog 84 #[.iface ty v, .int .i64 (pages : Nat), .agg (supC gen root used free).toArray] w (HiP P N S X (hoB P N (pages : Nat) gen root used free) w) := by
  obtain ⟨W1, hW1⟩ : ∃ W, W = w.alloc (Obj.cells #[.iface ty v] 214) := ⟨_, rfl⟩
  obtain ⟨W2, hW2⟩ : ∃ W, W = W1.alloc (Obj.cells (supC gen root used free).toArray 38) := ⟨_, rfl⟩
  obtain ⟨W3, hW3⟩ : ∃ W, W = W2.alloc (Obj.cells hoZ.toArray 148) := ⟨_, rfl⟩
  have q1 : Below w.heap.size w W1 := by rw [hW1]; exact (Below.refl _ _).alloc (Nat.le_refl _) _
  have q2 : Below W1.heap.size W1 W2 := by rw [hW2]; exact (Below.refl _ _).alloc (Nat.le_refl _) _
  have q3 : Below W2.heap.size W2 W3 := by rw [hW3]; exact (Below.refl _ _).alloc (Nat.le_refl _) _
  have z1 : W1.heap.size = w.heap.size + 1 := by rw [hW1]; simp
  have z2 : W2.heap.size = w.heap.size + 1 + 1 := by rw [hW2]; simp [z1]
  have z3 : W3.heap.size = w.heap.size + 1 + 1 + 1 := by rw [hW3]; simp [z2]
  have q23 : Below W1.heap.size W1 W3 := q2.trans (q3.mono q2.size)
  have kS : Blk W3 214 w.heap.size [.iface ty v] := (by rw [hW1]; exact blk_new w _ _ : Blk W1 214 w.heap.size [.iface ty v]).below q23
  have kP : Blk W3 38 (w.heap.size + 1) (supC gen root used free) := (by rw [hW2, ← z1]; exact blk_new W1 _ _ : Blk W2 38 (w.heap.size + 1) (supC gen root used free)).below q3
  have kR : Blk W3 148 (w.heap.size + 1 + 1) hoZ := by rw [hW3, ← z2]; exact blk_new W2 _ _
  have q13 : Below w.heap.size w W3 := q1.trans (q23.mono q1.size)
  have sP : (Tryz.prog.info? 38).map (·.size) = some (supC gen root used free).toArray.size := sizeSu
  have sH : (Tryz.prog.info? 148).map (·.size) = some hoZ.toArray.size := sizeHo
  have SO := imok_calls gen root used free W3
  have hbh := built_ho
  have H3 : Hid _ := q13
  have hz3 : w.heap.size + 1 + 1 < W3.heap.size := by omega
  have Z3 : Hid _ := z3
  clear q1 q2 q3 z1 z2 q23 q13 z3
  go_enter Tryz.func84, Tryz.ntmps84
  go_upto_region 1 with fail
  change Code.wp _ _ _ _ (((w.alloc (Obj.cells #[.iface ty v] 214)).alloc (Obj.cells (supC gen root used free).toArray 38)).alloc (Obj.cells hoZ.toArray 148))
  rw [← hW1, ← hW2, ← hW3]
  clear hW1 hW2 hW3
  go_wp2_with (refine wpList_load_row rfl 38 _ rfl (w.heap.size + 1) rfl 38 (supC gen root used free).toArray (0, 0) _ kP Tryz.underlying38 rfl sP ?_)
  refine SO.mono ?_
  rintro e w4 ⟨rfl, b4⟩
  have kS4 := kS.below b4
  have kP4 := kP.below b4
  have kR4 := kR.below b4
  have d4 : Below w.heap.size w w4 := H3.out.trans (b4.mono H3.out.size)
  have hz4 := b4.size
  have S4 : S w4 := HS.keep _ _ hS (d4.mono hB) (keepT_below d4)
  have c4 : w4.cell? ⟨w.heap.size + 1, 2, none⟩ = some (.int .i64 used) := kP4.cell 2
  have oF := onlyB_setRow w4 (w.heap.size + 1 + 1) hoZ.toArray
  have kF := kR4.setRow hoZ
  have FINF : Hid (hoB P N (pages : Nat) gen root used free = false → HiP P N S X (hoB P N (pages : Nat) gen root used free) w (.returned (.tuple #[.agg hoZ.toArray, .bool false])) (w4.setRow (w.heap.size + 1 + 1) hoZ.toArray)) := fun h => ⟨(OnlyS.ofBelow d4).transN (OnlyS.ofB oF) (fun k hk e => by omega), (fun h2 => by rw [h] at h2; cases h2), hoZ, rfl, hoZ_one, by rw [h]⟩
  have HK4 : Hid _ := And.intro kS4 (And.intro kP4 (And.intro d4 S4))
  clear SO kS kP kR b4 kS4 d4 S4 oF
  cases hso : supOk gen root used free with
  | false =>
    have hF : Hid (hoB P N (pages : Nat) gen root used free = false) := by show hoB P N (pages : Nat) gen root used free = false; unfold hoB; rw [hso]; rfl
    go_wp2_with (first | (refine wpList_store_row rfl 148 _ _ rfl (w.heap.size + 1 + 1) hoZ.toArray rfl rfl 148 _ kR4 sH rfl (all_one hoZ_one) ?_))
    refine bodyPost_ret (v := .tuple #[.agg hoZ.toArray, .bool false]) ?_ rfl (FINF.out hF.out)
    exact results_cellTmp Tryz.results84 _ _ (w.heap.size + 1 + 1) 148 hoZ.toArray _ rfl kF Tryz.underlying148 rfl sH rfl
  | true =>
    have hrg : rngB gen used = true ∧ nmB used root = true ∧ nmB used free = true := by
      unfold supOk at hso
      rw [Bool.and_eq_true, Bool.and_eq_true] at hso
      exact hso
    obtain ⟨g1, g2, u1, u2⟩ := of_decide_eq_true hrg.1
    have hroot := of_decide_eq_true hrg.2.1
    have hfree := of_decide_eq_true hrg.2.2
    by_cases hup : used ≤ (pages : Int)
    rotate_left
    · have hup' : (pages : Int) < used := by omega
      have hF : Hid (hoB P N (pages : Nat) gen root used free = false) := by show hoB P N (pages : Nat) gen root used free = false; unfold hoB; rw [hso, decide_eq_false hup]; rfl
      clear hup
      go_wp2_with (first | (refine wpList_store_row rfl 148 _ _ rfl (w.heap.size + 1 + 1) hoZ.toArray rfl rfl 148 _ kR4 sH rfl (all_one hoZ_one) ?_))
      refine bodyPost_ret (v := .tuple #[.agg hoZ.toArray, .bool false]) ?_ rfl (FINF.out hF.out)
      exact results_cellTmp Tryz.results84 _ _ (w.heap.size + 1 + 1) 148 hoZ.toArray _ rfl kF Tryz.underlying148 rfl sH rfl
    have hup' : ¬ (pages : Int) < used := by omega
    have hB2 : Hid (hoB P N (pages : Nat) gen root used free = hoR P N root free used.toNat) := by
      show hoB P N (pages : Nat) gen root used free = _
      unfold hoB; rw [hso, decide_eq_true hup]; rfl
    obtain ⟨M, rfl⟩ : ∃ M : Nat, used = (M : Int) := ⟨used.toNat, by omega⟩
    rw [Int.toNat_natCast] at hB2
    clear FINF hso hrg kF
    obtain ⟨hb, hhb⟩ : ∃ x, x = w4.heap.size := ⟨_, rfl⟩
    obtain ⟨W5, hW5⟩ : ∃ W, W = w4.alloc (Obj.cells hoZ.toArray 148) := ⟨_, rfl⟩
    have q5 : Below w4.heap.size w4 W5 := by rw [hW5]; exact (Below.refl _ _).alloc (Nat.le_refl _) _
    have kH5 : Blk W5 148 hb hoZ := by rw [hW5, hhb]; exact blk_new w4 _ _
    have kS5 := HK4.out.1.below q5
    have kP5 := HK4.out.2.1.below q5
    have kR5 := kR4.below q5
    have S5 : S W5 := HS.keep _ _ HK4.out.2.2.2 (q5.mono (by omega)) (keepT_below q5)
    have d5 : Below w.heap.size w W5 := HK4.out.2.2.1.trans (q5.mono (by omega))
    have HO := hold1_calls PW hbd HS w.heap.size (w.heap.size + 1) hb gen root (M : Nat) free W5 kS5 kP5 kH5 S5 hB (by omega) (by omega) (by omega) (by omega) (by omega) (by omega)
    have hmf : ∀ (fn : Fn) (first cap : Array Value) (w : World), (Instr.makeFunc fn first cap).run Tryz.prog w = .ok (.func fn first cap) w := fun _ _ _ _ => rfl
    have hz5 : w.heap.size + 1 + 1 < hb := by omega
    have hz5' : hb < W5.heap.size := kH5.lt
    have H5 : Hid _ := And.intro d5 (And.intro kP5 (And.intro kR5 q5))
    clear q5 kH5 kS5 kP5 S5 d5 HK4
    go_upto_region 4 with fail
    change Code.wp _ _ _ _ (w4.alloc (Obj.cells hoZ.toArray 148))
    rw [← hW5, ← hhb]
    clear hW5 hhb kR4 c4 kP4
    by_cases hyes : ∃ o p, rtO P N root = some o ∧ flR P (N + 1) free [] [] = some p
    rotate_left
    · have hno : rtO P N root = none ∨ flR P (N + 1) free [] [] = none := by
        cases h1 : rtO P N root with
        | none => exact Or.inl rfl
        | some o =>
          cases h2 : flR P (N + 1) free [] [] with
          | none => exact Or.inr rfl
          | some p => exact absurd ⟨o, p, h1, h2⟩ hyes
      have HN : Calls Tryz.prog 150 #[.pointer (some ⟨w.heap.size, 0, none⟩), .pointer (some ⟨w.heap.size + 1, 0, none⟩), .pointer (some ⟨hb, 0, none⟩)] W5 fun e w' => e = .panicked badE ∧ OnlyS (fun k => X k ∨ k = hb) W5 w' := HO.mono (by
        rintro e w' ⟨o, ⟨o', fs, own, h1, h2, _⟩ | ⟨_, he⟩⟩
        · exact absurd ⟨o', _, h1, h2⟩ hyes
        · exact ⟨he, o⟩)
      have RD := reads_no 150 _ W5 (OnlyS (fun k => X k ∨ k = hb) W5) (fun _ => rfl) HN
      have hF : Hid (hoB P N (pages : Nat) gen root (M : Nat) free = false) := by show hoB P N (pages : Nat) gen root (M : Nat) free = false; rw [hB2.out]; exact hoR_no hno
      clear HO HN hyes hno
      go_wp2_with fail
      refine Calls.mono RD ?_
      rintro e w7 ⟨rfl, w6, o6, b7⟩
      have hXl : ¬ (X (w.heap.size + 1 + 1) ∨ w.heap.size + 1 + 1 = hb) := fun e => by
        rcases e with e | e
        · have := HS.low _ e; omega
        · omega
      have kR7 := (H5.out.2.2.1.onlyS o6 hXl).below b7
      have oF := onlyB_setRow w7 (w.heap.size + 1 + 1) hoZ.toArray
      have kF := kR7.setRow hoZ
      have FIN : Hid (HiP P N S X (hoB P N (pages : Nat) gen root (M : Nat) free) w (.returned (.tuple #[.agg hoZ.toArray, .bool false])) (w7.setRow (w.heap.size + 1 + 1) hoZ.toArray)) := ⟨(((OnlyS.ofBelow H5.out.1).transN o6 (fun k hk e => by rcases e with e | e; exact e; omega)).trans (OnlyS.ofBelow b7)).transN (OnlyS.ofB oF) (fun k hk e => by omega), (fun h2 => by rw [hF.out] at h2; cases h2), hoZ, rfl, hoZ_one, by rw [hF.out]⟩
      clear RD o6 b7 H5 oF hXl hmf
      go_wp2_with (first | (refine wpList_store_row rfl 148 _ _ rfl (w.heap.size + 1 + 1) hoZ.toArray rfl rfl 148 _ kR7 sH rfl (all_one hoZ_one) ?_))
      refine bodyPost_ret (v := .tuple #[.agg hoZ.toArray, .bool false]) ?_ rfl FIN.out
      exact results_cellTmp Tryz.results84 _ _ (w.heap.size + 1 + 1) 148 hoZ.toArray _ rfl kF Tryz.underlying148 rfl sH rfl
    obtain ⟨o, ⟨fs, own⟩, hro, hfo⟩ := hyes
    have HY : Calls Tryz.prog 150 #[.pointer (some ⟨w.heap.size, 0, none⟩), .pointer (some ⟨w.heap.size + 1, 0, none⟩), .pointer (some ⟨hb, 0, none⟩)] W5 fun e w' => e = .returned (.tuple #[]) ∧ (OnlyS (fun k => X k ∨ k = hb) W5 w' ∧ HoQ N S hb o fs own W5 w') := HO.mono (by
      rintro e w' ⟨o', ⟨o2, fs2, own2, h1, h2, he, hq⟩ | ⟨h1 | h1, he⟩⟩
      · rw [hro] at h1; rw [hfo] at h2
        cases h1; cases h2
        exact ⟨he, o', hq⟩
      · rw [hro] at h1; cases h1
      · rw [hfo] at h1; cases h1)
    have RD := reads_yes 150 _ W5 _ (fun _ => rfl) HY
    have hR : Hid (hoB P N (pages : Nat) gen root (M : Nat) free = once (srt (pgNo o) ++ (fs ++ own)) M) := by show hoB P N (pages : Nat) gen root (M : Nat) free = _; rw [hB2.out]; exact hoR_yes hro hfo
    clear HO HY hro hfo hB2
    go_wp2_with fail
    refine Calls.mono RD ?_
    rintro e w6 ⟨rfl, o6, hq⟩
    clear RD
    obtain ⟨gt, F, a, c, a2, c2, kH6, T6, hF, of6, oo6⟩ := hq.ex
    obtain ⟨hok6, hln6, hn06⟩ := trGood_len hq.good
    have hlf := hq.lf
    have hlo := hq.lo
    have PG := trPages_calls gt o F w6 T6 hok6 (by have := PW.le; omega) hn06
    have c6 : w6.cell? ⟨hb, 0, none⟩ = some (.pointer (some ⟨gt, 0, none⟩)) := kH6.cell 0
    have z6 := o6.size
    have hXl : ∀ g, B0 ≤ g → g ≠ hb → ¬ (X g ∨ g = hb) := fun g h1 h2 e => by
      rcases e with e | e
      · have := HS.low _ e; omega
      · exact h2 e
    have kP6 := H5.out.2.1.onlyS o6 (hXl _ (by omega) (by omega))
    have kR6 := H5.out.2.2.1.onlyS o6 (hXl _ (by omega) (by omega))
    have fr6 : OnlyS X w w6 := (OnlyS.ofBelow H5.out.1).transN o6 (fun k hk e => by rcases e with e | e; exact e; omega)
    have H6 : Hid _ := And.intro kH6 (And.intro of6 (And.intro oo6 (And.intro kP6 (And.intro kR6 (And.intro fr6 hq.src)))))
    have hnl : (pgNo o).length ≤ 1024 := by have := PW.le; omega
    have HNL : Hid ((srt (pgNo o)).length = (pgNo o).length) := srt_len _
    clear kH6 T6 hF of6 oo6 kP6 kR6 fr6 hq hok6 hln6 hn06 H5 o6 hXl
    go_upto_region 8 with fail
    refine PG.mono ?_
    rintro e w7 ⟨ap, cp, rfl, b7, op7⟩
    clear PG
    have kH7 := H6.out.1.below b7
    have c7 := kH7.cell 1
    have f7 := kH7.free 1
    generalize hnp : (pgNo o).length = np at *
    have o8 := onlyB_setCell w7 hb 1 (.slice ap np cp)
    have kH8 := kH7.set 1 (.slice ap np cp)
    have of8 := (H6.out.2.1.below b7).keep (keepT_only o8 kH7 (by decide))
    have oo8 := (H6.out.2.2.1.below b7).keep (keepT_only o8 kH7 (by decide))
    have op8 := op7.keep (keepT_only o8 kH7 (by decide))
    have kP8 := (H6.out.2.2.2.1.below b7).only o8 (by omega)
    have kR8 := (H6.out.2.2.2.2.1.below b7).only o8 (by omega)
    have z7 := b7.size
    have fr8 : OnlyS X w (w7.setCell ⟨hb, 1, none⟩ (.slice ap np cp)) := (H6.out.2.2.2.2.2.1.trans (OnlyS.ofBelow b7)).transN (OnlyS.ofB o8) (fun k hk e => by omega)
    have S8 : S (w7.setCell ⟨hb, 1, none⟩ (.slice ap np cp)) := HS.keep _ _ (HS.keep _ _ H6.out.2.2.2.2.2.2 (b7.mono (by omega)) (keepT_below b7)) (o8.below (by omega) (by omega)) (keepT_only o8 kH7 (by decide))
    have z8 := o8.size
    have H8 : Hid _ := And.intro kH8 (And.intro of8 (And.intro oo8 (And.intro op8 (And.intro kP8 (And.intro kR8 (And.intro fr8 S8))))))
    clear kH7 o8 kH8 of8 oo8 op8 kP8 kR8 fr8 S8 op7 b7 H6 c6
    go_upto_region 8 with fail
    generalize w7.setCell ⟨hb, 1, none⟩ (.slice ap np cp) = W8 at *
    clear c7 f7
    have cs8 : W8.drew.cell? ⟨hb, 0, none⟩ = some (.pointer (some ⟨gt, 0, none⟩)) ∧ W8.drew.cell? ⟨hb, 1, none⟩ = some (.slice ap np cp) ∧ W8.drew.cell? ⟨hb, 2, none⟩ = some (.slice a fs.length c) ∧ W8.drew.cell? ⟨hb, 3, none⟩ = some (.slice a2 own.length c2) ∧ W8.drew.cell? ⟨w.heap.size + 1, 2, none⟩ = some (.int .i64 (M : Nat)) := ⟨Blk.cell H8.out.1 0, Blk.cell H8.out.1 1, Blk.cell H8.out.1 2, Blk.cell H8.out.1 3, Blk.cell H8.out.2.2.2.2.1 2⟩
    have hbW : hb < W8.heap.size := by omega
    have HCS : Hid (∀ u, Below W8.heap.size W8 u → u.cell? ⟨hb, 0, none⟩ = some (.pointer (some ⟨gt, 0, none⟩)) ∧ u.cell? ⟨hb, 1, none⟩ = some (.slice ap np cp) ∧ u.cell? ⟨hb, 2, none⟩ = some (.slice a fs.length c) ∧ u.cell? ⟨hb, 3, none⟩ = some (.slice a2 own.length c2) ∧ u.cell? ⟨w.heap.size + 1, 2, none⟩ = some (.int .i64 (M : Nat))) := fun u hu => ⟨Blk.cell (H8.out.1.below hu) 0, Blk.cell (H8.out.1.below hu) 1, Blk.cell (H8.out.1.below hu) 2, Blk.cell (H8.out.1.below hu) 3, Blk.cell (H8.out.2.2.2.2.1.below hu) 2⟩
    refine wp_regionD (fun u => u.cell? ⟨hb, 0, none⟩ = some (.pointer (some ⟨gt, 0, none⟩)) ∧ u.cell? ⟨hb, 1, none⟩ = some (.slice ap np cp) ∧ u.cell? ⟨hb, 2, none⟩ = some (.slice a fs.length c) ∧ u.cell? ⟨hb, 3, none⟩ = some (.slice a2 own.length c2) ∧ u.cell? ⟨w.heap.size + 1, 2, none⟩ = some (.int .i64 (M : Nat))) (fun k => decide (12 ≤ k)) (by kernel_rfl) ?_
    refine takeY 0 29 cs8 ?_
    simp only [Act.put, setL, List.set]
    refine takeY 1 30 cs8 ?_
    simp only [Act.put, setL, List.set]
    refine takeY 2 31 cs8 ?_
    simp only [Act.put, setL, List.set]
    refine takeY 3 32 cs8 ?_
    simp only [Act.put, setL, List.set]
    refine takeY 4 33 cs8 ?_
    simp only [Act.put, setL, List.set]
    refine takeY 5 34 cs8 ?_
    simp only [Act.put, setL, List.set]
    refine takeY 6 35 cs8 ?_
    simp only [Act.put, setL, List.set]
    refine takeY 9 38 cs8 ?_
    simp only [Act.put, setL, List.set]
    refine takeY 10 39 cs8 ?_
    simp only [Act.put, setL, List.set]
    refine wpAnyD_one 7 (by kernel_rfl) rfl (fun KK hK => ?_)
    rw [if_pos (show Region.wanted _ _ = true from rfl)]
    go_wp2_with fail
    have q9 : Below W8.heap.size W8 (W8.alloc (Obj.cells #[.slice ap np cp, .slice a fs.length c, .slice a2 own.length c2] 119)).drew := ((Below.refl _ _).alloc (Nat.le_refl _) _).drew
    refine hK.out _ _ (fun _ => HCS.out _ q9) ?_
    clear hK KK
    have k9 : Blk (W8.alloc (Obj.cells #[.slice ap np cp, .slice a fs.length c, .slice a2 own.length c2] 119)).drew 119 W8.heap.size [.slice ap np cp, .slice a fs.length c, .slice a2 own.length c2] := blk_new W8 119 #[.slice ap np cp, .slice a fs.length c, .slice a2 own.length c2]
    generalize (W8.alloc (Obj.cells #[.slice ap np cp, .slice a fs.length c, .slice a2 own.length c2] 119)).drew = W9 at *
    generalize hkb : W8.heap.size = kb at *
    have CC := concatN_calls kb 0 3 3 (fun i => [ap, a, a2].getD i none) (fun i => [np, fs.length, own.length].getD i 0) (fun i => [cp, c, c2].getD i 0) (fun i => [srt (pgNo o), fs, own].getD i []) W9 k9.lt (by omega)
      (fun i hi => by
        have : i = 0 ∨ i = 1 ∨ i = 2 := by omega
        rcases this with rfl | rfl | rfl
        · exact k9.cell 0
        · exact k9.cell 1
        · exact k9.cell 2)
      (fun i hi => by
        have : i = 0 ∨ i = 1 ∨ i = 2 := by omega
        rcases this with rfl | rfl | rfl
        · exact (H8.out.2.2.2.1.below (by rw [hkb]; exact q9)).mono (Nat.zero_le _)
        · exact (H8.out.2.1.below (by rw [hkb]; exact q9)).mono (Nat.zero_le _)
        · exact (H8.out.2.2.1.below (by rw [hkb]; exact q9)).mono (Nat.zero_le _))
      (by simp [catN, HNL.out]; omega)
    rw [show catN (fun i => [srt (pgNo o), fs, own].getD i []) 3 = srt (pgNo o) ++ (fs ++ own) by simp [catN]] at CC
    have hLl : (srt (pgNo o) ++ (fs ++ own)).length ≤ 1048576 := by rw [List.length_append, List.length_append, HNL.out]; omega
    generalize srt (pgNo o) ++ (fs ++ own) = Lc at *
    have HQ9 : Hid _ := q9
    have hz9 := q9.size
    clear k9 q9
    refine wpAnyD_one 8 (by kernel_rfl) rfl (fun KK hK => ?_)
    rw [if_pos (show Region.wanted _ _ = true from rfl)]
    go_wp2_with fail
    refine CC.mono ?_
    rintro e w10 ⟨ac, cc, rfl, b10, o10⟩
    have d10 : Below kb W8 w10 := HQ9.out.trans (b10.mono (by omega))
    have AO := allOnce_calls W9.heap.size ac cc Lc M w10 o10 hLl (by omega)
    have H10 : Hid _ := And.intro d10 o10
    have hz10 := b10.size
    clear CC d10 b10 o10 HQ9
    go_wp2_with fail
    refine hK.out _ _ (fun _ => HCS.out _ H10.out.1) ?_
    clear hK KK
    refine wpAnyD_one 11 (by kernel_rfl) rfl (fun KK hK => ?_)
    rw [if_pos (show Region.wanted _ _ = true from rfl)]
    go_wp2_with fail
    refine AO.mono ?_
    rintro e w11 ⟨rfl, g11⟩
    have b11 : Below kb W8 w11 := H10.out.1.grown g11 (by omega) (fun k e => by have := (World.ownsRow.lt H10.out.2 k e).1; omega)
    have k11 : KeepT 5 w10 w11 := keepT_grown H10.out.2 g11 (by decide)
    have kR11 := H8.out.2.2.2.2.2.1.below (by rw [hkb]; exact b11)
    have S11 : S w11 := HS.keep _ _ H8.out.2.2.2.2.2.2.2 (b11.mono (by omega)) ((keepT_below (by rw [hkb]; exact H10.out.1)).trans k11)
    have o12 := onlyB_setRow w11 (w.heap.size + 1 + 1) (hoC (.pointer (some ⟨gt, 0, none⟩)) (.slice ap np cp) (.slice a fs.length c) (.slice a2 own.length c2)).toArray
    have kF := kR11.setRow (hoC (.pointer (some ⟨gt, 0, none⟩)) (.slice ap np cp) (.slice a fs.length c) (.slice a2 own.length c2))
    have hz11 := b11.size
    have FIN : Hid (HiP P N S X (hoB P N (pages : Nat) gen root (M : Nat) free) w (.returned (.tuple #[.agg (hoC (.pointer (some ⟨gt, 0, none⟩)) (.slice ap np cp) (.slice a fs.length c) (.slice a2 own.length c2)).toArray, .bool (once Lc M)])) (w11.setRow (w.heap.size + 1 + 1) (hoC (.pointer (some ⟨gt, 0, none⟩)) (.slice ap np cp) (.slice a fs.length c) (.slice a2 own.length c2)).toArray)) := by
      refine ⟨(H8.out.2.2.2.2.2.2.1.trans (OnlyS.ofBelow (by rw [hkb]; exact b11))).transN (OnlyS.ofB o12) (fun k hk e => by omega), fun _ => HS.keep _ _ S11 (o12.below (by omega) (by omega)) (keepT_only o12 kR11 (by decide)), _, rfl, ?_, by rw [hR.out]⟩
      exact hoC_one _ _ _ _ _ _ _ _ _ _
    have HCS11 := HCS.out _ b11
    clear AO b11 k11 S11 o12 H10
    go_wp2_with fail
    refine hK.out _ _ (fun _ => HCS11) ?_
    clear hK KK HCS11
    refine wpAnyD_one 12 (by kernel_rfl) rfl (fun KK hK => ?_)
    rw [if_pos (show Region.wanted _ _ = true from rfl)]
    refine wp_store_row 148 _ _ rfl (w.heap.size + 1 + 1) (hoC (.pointer (some ⟨gt, 0, none⟩)) (.slice ap np cp) (.slice a fs.length c) (.slice a2 own.length c2)).toArray rfl rfl 148 _ kR11 sizeHo rfl (all_one (hoC_one _ _ _ _ _ _ _ _ _ _)) ?_
    refine hK.out _ _ (fun h => absurd h (by decide)) ?_
    clear hK KK
    refine wpAnyD_one 13 (by kernel_rfl) rfl (fun KK hK => ?_)
    rw [if_pos (show Region.wanted _ _ = true from rfl)]
    go_wp2_with fail
    refine hK.out _ _ (fun h => absurd h (by decide)) ?_
    clear hK KK
    refine wpAnyD_done (by kernel_rfl) ?_ _
    clear cs8
    go_wp2_with fail
    refine bodyPost_ret (v := .tuple #[.agg (hoC (.pointer (some ⟨gt, 0, none⟩)) (.slice ap np cp) (.slice a fs.length c) (.slice a2 own.length c2)).toArray, .bool (once Lc M)]) ?_ rfl FIN.out
    exact results_cellTmp Tryz.results84 _ _ (w.heap.size + 1 + 1) 148 (hoC (.pointer (some ⟨gt, 0, none⟩)) (.slice ap np cp) (.slice a fs.length c) (.slice a2 own.length c2)).toArray _ rfl kF Tryz.underlying148 rfl sizeHo rfl
end Go.Proofs.YtnohmedccbogkaaGreatDoor

namespace Go.Proofs.YtnohmedccbogkaaGreatDoor
open Go.RowKit
def fitB (K : DK) (t : Int) (n : Nat) : Bool := decide (0 ≤ t ∧ t < K.n ∧ n = 64)
set_option maxHeartbeats 400000 in
theorem hasSector_calls (sa pa : Option Addr) (sc pc : Nat) (K : DK) (t : Int) (w : World) (_hn : K.n ≤ 4096) :
    Calls Tryz.prog 206 #[.agg #[.slice sa K.n sc, .slice pa K.m pc], .int .i64 t] w fun e w' => e = .returned (.bool (decide (0 ≤ t ∧ t < K.n))) ∧ Below w.heap.size w w' := by
  have Q0 : Hid _ := (Below.refl w.heap.size w).alloc (Nat.le_refl _) (.cells #[.slice sa K.n sc, .slice pa K.m pc] 37)
  by_cases h1 : 0 ≤ t
  · by_cases h2 : t < (K.n : Int)
    · rw [show decide (0 ≤ t ∧ t < (K.n : Int)) = true from decide_eq_true ⟨h1, h2⟩]
      go_enter Tryz.func206, Tryz.ntmps206
      go_wp2
      go_ret
      exact ⟨rfl, Q0.out⟩
    · rw [show decide (0 ≤ t ∧ t < (K.n : Int)) = false from decide_eq_false (by omega)]
      have d2 : decide (t < (K.n : Int)) = false := by simp; omega
      go_enter Tryz.func206, Tryz.ntmps206
      go_wp2
      go_ret
      exact ⟨rfl, Q0.out⟩
  · rw [show decide (0 ≤ t ∧ t < (K.n : Int)) = false from decide_eq_false (by omega)]
    have d2 : decide (0 ≤ t) = false := by simp; omega
    go_enter Tryz.func206, Tryz.ntmps206
    go_wp2
    go_ret
    exact ⟨rfl, Q0.out⟩
set_option maxHeartbeats 400000 in
theorem writeFits_calls (sa pa : Option Addr) (sc pc : Nat) (K : DK) (t : Int) (a : Option Addr) (n c : Nat) (w : World) (_hm : n ≤ maxLen) (hn : K.n ≤ 4096) :
    Calls Tryz.prog 182 #[.agg #[.slice sa K.n sc, .slice pa K.m pc], .int .i64 t, .slice a n c] w fun e w' => e = .returned (.bool (fitB K t n)) ∧ Below w.heap.size w w' := by
  unfold maxLen at _hm
  have q0 := (Below.refl w.heap.size w).alloc (Nat.le_refl _) (.cells #[.slice sa K.n sc, .slice pa K.m pc] 37)
  have Q0 : Hid _ := q0
  clear q0
  by_cases h1 : 0 ≤ t ∧ t < (K.n : Int)
  · have H1 : Hid (decide (0 ≤ t ∧ t < (K.n : Int)) = true) := decide_eq_true h1
    by_cases h2 : n = 64
    · rw [show fitB K t n = true from decide_eq_true ⟨h1.1, h1.2, h2⟩]
      have e2 : ((n : Int) == 64) = true := by simp; omega
      clear h1 h2
      go_enter Tryz.func182, Tryz.ntmps182
      go_wp2_with fail
      refine (hasSector_calls sa pa sc pc K t _ hn).mono ?_
      rw [H1.out]
      rintro e w1 ⟨rfl, b1⟩
      have d1 := Q0.out.trans (b1.mono Q0.out.size)
      go_wp2
      go_ret
      exact ⟨rfl, d1⟩
    · rw [show fitB K t n = false from decide_eq_false (fun h => h2 h.2.2)]
      have e2 : ((n : Int) == 64) = false := by simp; omega
      clear h1 h2
      go_enter Tryz.func182, Tryz.ntmps182
      go_wp2_with fail
      refine (hasSector_calls sa pa sc pc K t _ hn).mono ?_
      rw [H1.out]
      rintro e w1 ⟨rfl, b1⟩
      have d1 := Q0.out.trans (b1.mono Q0.out.size)
      go_wp2
      go_ret
      exact ⟨rfl, d1⟩
  · have H1 : Hid (decide (0 ≤ t ∧ t < (K.n : Int)) = false) := decide_eq_false h1
    rw [show fitB K t n = false from decide_eq_false (fun h => h1 ⟨h.1, h.2.1⟩)]
    clear h1
    go_enter Tryz.func182, Tryz.ntmps182
    go_wp2_with fail
    refine (hasSector_calls sa pa sc pc K t _ hn).mono ?_
    rw [H1.out]
    rintro e w1 ⟨rfl, b1⟩
    have d1 := Q0.out.trans (b1.mono Q0.out.size)
    go_wp2
    go_ret
    exact ⟨rfl, d1⟩
set_option maxRecDepth 100000 in
set_option maxHeartbeats 1000000 in
theorem implDiskOk_core (sa pa : Option Addr) (sc pc : Nat) (sA pA : Nat → Option Addr) (sN sC pN pC : Nat → Nat) (K : DK) (w : World) (hs : RRecs 0 w sa K.n sc zI sA sN sC K.S) (hp : RRecs 1 w pa K.m pc (aI K) pA pN pC K.D) :
    Calls Tryz.prog 148 #[.agg #[.slice sa K.n sc, .slice pa K.m pc]] w fun e w' => e = .returned (.bool (dOkB K)) ∧ Below w.heap.size w w' := by
  have hmn : K.n ≤ maxLen := Nat.le_trans hs.le hs.le'
  have hmm : K.m ≤ maxLen := Nat.le_trans hp.le hp.le'
  unfold maxLen at hmn hmm
  have q0 := (Below.refl w.heap.size w).alloc (Nat.le_refl _) (.cells #[.slice sa K.n sc, .slice pa K.m pc] 37)
  have Q0 : Hid _ := q0
  have OKF : Hid (∀ (_ : ¬ dOk K), dOkB K = false) := dOk_false
  have OKT : Hid (∀ (_ : dOk K), dOkB K = true) := dOk_true
  by_cases h1 : (K.n : Int) < 1
  · have FV : Hid (dOkB K = false) := OKF.out (fun hk => by have := hk.1; omega)
    clear q0
    go_enter Tryz.func148, Tryz.ntmps148
    go_wp2
    go_ret
    exact ⟨by rw [FV.out]; rfl, Q0.out⟩
  · by_cases h2 : (4096 : Int) < (K.n : Int)
    · have FV : Hid (dOkB K = false) := OKF.out (fun hk => by have := hk.1; omega)
      clear q0
      go_enter Tryz.func148, Tryz.ntmps148
      go_wp2
      go_ret
      exact ⟨by rw [FV.out]; rfl, Q0.out⟩
    · by_cases h3 : (5000 : Int) < (K.m : Int)
      · have FV : Hid (dOkB K = false) := OKF.out (fun hk => by have := hk.1; omega)
        clear q0
        go_enter Tryz.func148, Tryz.ntmps148
        go_wp2
        go_ret
        exact ⟨by rw [FV.out]; rfl, Q0.out⟩
      · have s0 := hs.below q0
        have p0 := hp.below q0
        clear q0
        have hsl : ∀ i, i < K.n → (K.S i).length = sN i := fun i hi => (hs.data i hi).len_eq
        have hpl : ∀ i, i < K.m → (K.D i).length = pN i := fun i hi => (hp.data i hi).len_eq
        have hpm : ∀ i, i < K.m → pN i ≤ maxLen := fun i hi => Nat.le_trans (hp.data i hi).le (hp.data i hi).le'
        have hsm : ∀ i, i < K.n → sN i ≤ maxLen := fun i hi => Nat.le_trans (hs.data i hi).le (hs.data i hi).le'
        have HSL : Hid _ := hsl
        have HPL : Hid _ := hpl
        have HPM : Hid _ := hpm
        have HSM : Hid _ := hsm
        clear hsl hpl hpm hsm hs hp
        have e1 : decide ((K.n : Int) < 1) = false := by simp; omega
        have e2 : decide ((4096 : Int) < (K.n : Int)) = false := by simp; omega
        have e3 : decide ((5000 : Int) < (K.m : Int)) = false := by simp; omega
        have e4 : ((K.n : Int)) ≤ 4096 := by omega
        have e5 : ((K.m : Int)) ≤ 5000 := by omega
        go_enter Tryz.func148, Tryz.ntmps148
        go_wp2
        go_loop [4, 26] (fun _ i => ∃ j : Nat, j ≤ K.n ∧ i = .int .i64 j ∧ ∀ k, k < j → sN k = 64) (fun _ i => K.n - (intOf i).toNat)
        case atStart => exact ⟨0, Nat.zero_le _, rfl, fun k hk => absurd hk (by omega)⟩
        case round =>
          obtain ⟨j, hj, rfl, hall⟩ := hrel
          have HALL : Hid _ := hall
          clear hall
          by_cases hlt : j < K.n
          · obtain ⟨b, off, rfl, hbl, hc⟩ := s0.at_ (by omega)
            have k0 : (w.alloc (.cells #[.slice (some ⟨b, off, none⟩) K.n sc, .slice pa K.m pc] 37)).cell? ⟨b, off + j, none⟩ = some (.slice (sA j) (sN j) (sC j)) := by have := (hc j hlt).2; simpa using this
            have hm := HSM.out j hlt
            unfold maxLen at hm
            have hi1 : (0 : Int) ≤ (j : Int) := by omega
            have hi2 : (j : Int) < (K.n : Int) := by omega
            clear hc s0 p0
            by_cases h64 : sN j = 64
            · have hb : ((sN j : Int) != 64) = false := by simp; omega
              have H64 : Hid (sN j = 64) := h64
              clear h64
              go_wp2
              go_round
              case rel =>
                refine ⟨j + 1, by omega, by go_num, fun k hk => ?_⟩
                by_cases e : k = j
                · subst e; exact H64.out
                · exact HALL.out k (by omega)
              case measure => simp [intOf]; omega
            · have hb : ((sN j : Int) != 64) = true := by simp; omega
              have FV : Hid (dOkB K = false) := OKF.out (fun hk => h64 (by rw [← HSL.out j hlt]; exact hk.2.1 j hlt))
              clear h64
              go_wp2
              go_ret
              exact ⟨by rw [FV.out]; rfl, Q0.out⟩
          · have e : j = K.n := by omega
            have HJ : Hid (j = K.n) := e
            clear e s0
            have hd : decide ((j : Int) < (K.n : Int)) = false := by simp; omega
            go_wp2
            go_loopw [6, 37] (fun _ i wr => ∃ q : Nat, q ≤ K.m ∧ i = .int .i64 q ∧ Below (w.alloc (.cells #[.slice sa K.n sc, .slice pa K.m pc] 37)).heap.size (w.alloc (.cells #[.slice sa K.n sc, .slice pa K.m pc] 37)) wr ∧ ∀ k, k < q → 0 ≤ K.At k ∧ K.At k < K.n ∧ pN k = 64) (fun _ i _ => K.m - (intOf i).toNat)
            case atStart => exact ⟨0, Nat.zero_le _, rfl, Below.refl _ _, fun k hk => absurd hk (by omega)⟩
            case round =>
              obtain ⟨q, hq, rfl, hb, hpa⟩ := hrel
              have HPA : Hid _ := hpa
              clear hpa
              have c0 : wr.cell? ⟨w.heap.size, 0, none⟩ = some (.slice sa K.n sc) := by rw [hb.cell (p := ⟨w.heap.size, 0, none⟩) (by simp)]; simp
              have c1 : wr.cell? ⟨w.heap.size, 1, none⟩ = some (.slice pa K.m pc) := by rw [hb.cell (p := ⟨w.heap.size, 1, none⟩) (by simp)]; simp
              have zr : w.heap.size < wr.heap.size := by have := hb.size; simp at this; omega
              have DB : Hid (Below w.heap.size w wr) := Q0.out.trans (hb.mono Q0.out.size)
              have HB : Hid _ := hb
              have p1 := p0.below hb
              clear hb
              by_cases hlt2 : q < K.m
              · obtain ⟨b, off, rfl, hbl, hc⟩ := p1.at_ (by omega)
                have k0 : wr.cell? ⟨b, off + q * 2, none⟩ = some (.int .i64 (K.At q)) := (hc q hlt2).1 0 (by omega)
                have k1 : wr.cell? ⟨b, off + q * 2 + 1, none⟩ = some (.slice (pA q) (pN q) (pC q)) := (hc q hlt2).2
                have hm := HPM.out q hlt2
                have HD' : Hid _ := HPL.out q hlt2
                have hi1 : (0 : Int) ≤ (q : Int) := by omega
                have hi2 : (q : Int) < (K.m : Int) := by omega
                clear hc p0 p1
                go_wp2_with fail
                refine (writeFits_calls sa (some ⟨b, off, none⟩) sc pc K (K.At q) (pA q) (pN q) (pC q) _ hm (by omega)).mono ?_
                rintro e w2 ⟨rfl, b2⟩
                have b2' := (HB.out.alloc HB.out.size _).trans (b2.mono (Nat.le_trans HB.out.size (by simp)))
                have D2 : Hid (Below w.heap.size w w2) := Q0.out.trans (b2'.mono Q0.out.size)
                have B2 : Hid _ := b2'
                clear b2 b2' k0 k1 c0 c1
                cases hv : fitB K (K.At q) (pN q) with
                | true =>
                  have hv' := of_decide_eq_true hv
                  have HV : Hid _ := hv'
                  clear hv hv'
                  go_wp2
                  go_roundw
                  case rel =>
                    refine ⟨q + 1, by omega, by go_num, B2.out, fun k hk => ?_⟩
                    by_cases e : k = q
                    · subst e; exact HV.out
                    · exact HPA.out k (by omega)
                  case measure => simp [intOf]; omega
                | false =>
                  have hv' := of_decide_eq_false hv
                  have FV : Hid (dOkB K = false) := OKF.out (fun hk => hv' (by have := hk.2.2 q hlt2; rw [HD'.out] at this; exact this))
                  clear hv hv'
                  go_wp2
                  go_ret
                  exact ⟨by rw [FV.out]; rfl, D2.out⟩
              · have hd2 : decide ((q : Int) < (K.m : Int)) = false := by simp; omega
                have FV : Hid (dOkB K = true) := OKT.out ⟨⟨by omega, by omega, by omega⟩, fun i hi => by rw [HSL.out i hi]; exact HALL.out i (by have := HJ.out; omega), fun i hi => by have := HPA.out i (by omega); rw [HPL.out i hi]; exact this⟩
                go_wp2
                go_ret
                exact ⟨by rw [FV.out]; rfl, DB.out⟩
theorem implDiskOk_calls (d : DV) (K : DK) (w : World) (h : RDisk w d K) :
    Calls Tryz.prog 148 #[dval d K] w fun e w' => e = .returned (.bool (dOkB K)) ∧ Below w.heap.size w w' := implDiskOk_core d.sa d.pa d.sc d.pc d.sA d.pA d.sN d.sC d.pN d.pC K w h.safe h.pend
end Go.Proofs.YtnohmedccbogkaaGreatDoor

namespace Go.Proofs.YtnohmedccbogkaaGreatDoor
open Go.RowKit Go.Maps
theorem law3 : Keyed Tryz.prog 3 := int_keyed Tryz.underlying3
theorem zero3 (w : World) : (zeroValue 3).run Tryz.prog w = .ok (.int .i64 0) w := by kernel_rfl
def lastD (At : Nat → Int) : Nat → DataW Unit
  | 0 => .map []
  | j + 1 => (lastD At j).put (.int .i64 (At j)) (.lit (.int .i64 (j : Int)))
theorem lastD_isMap (At : Nat → Int) : ∀ j, IsMap (lastD At j)
  | 0 => ⟨[], rfl⟩
  | j + 1 => (lastD_isMap At j).put _ _
theorem lastD_has (At : Nat → Int) (t : Int) : ∀ j, Maps.has (lastD At j) (.int .i64 t) = (lastTo At t j).isSome
  | 0 => rfl
  | j + 1 => by
    show Maps.has ((lastD At j).put _ _) _ = _
    by_cases e : At j = t
    · subst e
      rw [has_put_same (lastD_isMap At j) (by exact trivial)]
      simp [lastTo]
    · rw [has_put_other (by intro h; apply e; cases h; rfl), lastD_has At t j]
      simp [lastTo, e]
theorem lastD_at (At : Nat → Int) (t : Int) : ∀ j i, lastTo At t j = some i → (lastD At j).atKey (.int .i64 t) (.lit (.int .i64 0)) = .lit (.int .i64 (i : Int))
  | 0, i, h => by simp [lastTo] at h
  | j + 1, i, h => by
    show ((lastD At j).put _ _).atKey _ _ = _
    simp only [lastTo] at h
    by_cases e : At j = t
    · subst e
      rw [if_pos rfl] at h
      cases h
      rw [atKey_put_same (lastD_isMap At j) (by exact trivial)]
    · rw [if_neg e] at h
      rw [atKey_put_other (by intro h; apply e; cases h; rfl)]
      exact lastD_at At t j i h
def rZ : Value := .agg #[.slice none 0 0, .slice none 0 0, .map none]
set_option maxRecDepth 100000 in
set_option maxHeartbeats 1000000 in
theorem newReader_no (d : DV) (K : DK) (w : World) (h : RDisk w d K) (hok : ¬ dOk K) :
    Calls Tryz.prog 83 #[dval d K] w fun e w' => e = .returned (.tuple #[rZ, .bool false]) ∧ Below w.heap.size w w' := by
  have Q0 : Hid _ := ((Below.refl w.heap.size w).alloc (Nat.le_refl _) (.cells #[.slice d.sa K.n d.sc, .slice d.pa K.m d.pc] 37)).alloc (by simp) (.cells #[.slice none 0 0, .slice none 0 0, .map none] 140)
  have HV : Hid (dOkB K = false) := dOk_false hok
  clear hok
  unfold dval
  go_enter Tryz.func83, Tryz.ntmps83
  go_wp2_with fail
  refine (implDiskOk_calls d K _ (h.below Q0.out)).mono ?_
  rw [HV.out]
  rintro e w1 ⟨rfl, b1⟩
  have k0 : w1.cell? ⟨w.heap.size + 1, 0, none⟩ = some (.slice none 0 0) := by rw [b1.cell (p := ⟨w.heap.size + 1, 0, none⟩) (by simp)]; simp
  have k1 : w1.cell? ⟨w.heap.size + 1, 1, none⟩ = some (.slice none 0 0) := by rw [b1.cell (p := ⟨w.heap.size + 1, 1, none⟩) (by simp)]; simp
  have k2 : w1.cell? ⟨w.heap.size + 1, 2, none⟩ = some (.map none) := by rw [b1.cell (p := ⟨w.heap.size + 1, 2, none⟩) (by simp)]; simp
  have f0 : w1.frozen? ⟨w.heap.size + 1, 0, none⟩ = false := by rw [b1.frozen (p := ⟨w.heap.size + 1, 0, none⟩) (by simp)]; simp
  have f1 : w1.frozen? ⟨w.heap.size + 1, 1, none⟩ = false := by rw [b1.frozen (p := ⟨w.heap.size + 1, 1, none⟩) (by simp)]; simp
  have f2 : w1.frozen? ⟨w.heap.size + 1, 2, none⟩ = false := by rw [b1.frozen (p := ⟨w.heap.size + 1, 2, none⟩) (by simp)]; simp
  have d1 : Below w.heap.size w w1 := Q0.out.trans (b1.mono Q0.out.size)
  clear b1
  go_wp2
  have b2 := ((d1.setCell (p := ⟨w.heap.size + 1, 0, none⟩) (Nat.le_succ _) (.slice none 0 0)).setCell (p := ⟨w.heap.size + 1, 1, none⟩) (Nat.le_succ _) (.slice none 0 0)).setCell (p := ⟨w.heap.size + 1, 2, none⟩) (Nat.le_succ _) (.map none)
  exact bodyPost_ret (v := .tuple #[rZ, .bool false]) (by simp [results, Tryz.results83, go_sem, k0, k1, k2, rZ]) rfl ⟨rfl, b2⟩
theorem keyI {t : Int} (h0 : 0 ≤ t) (h1 : t < 4096) : keyOf Tryz.prog 3 (.int .i64 t) = some (.int .i64 t) := keyOf_int_mk Tryz.underlying3 (WalkArith.wf_i64 (by omega))
set_option maxRecDepth 100000 in
set_option maxHeartbeats 1000000 in
theorem newReader_core (sa pa : Option Addr) (sc pc : Nat) (sA pA : Nat → Option Addr) (sN sC pN pC : Nat → Nat) (K : DK) (w : World) (hs : RRecs 0 w sa K.n sc zI sA sN sC K.S) (hp : RRecs 1 w pa K.m pc (aI K) pA pN pC K.D) (hok : dOk K) :
    Calls Tryz.prog 83 #[.agg #[.slice sa K.n sc, .slice pa K.m pc]] w fun e w' => ∃ g, e = .returned (.tuple #[.agg #[.slice sa K.n sc, .slice pa K.m pc, .map (some g)], .bool true]) ∧ Below w.heap.size w w' ∧ w'.ownsMap Tryz.prog 3 (plainElem Tryz.prog 3) g K.m (lastD K.At K.m) := by
  obtain ⟨⟨hn1, hn2, hm1⟩, _, hP⟩ := id hok
  have hmm := @run_makeMap Tryz.prog
  have Q0 : Hid _ := ((Below.refl w.heap.size w).alloc (Nat.le_refl _) (.cells #[.slice sa K.n sc, .slice pa K.m pc] 37)).alloc (by simp) (.cells #[.slice none 0 0, .slice none 0 0, .map none] 140)
  have HV : Hid (dOkB K = true) := dOk_true hok
  have HP : Hid _ := hP
  clear hP hok
  go_enter Tryz.func83, Tryz.ntmps83
  go_wp2_with fail
  refine (implDiskOk_core sa pa sc pc sA pA sN sC pN pC K _ (hs.below Q0.out) (hp.below Q0.out)).mono ?_
  rw [HV.out]
  rintro e w1 ⟨rfl, b1⟩
  have c0 : w1.cell? ⟨w.heap.size, 0, none⟩ = some (.slice sa K.n sc) := by rw [b1.cell (p := ⟨w.heap.size, 0, none⟩) (by simp; omega)]; simp
  have c1 : w1.cell? ⟨w.heap.size, 1, none⟩ = some (.slice pa K.m pc) := by rw [b1.cell (p := ⟨w.heap.size, 1, none⟩) (by simp; omega)]; simp
  have k0 : w1.cell? ⟨w.heap.size + 1, 0, none⟩ = some (.slice none 0 0) := by rw [b1.cell (p := ⟨w.heap.size + 1, 0, none⟩) (by simp)]; simp
  have k1 : w1.cell? ⟨w.heap.size + 1, 1, none⟩ = some (.slice none 0 0) := by rw [b1.cell (p := ⟨w.heap.size + 1, 1, none⟩) (by simp)]; simp
  have k2 : w1.cell? ⟨w.heap.size + 1, 2, none⟩ = some (.map none) := by rw [b1.cell (p := ⟨w.heap.size + 1, 2, none⟩) (by simp)]; simp
  have f0 : w1.frozen? ⟨w.heap.size + 1, 0, none⟩ = false := by rw [b1.frozen (p := ⟨w.heap.size + 1, 0, none⟩) (by simp)]; simp
  have f1 : w1.frozen? ⟨w.heap.size + 1, 1, none⟩ = false := by rw [b1.frozen (p := ⟨w.heap.size + 1, 1, none⟩) (by simp)]; simp
  have f2 : w1.frozen? ⟨w.heap.size + 1, 2, none⟩ = false := by rw [b1.frozen (p := ⟨w.heap.size + 1, 2, none⟩) (by simp)]; simp
  have d1 : Below w.heap.size w w1 := Q0.out.trans (b1.mono Q0.out.size)
  have z1 : w.heap.size + 1 < w1.heap.size := by have := b1.size; simp at this; omega
  have KK : Hid _ := (And.intro (And.intro c0 c1) (And.intro (And.intro k0 (And.intro k1 k2)) (And.intro f0 (And.intro f1 f2))))
  have D1 : Hid _ := d1
  have m1 : (w1.alloc (.map #[] 0)).cell? ⟨w.heap.size, 1, none⟩ = some (.slice pa K.m pc) := by rw [((Below.refl w1.heap.size w1).alloc (Nat.le_refl _) _).cell (p := ⟨w.heap.size, 1, none⟩) (by show w.heap.size < _; omega)]; exact c1
  clear b1 k0 k1 k2 f0 f1 f2 d1
  go_wp2
  go_loopw [5, 6, 15] (fun _ _ i wr => ∃ j : Nat, j ≤ K.m ∧ i = .int .i64 j ∧ Below w1.heap.size w1 wr ∧ wr.ownsMap Tryz.prog 3 (plainElem Tryz.prog 3) w1.heap.size j (lastD K.At j)) (fun _ _ i _ => K.m - (intOf i).toNat)
  case atStart => exact ⟨0, Nat.zero_le _, rfl, (Below.refl _ _).alloc (Nat.le_refl _) _, World.ownsMap_made _ _ _ _⟩
  case round =>
    obtain ⟨j, hj, rfl, hb, ho⟩ := hrel
    by_cases hlt : j < K.m
    · obtain ⟨b2, off2, rfl, hbl2, hc2⟩ := hp.at_ (by omega)
      have hPj := HP.out j hlt
      have D2 : Below w.heap.size w wr := D1.out.trans (hb.mono D1.out.size)
      have k0 : wr.cell? ⟨b2, off2 + j * 2, none⟩ = some (.int .i64 (K.At j)) := by rw [D2.cell (p := ⟨b2, off2 + j * 2, none⟩) hbl2]; exact (hc2 j hlt).1 0 (by omega)
      have k1 : wr.cell? ⟨b2, off2 + j * 2 + 1, none⟩ = some (.slice (pA j) (pN j) (pC j)) := by rw [D2.cell (p := ⟨b2, off2 + j * 2 + 1, none⟩) hbl2]; exact (hc2 j hlt).2
      have hkey := keyI hPj.1 (by have := hPj.2.1; omega)
      have hi1 : (0 : Int) ≤ (j : Int) := by omega
      have hi2 : (j : Int) < (K.m : Int) := by omega
      have HB : Hid _ := hb
      have HO : Hid (wr.ownsMap Tryz.prog 3 (plainElem Tryz.prog 3) w1.heap.size j (lastD K.At j)) := ho
      clear hc2 hp hs hPj hb ho c0 c1 m1
      have ho2 := HO.out.alloc (.cells #[.int .i64 (K.At j), .slice (pA j) (pN j) (pC j)] 211)
      have HO2 : Hid _ := ho2
      clear ho2
      go_wp2_with (first
        | (at_mapUpdate; refine wpList_mapUpdate_own _ rfl _ _ _ 138 rfl 3 3 law3 Tryz.underlying138 (plainElem Tryz.prog 3) w1.heap.size j _ rfl HO2.out (by unfold maxLen; omega) _ _ _ rfl rfl hkey (.lit (.int .i64 (j : Int))) [] (plainElem_int Tryz.underlying3 (WalkArith.wf_i64 (by omega))) ?_; intro w3 ho3 hg3)
        | go_in)
      have BS : Hid (Below w1.heap.size w1 w3) := (HB.out.alloc HB.out.size _).grown hg3 (by have := HB.out.size; simp; omega) (fun k hk => by cases hk; exact Nat.le_refl _)
      have HO3 : Hid (w3.ownsMap Tryz.prog 3 (plainElem Tryz.prog 3) w1.heap.size (j + 1) (lastD K.At (j + 1))) := ho3
      clear ho3 hg3
      go_roundw
      case rel => exact ⟨j + 1, by omega, by go_num, BS.out, HO3.out⟩
      case measure => simp [intOf]; omega
    · have e : j = K.m := by omega
      obtain ⟨⟨c0, c1⟩, ⟨k0, k1, k2⟩, f0, f1, f2⟩ := KK.out
      have HJ : Hid (j = K.m) := e
      have HO : Hid (wr.ownsMap Tryz.prog 3 (plainElem Tryz.prog 3) w1.heap.size j (lastD K.At j)) := ho
      have keyc : ∀ p : Addr, p.block < w1.heap.size → wr.cell? p = w1.cell? p := fun p hp => hb.cell hp
      have keyf : ∀ p : Addr, p.block < w1.heap.size → wr.frozen? p = w1.frozen? p := fun p hp => hb.frozen hp
      have q0 : w.heap.size < w1.heap.size := by omega
      rw [← keyc _ q0] at c0 c1
      rw [← keyc _ z1] at k0 k1 k2
      rw [← keyf _ z1] at f0 f1 f2
      have D2 : Hid (Below w.heap.size w wr) := D1.out.trans (hb.mono D1.out.size)
      clear keyc keyf e ho hb m1 KK hs hp
      go_wp2
      have b2 := ((D2.out.setCell (p := ⟨w.heap.size + 1, 0, none⟩) (Nat.le_succ _) (.slice sa K.n sc)).setCell (p := ⟨w.heap.size + 1, 1, none⟩) (Nat.le_succ _) (.slice pa K.m pc)).setCell (p := ⟨w.heap.size + 1, 2, none⟩) (Nat.le_succ _) (.map (some w1.heap.size))
      have o2 := ((HO.out.setCell (a := ⟨w.heap.size + 1, 0, none⟩) (by show w1.heap.size ≠ w.heap.size + 1; omega) (.slice sa K.n sc)).setCell (a := ⟨w.heap.size + 1, 1, none⟩) (by show w1.heap.size ≠ w.heap.size + 1; omega) (.slice pa K.m pc)).setCell (a := ⟨w.heap.size + 1, 2, none⟩) (by show w1.heap.size ≠ w.heap.size + 1; omega) (.map (some w1.heap.size))
      rw [HJ.out] at o2
      exact bodyPost_ret (v := .tuple #[.agg #[.slice sa K.n sc, .slice pa K.m pc, .map (some w1.heap.size)], .bool true]) (by simp [results, Tryz.results83, go_sem, k0, k1, k2]) rfl ⟨_, rfl, b2, o2⟩
set_option maxRecDepth 100000 in
set_option maxHeartbeats 1000000 in
theorem sector_core (sa pa : Option Addr) (sc pc : Nat) (sA pA : Nat → Option Addr) (sN sC pN pC : Nat → Nat) (K : DK) (w : World) (hs : RRecs 0 w sa K.n sc zI sA sN sC K.S) (hp : RRecs 1 w pa K.m pc (aI K) pA pN pC K.D) (hok : dOk K)
    (g T : Nat) (hT : T < K.n) (ho : w.ownsMap Tryz.prog 3 (plainElem Tryz.prog 3) g K.m (lastD K.At K.m)) :
    Calls Tryz.prog 212 #[.agg #[.slice sa K.n sc, .slice pa K.m pc, .map (some g)], .int .i64 T] w fun e w' => e = .returned (.slice (pick K.At pA sA K.m T) (pick K.At pN sN K.m T) (pick K.At pC sC K.m T)) ∧ Below w.heap.size w w' := by
  obtain ⟨⟨hn1, hn2, hm1⟩, _, hP⟩ := hok
  have Q0 : Hid _ := (Below.refl w.heap.size w).alloc (Nat.le_refl _) (.cells #[.slice sa K.n sc, .slice pa K.m pc, .map (some g)] 140)
  have HO : Hid _ := ho.alloc (.cells #[.slice sa K.n sc, .slice pa K.m pc, .map (some g)] 140)
  have hkey : keyOf Tryz.prog 3 (.int .i64 (T : Int)) = some (.int .i64 (T : Int)) := keyI (by omega) (by omega)
  have hi3 : (0 : Int) ≤ (T : Int) := by omega
  have hi4 : (T : Int) < (K.n : Int) := by omega
  have hhas := lastD_has K.At (T : Int) K.m
  unfold pick
  cases hl : lastTo K.At (T : Int) K.m with
  | some i =>
    rw [hl] at hhas
    have hat := lastD_at K.At (T : Int) K.m i hl
    have hi := lastTo_lt hl
    obtain ⟨b2, off2, rfl, hbl2, hc2⟩ := hp.at_ (by omega)
    have k1 : w.cell? ⟨b2, off2 + i * 2 + 1, none⟩ = some (.slice (pA i) (pN i) (pC i)) := (hc2 i hi).2
    rw [← Q0.out.cell (p := ⟨b2, off2 + i * 2 + 1, none⟩) hbl2] at k1
    have HAT : Hid _ := hat
    have HH : Hid _ := hhas
    have hi1 : (0 : Int) ≤ (i : Int) := by omega
    have hi2 : (i : Int) < (K.m : Int) := by omega
    clear hat hhas hc2 hp hs ho hP hl
    simp only []
    go_enter Tryz.func212, Tryz.ntmps212
    go_wp2_with (first
      | (at_lookup; refine wpList_lookup_own_ok_int _ rfl _ _ 138 rfl 3 3 .i64 law3 Tryz.underlying138 Tryz.underlying3 (zero3 _) g K.m (lastD K.At K.m) rfl HO.out _ _ rfl hkey ?_; intro c hc _; rw [HAT.out] at hc; cases hc; rw [HH.out]; simp only [Option.isSome])
      | go_in)
    go_ret
    exact ⟨rfl, Q0.out⟩
  | none =>
    rw [hl] at hhas
    obtain ⟨b2, off2, rfl, hbl2, hc2⟩ := hs.at_ (by omega)
    have k1 : w.cell? ⟨b2, off2 + T, none⟩ = some (.slice (sA T) (sN T) (sC T)) := by have := (hc2 T hT).2; simpa using this
    rw [← Q0.out.cell (p := ⟨b2, off2 + T, none⟩) hbl2] at k1
    have HH : Hid _ := hhas
    clear hhas hc2 hp hs ho hP hl
    simp only []
    go_enter Tryz.func212, Tryz.ntmps212
    go_wp2_with (first
      | (at_lookup; refine wpList_lookup_own_ok_int _ rfl _ _ 138 rfl 3 3 .i64 law3 Tryz.underlying138 Tryz.underlying3 (zero3 _) g K.m (lastD K.At K.m) rfl HO.out _ _ rfl hkey ?_; intro c hc _; rw [HH.out]; simp only [Option.isSome])
      | go_in)
    go_ret
    exact ⟨rfl, Q0.out⟩
end Go.Proofs.YtnohmedccbogkaaGreatDoor

