import Derived.Test.YtnidnkjipkkljaaNum
namespace Go.Proofs.Ytnidnkjipkkljaa
open Go.RowKit

/-- A page that a superblock may name. -/
def nmB (used id : Int) : Bool := decide (id = 0 ∨ (2 ≤ id ∧ id < used))
def rngB (gen used : Int) : Bool := decide (1 ≤ gen ∧ gen ≤ 1000000000000 ∧ 2 ≤ used ∧ used ≤ 1024)
def supOk (gen root used free : Int) : Bool := rngB gen used && (nmB used root && nmB used free)

set_option maxHeartbeats 400000 in
theorem names0 (gen root used free id : Int) (w : World) (h : (id == 0) = true) :
    Calls Try.prog 36 #[.agg #[.int .i64 gen, .int .i64 root, .int .i64 used, .int .i64 free], .int .i64 id] w fun e w' => e = .returned (.bool true) ∧ Below w.heap.size w w' := by
  go_enter Try.func36, Try.ntmps36
  go_wp2
  go_ret
  exact ⟨rfl, (Below.refl _ _).alloc (Nat.le_refl _) _⟩

set_option maxHeartbeats 400000 in
theorem names1 (gen root used free id : Int) (w : World) (h : (id == 0) = false) (h2 : 2 ≤ id) (h3 : id < used) :
    Calls Try.prog 36 #[.agg #[.int .i64 gen, .int .i64 root, .int .i64 used, .int .i64 free], .int .i64 id] w fun e w' => e = .returned (.bool true) ∧ Below w.heap.size w w' := by
  go_enter Try.func36, Try.ntmps36
  go_wp2
  go_ret
  exact ⟨rfl, (Below.refl _ _).alloc (Nat.le_refl _) _⟩

set_option maxHeartbeats 400000 in
theorem names2 (gen root used free id : Int) (w : World) (h : (id == 0) = false) (h2 : decide (2 ≤ id) = false) :
    Calls Try.prog 36 #[.agg #[.int .i64 gen, .int .i64 root, .int .i64 used, .int .i64 free], .int .i64 id] w fun e w' => e = .returned (.bool false) ∧ Below w.heap.size w w' := by
  go_enter Try.func36, Try.ntmps36
  go_wp2
  go_ret
  exact ⟨rfl, (Below.refl _ _).alloc (Nat.le_refl _) _⟩

set_option maxHeartbeats 400000 in
theorem names3 (gen root used free id : Int) (w : World) (h : (id == 0) = false) (h2 : 2 ≤ id) (h3 : decide (id < used) = false) :
    Calls Try.prog 36 #[.agg #[.int .i64 gen, .int .i64 root, .int .i64 used, .int .i64 free], .int .i64 id] w fun e w' => e = .returned (.bool false) ∧ Below w.heap.size w w' := by
  go_enter Try.func36, Try.ntmps36
  go_wp2
  go_ret
  exact ⟨rfl, (Below.refl _ _).alloc (Nat.le_refl _) _⟩

theorem names_calls (gen root used free id : Int) (w : World) :
    Calls Try.prog 36 #[.agg #[.int .i64 gen, .int .i64 root, .int .i64 used, .int .i64 free], .int .i64 id] w fun e w' => e = .returned (.bool (nmB used id)) ∧ Below w.heap.size w w' := by
  by_cases h : id = 0
  · rw [show nmB used id = true from decide_eq_true (Or.inl h)]
    exact names0 gen root used free id w (by simpa using h)
  · by_cases h2 : 2 ≤ id
    · by_cases h3 : id < used
      · rw [show nmB used id = true from decide_eq_true (Or.inr ⟨h2, h3⟩)]
        exact names1 gen root used free id w (by simpa using h) h2 h3
      · rw [show nmB used id = false from decide_eq_false (by omega)]
        exact names3 gen root used free id w (by simpa using h) h2 (by simpa using h3)
    · rw [show nmB used id = false from decide_eq_false (by omega)]
      exact names2 gen root used free id w (by simpa using h) (by simpa using h2)

set_option maxHeartbeats 400000 in
theorem l2ok_g0 (gen root used free : Int) (w : World) (h : gen < 1) :
    Calls Try.prog 31 #[.agg #[.int .i64 gen, .int .i64 root, .int .i64 used, .int .i64 free]] w fun e w' => e = .returned (.bool false) ∧ Below w.heap.size w w' := by
  go_enter Try.func31, Try.ntmps31
  go_wp2
  go_ret
  exact ⟨rfl, (Below.refl _ _).alloc (Nat.le_refl _) _⟩

set_option maxHeartbeats 400000 in
theorem l2ok_g1 (gen root used free : Int) (w : World) (h : ¬ gen < 1) (h2 : 1000000000000 < gen) :
    Calls Try.prog 31 #[.agg #[.int .i64 gen, .int .i64 root, .int .i64 used, .int .i64 free]] w fun e w' => e = .returned (.bool false) ∧ Below w.heap.size w w' := by
  go_enter Try.func31, Try.ntmps31
  go_wp2
  go_ret
  exact ⟨rfl, (Below.refl _ _).alloc (Nat.le_refl _) _⟩

set_option maxHeartbeats 400000 in
theorem l2ok_u0 (gen root used free : Int) (w : World) (h : ¬ gen < 1) (h2 : ¬ 1000000000000 < gen) (h3 : used < 2) :
    Calls Try.prog 31 #[.agg #[.int .i64 gen, .int .i64 root, .int .i64 used, .int .i64 free]] w fun e w' => e = .returned (.bool false) ∧ Below w.heap.size w w' := by
  go_enter Try.func31, Try.ntmps31
  go_wp2
  go_ret
  exact ⟨rfl, (Below.refl _ _).alloc (Nat.le_refl _) _⟩

set_option maxHeartbeats 400000 in
theorem l2ok_u1 (gen root used free : Int) (w : World) (h : ¬ gen < 1) (h2 : ¬ 1000000000000 < gen) (h3 : ¬ used < 2) (h4 : 1024 < used) :
    Calls Try.prog 31 #[.agg #[.int .i64 gen, .int .i64 root, .int .i64 used, .int .i64 free]] w fun e w' => e = .returned (.bool false) ∧ Below w.heap.size w w' := by
  go_enter Try.func31, Try.ntmps31
  go_wp2
  go_ret
  exact ⟨rfl, (Below.refl _ _).alloc (Nat.le_refl _) _⟩

set_option maxHeartbeats 400000 in
theorem l2ok_zz (gen root used free : Int) (w : World) (h : ¬ gen < 1) (h2 : ¬ 1000000000000 < gen) (h3 : ¬ used < 2) (h4 : ¬ 1024 < used) (r : (root == 0) = true) (f : (free == 0) = true) :
    Calls Try.prog 31 #[.agg #[.int .i64 gen, .int .i64 root, .int .i64 used, .int .i64 free]] w fun e w' => e = .returned (.bool true) ∧ Below w.heap.size w w' := by
  go_enter Try.func31, Try.ntmps31
  go_wp2
  go_ret
  exact ⟨rfl, (Below.refl _ _).alloc (Nat.le_refl _) _⟩

set_option maxHeartbeats 400000 in
theorem l2ok_zy (gen root used free : Int) (w : World) (h : ¬ gen < 1) (h2 : ¬ 1000000000000 < gen) (h3 : ¬ used < 2) (h4 : ¬ 1024 < used) (r : (root == 0) = true) (f : (free == 0) = false) (f2 : 2 ≤ free) (f3 : free < used) :
    Calls Try.prog 31 #[.agg #[.int .i64 gen, .int .i64 root, .int .i64 used, .int .i64 free]] w fun e w' => e = .returned (.bool true) ∧ Below w.heap.size w w' := by
  go_enter Try.func31, Try.ntmps31
  go_wp2
  go_ret
  exact ⟨rfl, (Below.refl _ _).alloc (Nat.le_refl _) _⟩

set_option maxHeartbeats 400000 in
theorem l2ok_za (gen root used free : Int) (w : World) (h : ¬ gen < 1) (h2 : ¬ 1000000000000 < gen) (h3 : ¬ used < 2) (h4 : ¬ 1024 < used) (r : (root == 0) = true) (f : (free == 0) = false) (f2 : decide (2 ≤ free) = false) :
    Calls Try.prog 31 #[.agg #[.int .i64 gen, .int .i64 root, .int .i64 used, .int .i64 free]] w fun e w' => e = .returned (.bool false) ∧ Below w.heap.size w w' := by
  go_enter Try.func31, Try.ntmps31
  go_wp2
  go_ret
  exact ⟨rfl, (Below.refl _ _).alloc (Nat.le_refl _) _⟩

set_option maxHeartbeats 400000 in
theorem l2ok_zb (gen root used free : Int) (w : World) (h : ¬ gen < 1) (h2 : ¬ 1000000000000 < gen) (h3 : ¬ used < 2) (h4 : ¬ 1024 < used) (r : (root == 0) = true) (f : (free == 0) = false) (f2 : 2 ≤ free) (f3 : decide (free < used) = false) :
    Calls Try.prog 31 #[.agg #[.int .i64 gen, .int .i64 root, .int .i64 used, .int .i64 free]] w fun e w' => e = .returned (.bool false) ∧ Below w.heap.size w w' := by
  go_enter Try.func31, Try.ntmps31
  go_wp2
  go_ret
  exact ⟨rfl, (Below.refl _ _).alloc (Nat.le_refl _) _⟩

set_option maxHeartbeats 400000 in
theorem l2ok_yz (gen root used free : Int) (w : World) (h : ¬ gen < 1) (h2 : ¬ 1000000000000 < gen) (h3 : ¬ used < 2) (h4 : ¬ 1024 < used) (r : (root == 0) = false) (r2 : 2 ≤ root) (r3 : root < used) (f : (free == 0) = true) :
    Calls Try.prog 31 #[.agg #[.int .i64 gen, .int .i64 root, .int .i64 used, .int .i64 free]] w fun e w' => e = .returned (.bool true) ∧ Below w.heap.size w w' := by
  go_enter Try.func31, Try.ntmps31
  go_wp2
  go_ret
  exact ⟨rfl, (Below.refl _ _).alloc (Nat.le_refl _) _⟩

set_option maxHeartbeats 400000 in
theorem l2ok_yy (gen root used free : Int) (w : World) (h : ¬ gen < 1) (h2 : ¬ 1000000000000 < gen) (h3 : ¬ used < 2) (h4 : ¬ 1024 < used) (r : (root == 0) = false) (r2 : 2 ≤ root) (r3 : root < used) (f : (free == 0) = false) (f2 : 2 ≤ free) (f3 : free < used) :
    Calls Try.prog 31 #[.agg #[.int .i64 gen, .int .i64 root, .int .i64 used, .int .i64 free]] w fun e w' => e = .returned (.bool true) ∧ Below w.heap.size w w' := by
  go_enter Try.func31, Try.ntmps31
  go_wp2
  go_ret
  exact ⟨rfl, (Below.refl _ _).alloc (Nat.le_refl _) _⟩

set_option maxHeartbeats 400000 in
theorem l2ok_ya (gen root used free : Int) (w : World) (h : ¬ gen < 1) (h2 : ¬ 1000000000000 < gen) (h3 : ¬ used < 2) (h4 : ¬ 1024 < used) (r : (root == 0) = false) (r2 : 2 ≤ root) (r3 : root < used) (f : (free == 0) = false) (f2 : decide (2 ≤ free) = false) :
    Calls Try.prog 31 #[.agg #[.int .i64 gen, .int .i64 root, .int .i64 used, .int .i64 free]] w fun e w' => e = .returned (.bool false) ∧ Below w.heap.size w w' := by
  go_enter Try.func31, Try.ntmps31
  go_wp2
  go_ret
  exact ⟨rfl, (Below.refl _ _).alloc (Nat.le_refl _) _⟩

set_option maxHeartbeats 400000 in
theorem l2ok_yb (gen root used free : Int) (w : World) (h : ¬ gen < 1) (h2 : ¬ 1000000000000 < gen) (h3 : ¬ used < 2) (h4 : ¬ 1024 < used) (r : (root == 0) = false) (r2 : 2 ≤ root) (r3 : root < used) (f : (free == 0) = false) (f2 : 2 ≤ free) (f3 : decide (free < used) = false) :
    Calls Try.prog 31 #[.agg #[.int .i64 gen, .int .i64 root, .int .i64 used, .int .i64 free]] w fun e w' => e = .returned (.bool false) ∧ Below w.heap.size w w' := by
  go_enter Try.func31, Try.ntmps31
  go_wp2
  go_ret
  exact ⟨rfl, (Below.refl _ _).alloc (Nat.le_refl _) _⟩

set_option maxHeartbeats 400000 in
theorem l2ok_a (gen root used free : Int) (w : World) (h : ¬ gen < 1) (h2 : ¬ 1000000000000 < gen) (h3 : ¬ used < 2) (h4 : ¬ 1024 < used) (r : (root == 0) = false) (r2 : decide (2 ≤ root) = false) :
    Calls Try.prog 31 #[.agg #[.int .i64 gen, .int .i64 root, .int .i64 used, .int .i64 free]] w fun e w' => e = .returned (.bool false) ∧ Below w.heap.size w w' := by
  go_enter Try.func31, Try.ntmps31
  go_wp2
  go_ret
  exact ⟨rfl, (Below.refl _ _).alloc (Nat.le_refl _) _⟩

set_option maxHeartbeats 400000 in
theorem l2ok_b (gen root used free : Int) (w : World) (h : ¬ gen < 1) (h2 : ¬ 1000000000000 < gen) (h3 : ¬ used < 2) (h4 : ¬ 1024 < used) (r : (root == 0) = false) (r2 : 2 ≤ root) (r3 : decide (root < used) = false) :
    Calls Try.prog 31 #[.agg #[.int .i64 gen, .int .i64 root, .int .i64 used, .int .i64 free]] w fun e w' => e = .returned (.bool false) ∧ Below w.heap.size w w' := by
  go_enter Try.func31, Try.ntmps31
  go_wp2
  go_ret
  exact ⟨rfl, (Below.refl _ _).alloc (Nat.le_refl _) _⟩

theorem l2ok_calls (gen root used free : Int) (w : World) :
    Calls Try.prog 31 #[.agg #[.int .i64 gen, .int .i64 root, .int .i64 used, .int .i64 free]] w fun e w' => e = .returned (.bool (supOk gen root used free)) ∧ Below w.heap.size w w' := by
  by_cases hr : rngB gen used = true
  · obtain ⟨a1, a2, a3, a4⟩ := of_decide_eq_true hr
    have h1 : ¬ gen < 1 := by omega
    have h2 : ¬ 1000000000000 < gen := by omega
    have h3 : ¬ used < 2 := by omega
    have h4 : ¬ 1024 < used := by omega
    unfold supOk
    rw [hr, Bool.true_and]
    by_cases r : root = 0
    · rw [show nmB used root = true from decide_eq_true (Or.inl r), Bool.true_and]
      have r' : (root == 0) = true := by simpa using r
      by_cases f : free = 0
      · rw [show nmB used free = true from decide_eq_true (Or.inl f)]
        exact l2ok_zz gen root used free w h1 h2 h3 h4 r' (by simpa using f)
      · by_cases f2 : 2 ≤ free
        · by_cases f3 : free < used
          · rw [show nmB used free = true from decide_eq_true (Or.inr ⟨f2, f3⟩)]
            exact l2ok_zy gen root used free w h1 h2 h3 h4 r' (by simpa using f) f2 f3
          · rw [show nmB used free = false from decide_eq_false (by omega)]
            exact l2ok_zb gen root used free w h1 h2 h3 h4 r' (by simpa using f) f2 (by simpa using f3)
        · rw [show nmB used free = false from decide_eq_false (by omega)]
          exact l2ok_za gen root used free w h1 h2 h3 h4 r' (by simpa using f) (by simpa using f2)
    · have r' : (root == 0) = false := by simpa using r
      by_cases r2 : 2 ≤ root
      · by_cases r3 : root < used
        · rw [show nmB used root = true from decide_eq_true (Or.inr ⟨r2, r3⟩), Bool.true_and]
          by_cases f : free = 0
          · rw [show nmB used free = true from decide_eq_true (Or.inl f)]
            exact l2ok_yz gen root used free w h1 h2 h3 h4 r' r2 r3 (by simpa using f)
          · by_cases f2 : 2 ≤ free
            · by_cases f3 : free < used
              · rw [show nmB used free = true from decide_eq_true (Or.inr ⟨f2, f3⟩)]
                exact l2ok_yy gen root used free w h1 h2 h3 h4 r' r2 r3 (by simpa using f) f2 f3
              · rw [show nmB used free = false from decide_eq_false (by omega)]
                exact l2ok_yb gen root used free w h1 h2 h3 h4 r' r2 r3 (by simpa using f) f2 (by simpa using f3)
            · rw [show nmB used free = false from decide_eq_false (by omega)]
              exact l2ok_ya gen root used free w h1 h2 h3 h4 r' r2 r3 (by simpa using f) (by simpa using f2)
        · rw [show nmB used root = false from decide_eq_false (by omega), Bool.false_and]
          exact l2ok_b gen root used free w h1 h2 h3 h4 r' r2 (by simpa using r3)
      · rw [show nmB used root = false from decide_eq_false (by omega), Bool.false_and]
        exact l2ok_a gen root used free w h1 h2 h3 h4 r' (by simpa using r2)
  · have hr' : rngB gen used = false := by simpa using hr
    unfold supOk
    rw [hr', Bool.false_and]
    have hn := of_decide_eq_false hr'
    by_cases h1 : gen < 1
    · exact l2ok_g0 gen root used free w h1
    · by_cases h2 : 1000000000000 < gen
      · exact l2ok_g1 gen root used free w h1 h2
      · by_cases h3 : used < 2
        · exact l2ok_u0 gen root used free w h1 h2 h3
        · exact l2ok_u1 gen root used free w h1 h2 h3 (by omega)

set_option maxHeartbeats 400000 in
theorem imok_g0 (gen root used free : Int) (w : World) (h : gen < 1) :
    Calls Try.prog 33 #[.agg #[.int .i64 gen, .int .i64 root, .int .i64 used, .int .i64 free]] w fun e w' => e = .returned (.bool false) ∧ Below w.heap.size w w' := by
  go_enter Try.func33, Try.ntmps33
  go_wp2
  go_ret
  exact ⟨rfl, (Below.refl _ _).alloc (Nat.le_refl _) _⟩

set_option maxHeartbeats 400000 in
theorem imok_g1 (gen root used free : Int) (w : World) (h : ¬ gen < 1) (h2 : 1000000000000 < gen) :
    Calls Try.prog 33 #[.agg #[.int .i64 gen, .int .i64 root, .int .i64 used, .int .i64 free]] w fun e w' => e = .returned (.bool false) ∧ Below w.heap.size w w' := by
  go_enter Try.func33, Try.ntmps33
  go_wp2
  go_ret
  exact ⟨rfl, (Below.refl _ _).alloc (Nat.le_refl _) _⟩

set_option maxHeartbeats 400000 in
theorem imok_u0 (gen root used free : Int) (w : World) (h : ¬ gen < 1) (h2 : ¬ 1000000000000 < gen) (h3 : used < 2) :
    Calls Try.prog 33 #[.agg #[.int .i64 gen, .int .i64 root, .int .i64 used, .int .i64 free]] w fun e w' => e = .returned (.bool false) ∧ Below w.heap.size w w' := by
  go_enter Try.func33, Try.ntmps33
  go_wp2
  go_ret
  exact ⟨rfl, (Below.refl _ _).alloc (Nat.le_refl _) _⟩

set_option maxHeartbeats 400000 in
theorem imok_u1 (gen root used free : Int) (w : World) (h : ¬ gen < 1) (h2 : ¬ 1000000000000 < gen) (h3 : ¬ used < 2) (h4 : 1024 < used) :
    Calls Try.prog 33 #[.agg #[.int .i64 gen, .int .i64 root, .int .i64 used, .int .i64 free]] w fun e w' => e = .returned (.bool false) ∧ Below w.heap.size w w' := by
  go_enter Try.func33, Try.ntmps33
  go_wp2
  go_ret
  exact ⟨rfl, (Below.refl _ _).alloc (Nat.le_refl _) _⟩

set_option maxHeartbeats 400000 in
theorem imok_rf (gen root used free : Int) (w : World) (h : ¬ gen < 1) (h2 : ¬ 1000000000000 < gen) (h3 : ¬ used < 2) (h4 : ¬ 1024 < used)  (r : nmB used root = false) :
    Calls Try.prog 33 #[.agg #[.int .i64 gen, .int .i64 root, .int .i64 used, .int .i64 free]] w fun e w' => e = .returned (.bool false) ∧ Below w.heap.size w w' := by
  have HR : Hid (nmB used root = false) := r
  clear r
  go_enter Try.func33, Try.ntmps33
  go_wp2_with fail
  refine (names_calls gen root used free root _).mono ?_
  rw [HR.out]
  rintro e w1 ⟨rfl, b1⟩
  have q : Below w.heap.size w w1 := ((Below.refl _ _).alloc (Nat.le_refl _) _).trans (b1.mono (by simp))
  go_wp2
  go_ret
  exact ⟨rfl, q⟩

set_option maxHeartbeats 400000 in
theorem imok_rt (gen root used free : Int) (w : World) (h : ¬ gen < 1) (h2 : ¬ 1000000000000 < gen) (h3 : ¬ used < 2) (h4 : ¬ 1024 < used)  (r : nmB used root = true) :
    Calls Try.prog 33 #[.agg #[.int .i64 gen, .int .i64 root, .int .i64 used, .int .i64 free]] w fun e w' => e = .returned (.bool (nmB used free)) ∧ Below w.heap.size w w' := by
  have HR : Hid (nmB used root = true) := r
  clear r
  go_enter Try.func33, Try.ntmps33
  go_wp2_with fail
  refine (names_calls gen root used free root _).mono ?_
  rw [HR.out]
  rintro e w1 ⟨rfl, b1⟩
  have q : Below w.heap.size w w1 := ((Below.refl _ _).alloc (Nat.le_refl _) _).trans (b1.mono (by simp))
  have k0 : w1.cell? ⟨w.heap.size, 0, none⟩ = some (.int .i64 gen) := by rw [b1.cell (p := ⟨w.heap.size, 0, none⟩) (by simp)]; simp
  have k1 : w1.cell? ⟨w.heap.size, 1, none⟩ = some (.int .i64 root) := by rw [b1.cell (p := ⟨w.heap.size, 1, none⟩) (by simp)]; simp
  have k2 : w1.cell? ⟨w.heap.size, 2, none⟩ = some (.int .i64 used) := by rw [b1.cell (p := ⟨w.heap.size, 2, none⟩) (by simp)]; simp
  have k3 : w1.cell? ⟨w.heap.size, 3, none⟩ = some (.int .i64 free) := by rw [b1.cell (p := ⟨w.heap.size, 3, none⟩) (by simp)]; simp
  clear b1
  go_wp2_with fail
  refine (names_calls gen root used free free _).mono ?_
  rintro e w2 ⟨rfl, b2⟩
  go_wp2
  go_ret
  exact ⟨rfl, q.trans (b2.mono q.size)⟩

theorem imok_calls (gen root used free : Int) (w : World) :
    Calls Try.prog 33 #[.agg #[.int .i64 gen, .int .i64 root, .int .i64 used, .int .i64 free]] w fun e w' => e = .returned (.bool (supOk gen root used free)) ∧ Below w.heap.size w w' := by
  by_cases hr : rngB gen used = true
  · obtain ⟨a1, a2, a3, a4⟩ := of_decide_eq_true hr
    unfold supOk
    rw [hr, Bool.true_and]
    cases r : nmB used root with
    | true =>
      rw [Bool.true_and]
      exact imok_rt gen root used free w (by omega) (by omega) (by omega) (by omega) r
    | false =>
      rw [Bool.false_and]
      exact imok_rf gen root used free w (by omega) (by omega) (by omega) (by omega) r
  · have hr' : rngB gen used = false := by simpa using hr
    unfold supOk
    rw [hr', Bool.false_and]
    have hn := of_decide_eq_false hr'
    by_cases h1 : gen < 1
    · exact imok_g0 gen root used free w h1
    · by_cases h2 : 1000000000000 < gen
      · exact imok_g1 gen root used free w h1 h2
      · by_cases h3 : used < 2
        · exact imok_u0 gen root used free w h1 h2 h3
        · exact imok_u1 gen root used free w h1 h2 h3 (by omega)

set_option maxHeartbeats 400000 in
theorem superPage_calls (gen root used free : Int) (w : World) (h0 : 0 ≤ gen) (h1 : gen ≤ 1000000000000) :
    Calls Try.prog 34 #[.agg #[.int .i64 gen, .int .i64 root, .int .i64 used, .int .i64 free]] w fun e w' => e = .returned (.int .i64 (gen % 2)) ∧ Below w.heap.size w w' := by
  go_enter Try.func34, Try.ntmps34
  go_wp2
  go_ret
  exact ⟨rfl, (Below.refl _ _).alloc (Nat.le_refl _) _⟩

end Go.Proofs.Ytnidnkjipkkljaa
