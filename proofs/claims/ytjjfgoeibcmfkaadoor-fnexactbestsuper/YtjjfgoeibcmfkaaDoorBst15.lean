import Derived.Test.YtjjfgoeibcmfkaaDoorBst14
import Derived.Test.YtjjfgoeibcmfkaaDoorBst9
/- ReadPage, in the specification. -/
namespace Go.Proofs.YtjjfgoeibcmfkaaDoor
open Go.RowKit
set_option linter.unusedVariables false

noncomputable def rpK (K : DK) (t : Int) : Int := match dOkB K with | true => vK K t | false => 0
noncomputable def rpL (K : DK) (t : Int) : List Int := match dOkB K with | true => vL K t | false => []
noncomputable def rpB (K : DK) (t : Int) : Bool := match dOkB K with | true => vB K t | false => false
theorem rpL_isB {w : World} {d : DV} {K : DK} (h : RDisk w d K) (t : Int) : IsB (rpL K t) := by
  unfold rpL; split
  · exact vL_isB h t
  · exact isB_nil
theorem rpL_le (K : DK) (t : Int) : (rpL K t).length ≤ 256 := by
  by_cases hok : dOk K
  · unfold rpL; rw [dOk_true hok]; exact vL_le hok t
  · unfold rpL; rw [dOk_false hok]; simp

theorem vrow_of {w0 w : World} {d : DV} {K : DK} {B g c : Nat} (h : RDisk w0 d K) (hok : dOk K) (o : w.ownsRow B 38 1 (.slice (some ⟨g, 0, none⟩) K.n c) K.n (rowV K.At d.pA d.sA d.pN d.sN d.pC d.sC K.n K.m)) : VRow w d K g :=
  ⟨(World.ownsRow.lt o g rfl).2, fun t ht => by rw [World.ownsRow.cellAt o t (by omega), rowV_get _ _ _ _ _ _ _ _ _ _ ht, now_bs64 h hok t ht]⟩

set_option maxRecDepth 100000 in
set_option maxHeartbeats 2000000 in
theorem specReadPage_calls (d : DV) (K : DK) (t : Int) (w : World) (h : RDisk w d K) :
    Calls Tryd.prog 18 #[dval d K, .int .i64 t] w fun e w' => ∃ a' c', e = .returned (.tuple #[.int .i64 (rpK K t), .slice a' (rpL K t).length c', .bool (rpB K t)]) ∧ Below w.heap.size w w' ∧ Own w.heap.size w' a' (rpL K t).length c' (rpL K t) := by
  have Q0 : Hid _ := (Below.refl w.heap.size w).alloc (Nat.le_refl _) (.cells #[.slice d.sa K.n d.sc, .slice d.pa K.m d.pc] 33)
  by_cases hok : dOk K
  · have hn2 := hok.1.2.1
    have HV : Hid (dOkB K = true) := dOk_true hok
    have e1 : rpK K t = vK K t := by unfold rpK; rw [dOk_true hok]
    have e2 : rpL K t = vL K t := by unfold rpL; rw [dOk_true hok]
    have e3 : rpB K t = vB K t := by unfold rpB; rw [dOk_true hok]
    rw [e1, e2, e3]
    have HOK : Hid (dOk K) := hok
    clear e1 e2 e3 hok
    unfold dval
    go_enter Tryd.func18, Tryd.ntmps18
    go_wp2_with fail
    refine (specDiskOk_calls d K _ (h.below Q0.out)).mono ?_
    rw [HV.out]
    rintro e w1 ⟨rfl, b1⟩
    have k0 : w1.cell? ⟨w.heap.size, 0, none⟩ = some (.slice d.sa K.n d.sc) := by rw [b1.cell (p := ⟨w.heap.size, 0, none⟩) (by simp)]; simp
    have k1 : w1.cell? ⟨w.heap.size, 1, none⟩ = some (.slice d.pa K.m d.pc) := by rw [b1.cell (p := ⟨w.heap.size, 1, none⟩) (by simp)]; simp
    have d1 : Below w.heap.size w w1 := Q0.out.trans (b1.mono Q0.out.size)
    clear b1
    go_wp2_with fail
    refine (l1Now_calls d K _ (h.below d1) HOK.out).mono ?_
    rintro e w2 ⟨g, c, rfl, b2, o2⟩
    have d2 : Below w.heap.size w w2 := d1.trans (b2.mono d1.size)
    have v2 := vrow_of h HOK.out o2
    have q2 := (Below.refl w2.heap.size w2).alloc (Nat.le_refl _) (.cells #[.slice (some ⟨g, 0, none⟩) K.n c] 60)
    have d3 := d2.trans (q2.mono d2.size)
    have V3 : Hid _ := v2.below q2
    have D3 : Hid _ := d3
    clear b2 o2 k0 k1 d3 q2 v2 d2 d1
    go_wp2_with fail
    refine (viewPage_calls d K t g c _ (h.below D3.out) HOK.out V3.out).mono ?_
    rintro e w4 ⟨a4, c4, rfl, b4, o4⟩
    have FIN : Hid (Below w.heap.size w w4 ∧ Own w.heap.size w4 a4 (vL K t).length c4 (vL K t)) := ⟨D3.out.trans (b4.mono D3.out.size), o4.mono D3.out.size⟩
    clear b4 o4 V3 D3
    go_wp2
    refine bodyPost_ret (v := .tuple #[.int .i64 (vK K t), .slice a4 (vL K t).length c4, .bool (vB K t)]) (by simp [results, Tryd.results18, go_sem]) rfl ?_
    exact ⟨a4, c4, rfl, FIN.out⟩
  · have HV : Hid (dOkB K = false) := dOk_false hok
    have e1 : rpK K t = 0 := by unfold rpK; rw [dOk_false hok]
    have e2 : rpL K t = [] := by unfold rpL; rw [dOk_false hok]
    have e3 : rpB K t = false := by unfold rpB; rw [dOk_false hok]
    rw [e1, e2, e3]
    clear e1 e2 e3 hok
    unfold dval
    go_enter Tryd.func18, Tryd.ntmps18
    go_wp2_with fail
    refine (specDiskOk_calls d K _ (h.below Q0.out)).mono ?_
    rw [HV.out]
    rintro e w1 ⟨rfl, b1⟩
    have d1 : Below w.heap.size w w1 := Q0.out.trans (b1.mono Q0.out.size)
    have FIN : Hid (Below w.heap.size w (w1.alloc (.cells #[] 5)) ∧ Own w.heap.size (w1.alloc (.cells #[] 5)) (some ⟨w1.heap.size, 0, none⟩) 0 0 []) := ⟨d1.alloc d1.size _, own_lit w1 [] 0 rfl (by omega) _ d1.size⟩
    clear b1 d1
    go_wp2
    refine bodyPost_ret (v := .tuple #[.int .i64 0, .slice (some ⟨w1.heap.size, 0, none⟩) 0 0, .bool false]) (by simp [results, Tryd.results18, go_sem]) rfl ?_
    exact ⟨_, _, rfl, FIN.out⟩
end Go.Proofs.YtjjfgoeibcmfkaaDoor

namespace Go.Proofs.YtjjfgoeibcmfkaaDoor
open Go.RowKit

/-- A page that a superblock may name. -/
def nmB (used id : Int) : Bool := decide (id = 0 ∨ (2 ≤ id ∧ id < used))
def rngB (gen used : Int) : Bool := decide (1 ≤ gen ∧ gen ≤ 1000000000000 ∧ 2 ≤ used ∧ used ≤ 1024)
def supOk (gen root used free : Int) : Bool := rngB gen used && (nmB used root && nmB used free)

set_option maxHeartbeats 400000 in
theorem names0 (gen root used free id : Int) (w : World) (h : (id == 0) = true) :
    Calls Tryd.prog 71 #[.agg #[.int .i64 gen, .int .i64 root, .int .i64 used, .int .i64 free], .int .i64 id] w fun e w' => e = .returned (.bool true) ∧ Below w.heap.size w w' := by
  go_enter Tryd.func71, Tryd.ntmps71
  go_wp2
  go_ret
  exact ⟨rfl, (Below.refl _ _).alloc (Nat.le_refl _) _⟩

set_option maxHeartbeats 400000 in
theorem names1 (gen root used free id : Int) (w : World) (h : (id == 0) = false) (h2 : 2 ≤ id) (h3 : id < used) :
    Calls Tryd.prog 71 #[.agg #[.int .i64 gen, .int .i64 root, .int .i64 used, .int .i64 free], .int .i64 id] w fun e w' => e = .returned (.bool true) ∧ Below w.heap.size w w' := by
  go_enter Tryd.func71, Tryd.ntmps71
  go_wp2
  go_ret
  exact ⟨rfl, (Below.refl _ _).alloc (Nat.le_refl _) _⟩

set_option maxHeartbeats 400000 in
theorem names2 (gen root used free id : Int) (w : World) (h : (id == 0) = false) (h2 : decide (2 ≤ id) = false) :
    Calls Tryd.prog 71 #[.agg #[.int .i64 gen, .int .i64 root, .int .i64 used, .int .i64 free], .int .i64 id] w fun e w' => e = .returned (.bool false) ∧ Below w.heap.size w w' := by
  go_enter Tryd.func71, Tryd.ntmps71
  go_wp2
  go_ret
  exact ⟨rfl, (Below.refl _ _).alloc (Nat.le_refl _) _⟩

set_option maxHeartbeats 400000 in
theorem names3 (gen root used free id : Int) (w : World) (h : (id == 0) = false) (h2 : 2 ≤ id) (h3 : decide (id < used) = false) :
    Calls Tryd.prog 71 #[.agg #[.int .i64 gen, .int .i64 root, .int .i64 used, .int .i64 free], .int .i64 id] w fun e w' => e = .returned (.bool false) ∧ Below w.heap.size w w' := by
  go_enter Tryd.func71, Tryd.ntmps71
  go_wp2
  go_ret
  exact ⟨rfl, (Below.refl _ _).alloc (Nat.le_refl _) _⟩

theorem names_calls (gen root used free id : Int) (w : World) :
    Calls Tryd.prog 71 #[.agg #[.int .i64 gen, .int .i64 root, .int .i64 used, .int .i64 free], .int .i64 id] w fun e w' => e = .returned (.bool (nmB used id)) ∧ Below w.heap.size w w' := by
  by_cases h : id = 0
  · rw [show nmB used id = true from decide_eq_true (Or.inl h)]
    exact names0 gen root used free id w (by simpa using h)
  · by_cases h2 : 2 ≤ id
    · by_cases h3 : id < used
      · rw [show nmB used id = true from decide_eq_true (Or.inr ⟨h2, h3⟩)]
        exact names1 gen root used free id w (by simpa using h) h2 h3
      · rw [show nmB used id = false from decide_eq_false (by omega)]
        exact names3 gen root used free id w (by simpa using h) h2 (by simpa using h3)
    · rw [show nmB used id = false from decide_eq_false (by omega)]
      exact names2 gen root used free id w (by simpa using h) (by simpa using h2)

set_option maxHeartbeats 400000 in
theorem l2ok_g0 (gen root used free : Int) (w : World) (h : gen < 1) :
    Calls Tryd.prog 40 #[.agg #[.int .i64 gen, .int .i64 root, .int .i64 used, .int .i64 free]] w fun e w' => e = .returned (.bool false) ∧ Below w.heap.size w w' := by
  go_enter Tryd.func40, Tryd.ntmps40
  go_wp2
  go_ret
  exact ⟨rfl, (Below.refl _ _).alloc (Nat.le_refl _) _⟩

set_option maxHeartbeats 400000 in
theorem l2ok_g1 (gen root used free : Int) (w : World) (h : ¬ gen < 1) (h2 : 1000000000000 < gen) :
    Calls Tryd.prog 40 #[.agg #[.int .i64 gen, .int .i64 root, .int .i64 used, .int .i64 free]] w fun e w' => e = .returned (.bool false) ∧ Below w.heap.size w w' := by
  go_enter Tryd.func40, Tryd.ntmps40
  go_wp2
  go_ret
  exact ⟨rfl, (Below.refl _ _).alloc (Nat.le_refl _) _⟩

set_option maxHeartbeats 400000 in
theorem l2ok_u0 (gen root used free : Int) (w : World) (h : ¬ gen < 1) (h2 : ¬ 1000000000000 < gen) (h3 : used < 2) :
    Calls Tryd.prog 40 #[.agg #[.int .i64 gen, .int .i64 root, .int .i64 used, .int .i64 free]] w fun e w' => e = .returned (.bool false) ∧ Below w.heap.size w w' := by
  go_enter Tryd.func40, Tryd.ntmps40
  go_wp2
  go_ret
  exact ⟨rfl, (Below.refl _ _).alloc (Nat.le_refl _) _⟩

set_option maxHeartbeats 400000 in
theorem l2ok_u1 (gen root used free : Int) (w : World) (h : ¬ gen < 1) (h2 : ¬ 1000000000000 < gen) (h3 : ¬ used < 2) (h4 : 1024 < used) :
    Calls Tryd.prog 40 #[.agg #[.int .i64 gen, .int .i64 root, .int .i64 used, .int .i64 free]] w fun e w' => e = .returned (.bool false) ∧ Below w.heap.size w w' := by
  go_enter Tryd.func40, Tryd.ntmps40
  go_wp2
  go_ret
  exact ⟨rfl, (Below.refl _ _).alloc (Nat.le_refl _) _⟩

set_option maxHeartbeats 400000 in
theorem l2ok_zz (gen root used free : Int) (w : World) (h : ¬ gen < 1) (h2 : ¬ 1000000000000 < gen) (h3 : ¬ used < 2) (h4 : ¬ 1024 < used) (r : (root == 0) = true) (f : (free == 0) = true) :
    Calls Tryd.prog 40 #[.agg #[.int .i64 gen, .int .i64 root, .int .i64 used, .int .i64 free]] w fun e w' => e = .returned (.bool true) ∧ Below w.heap.size w w' := by
  go_enter Tryd.func40, Tryd.ntmps40
  go_wp2
  go_ret
  exact ⟨rfl, (Below.refl _ _).alloc (Nat.le_refl _) _⟩

set_option maxHeartbeats 400000 in
theorem l2ok_zy (gen root used free : Int) (w : World) (h : ¬ gen < 1) (h2 : ¬ 1000000000000 < gen) (h3 : ¬ used < 2) (h4 : ¬ 1024 < used) (r : (root == 0) = true) (f : (free == 0) = false) (f2 : 2 ≤ free) (f3 : free < used) :
    Calls Tryd.prog 40 #[.agg #[.int .i64 gen, .int .i64 root, .int .i64 used, .int .i64 free]] w fun e w' => e = .returned (.bool true) ∧ Below w.heap.size w w' := by
  go_enter Tryd.func40, Tryd.ntmps40
  go_wp2
  go_ret
  exact ⟨rfl, (Below.refl _ _).alloc (Nat.le_refl _) _⟩

set_option maxHeartbeats 400000 in
theorem l2ok_za (gen root used free : Int) (w : World) (h : ¬ gen < 1) (h2 : ¬ 1000000000000 < gen) (h3 : ¬ used < 2) (h4 : ¬ 1024 < used) (r : (root == 0) = true) (f : (free == 0) = false) (f2 : decide (2 ≤ free) = false) :
    Calls Tryd.prog 40 #[.agg #[.int .i64 gen, .int .i64 root, .int .i64 used, .int .i64 free]] w fun e w' => e = .returned (.bool false) ∧ Below w.heap.size w w' := by
  go_enter Tryd.func40, Tryd.ntmps40
  go_wp2
  go_ret
  exact ⟨rfl, (Below.refl _ _).alloc (Nat.le_refl _) _⟩

set_option maxHeartbeats 400000 in
theorem l2ok_zb (gen root used free : Int) (w : World) (h : ¬ gen < 1) (h2 : ¬ 1000000000000 < gen) (h3 : ¬ used < 2) (h4 : ¬ 1024 < used) (r : (root == 0) = true) (f : (free == 0) = false) (f2 : 2 ≤ free) (f3 : decide (free < used) = false) :
    Calls Tryd.prog 40 #[.agg #[.int .i64 gen, .int .i64 root, .int .i64 used, .int .i64 free]] w fun e w' => e = .returned (.bool false) ∧ Below w.heap.size w w' := by
  go_enter Tryd.func40, Tryd.ntmps40
  go_wp2
  go_ret
  exact ⟨rfl, (Below.refl _ _).alloc (Nat.le_refl _) _⟩

set_option maxHeartbeats 400000 in
theorem l2ok_yz (gen root used free : Int) (w : World) (h : ¬ gen < 1) (h2 : ¬ 1000000000000 < gen) (h3 : ¬ used < 2) (h4 : ¬ 1024 < used) (r : (root == 0) = false) (r2 : 2 ≤ root) (r3 : root < used) (f : (free == 0) = true) :
    Calls Tryd.prog 40 #[.agg #[.int .i64 gen, .int .i64 root, .int .i64 used, .int .i64 free]] w fun e w' => e = .returned (.bool true) ∧ Below w.heap.size w w' := by
  go_enter Tryd.func40, Tryd.ntmps40
  go_wp2
  go_ret
  exact ⟨rfl, (Below.refl _ _).alloc (Nat.le_refl _) _⟩

set_option maxHeartbeats 400000 in
theorem l2ok_yy (gen root used free : Int) (w : World) (h : ¬ gen < 1) (h2 : ¬ 1000000000000 < gen) (h3 : ¬ used < 2) (h4 : ¬ 1024 < used) (r : (root == 0) = false) (r2 : 2 ≤ root) (r3 : root < used) (f : (free == 0) = false) (f2 : 2 ≤ free) (f3 : free < used) :
    Calls Tryd.prog 40 #[.agg #[.int .i64 gen, .int .i64 root, .int .i64 used, .int .i64 free]] w fun e w' => e = .returned (.bool true) ∧ Below w.heap.size w w' := by
  go_enter Tryd.func40, Tryd.ntmps40
  go_wp2
  go_ret
  exact ⟨rfl, (Below.refl _ _).alloc (Nat.le_refl _) _⟩

set_option maxHeartbeats 400000 in
theorem l2ok_ya (gen root used free : Int) (w : World) (h : ¬ gen < 1) (h2 : ¬ 1000000000000 < gen) (h3 : ¬ used < 2) (h4 : ¬ 1024 < used) (r : (root == 0) = false) (r2 : 2 ≤ root) (r3 : root < used) (f : (free == 0) = false) (f2 : decide (2 ≤ free) = false) :
    Calls Tryd.prog 40 #[.agg #[.int .i64 gen, .int .i64 root, .int .i64 used, .int .i64 free]] w fun e w' => e = .returned (.bool false) ∧ Below w.heap.size w w' := by
  go_enter Tryd.func40, Tryd.ntmps40
  go_wp2
  go_ret
  exact ⟨rfl, (Below.refl _ _).alloc (Nat.le_refl _) _⟩

set_option maxHeartbeats 400000 in
theorem l2ok_yb (gen root used free : Int) (w : World) (h : ¬ gen < 1) (h2 : ¬ 1000000000000 < gen) (h3 : ¬ used < 2) (h4 : ¬ 1024 < used) (r : (root == 0) = false) (r2 : 2 ≤ root) (r3 : root < used) (f : (free == 0) = false) (f2 : 2 ≤ free) (f3 : decide (free < used) = false) :
    Calls Tryd.prog 40 #[.agg #[.int .i64 gen, .int .i64 root, .int .i64 used, .int .i64 free]] w fun e w' => e = .returned (.bool false) ∧ Below w.heap.size w w' := by
  go_enter Tryd.func40, Tryd.ntmps40
  go_wp2
  go_ret
  exact ⟨rfl, (Below.refl _ _).alloc (Nat.le_refl _) _⟩

set_option maxHeartbeats 400000 in
theorem l2ok_a (gen root used free : Int) (w : World) (h : ¬ gen < 1) (h2 : ¬ 1000000000000 < gen) (h3 : ¬ used < 2) (h4 : ¬ 1024 < used) (r : (root == 0) = false) (r2 : decide (2 ≤ root) = false) :
    Calls Tryd.prog 40 #[.agg #[.int .i64 gen, .int .i64 root, .int .i64 used, .int .i64 free]] w fun e w' => e = .returned (.bool false) ∧ Below w.heap.size w w' := by
  go_enter Tryd.func40, Tryd.ntmps40
  go_wp2
  go_ret
  exact ⟨rfl, (Below.refl _ _).alloc (Nat.le_refl _) _⟩

set_option maxHeartbeats 400000 in
theorem l2ok_b (gen root used free : Int) (w : World) (h : ¬ gen < 1) (h2 : ¬ 1000000000000 < gen) (h3 : ¬ used < 2) (h4 : ¬ 1024 < used) (r : (root == 0) = false) (r2 : 2 ≤ root) (r3 : decide (root < used) = false) :
    Calls Tryd.prog 40 #[.agg #[.int .i64 gen, .int .i64 root, .int .i64 used, .int .i64 free]] w fun e w' => e = .returned (.bool false) ∧ Below w.heap.size w w' := by
  go_enter Tryd.func40, Tryd.ntmps40
  go_wp2
  go_ret
  exact ⟨rfl, (Below.refl _ _).alloc (Nat.le_refl _) _⟩

theorem l2ok_calls (gen root used free : Int) (w : World) :
    Calls Tryd.prog 40 #[.agg #[.int .i64 gen, .int .i64 root, .int .i64 used, .int .i64 free]] w fun e w' => e = .returned (.bool (supOk gen root used free)) ∧ Below w.heap.size w w' := by
  by_cases hr : rngB gen used = true
  · obtain ⟨a1, a2, a3, a4⟩ := of_decide_eq_true hr
    have h1 : ¬ gen < 1 := by omega
    have h2 : ¬ 1000000000000 < gen := by omega
    have h3 : ¬ used < 2 := by omega
    have h4 : ¬ 1024 < used := by omega
    unfold supOk
    rw [hr, Bool.true_and]
    by_cases r : root = 0
    · rw [show nmB used root = true from decide_eq_true (Or.inl r), Bool.true_and]
      have r' : (root == 0) = true := by simpa using r
      by_cases f : free = 0
      · rw [show nmB used free = true from decide_eq_true (Or.inl f)]
        exact l2ok_zz gen root used free w h1 h2 h3 h4 r' (by simpa using f)
      · by_cases f2 : 2 ≤ free
        · by_cases f3 : free < used
          · rw [show nmB used free = true from decide_eq_true (Or.inr ⟨f2, f3⟩)]
            exact l2ok_zy gen root used free w h1 h2 h3 h4 r' (by simpa using f) f2 f3
          · rw [show nmB used free = false from decide_eq_false (by omega)]
            exact l2ok_zb gen root used free w h1 h2 h3 h4 r' (by simpa using f) f2 (by simpa using f3)
        · rw [show nmB used free = false from decide_eq_false (by omega)]
          exact l2ok_za gen root used free w h1 h2 h3 h4 r' (by simpa using f) (by simpa using f2)
    · have r' : (root == 0) = false := by simpa using r
      by_cases r2 : 2 ≤ root
      · by_cases r3 : root < used
        · rw [show nmB used root = true from decide_eq_true (Or.inr ⟨r2, r3⟩), Bool.true_and]
          by_cases f : free = 0
          · rw [show nmB used free = true from decide_eq_true (Or.inl f)]
            exact l2ok_yz gen root used free w h1 h2 h3 h4 r' r2 r3 (by simpa using f)
          · by_cases f2 : 2 ≤ free
            · by_cases f3 : free < used
              · rw [show nmB used free = true from decide_eq_true (Or.inr ⟨f2, f3⟩)]
                exact l2ok_yy gen root used free w h1 h2 h3 h4 r' r2 r3 (by simpa using f) f2 f3
              · rw [show nmB used free = false from decide_eq_false (by omega)]
                exact l2ok_yb gen root used free w h1 h2 h3 h4 r' r2 r3 (by simpa using f) f2 (by simpa using f3)
            · rw [show nmB used free = false from decide_eq_false (by omega)]
              exact l2ok_ya gen root used free w h1 h2 h3 h4 r' r2 r3 (by simpa using f) (by simpa using f2)
        · rw [show nmB used root = false from decide_eq_false (by omega), Bool.false_and]
          exact l2ok_b gen root used free w h1 h2 h3 h4 r' r2 (by simpa using r3)
      · rw [show nmB used root = false from decide_eq_false (by omega), Bool.false_and]
        exact l2ok_a gen root used free w h1 h2 h3 h4 r' (by simpa using r2)
  · have hr' : rngB gen used = false := by simpa using hr
    unfold supOk
    rw [hr', Bool.false_and]
    have hn := of_decide_eq_false hr'
    by_cases h1 : gen < 1
    · exact l2ok_g0 gen root used free w h1
    · by_cases h2 : 1000000000000 < gen
      · exact l2ok_g1 gen root used free w h1 h2
      · by_cases h3 : used < 2
        · exact l2ok_u0 gen root used free w h1 h2 h3
        · exact l2ok_u1 gen root used free w h1 h2 h3 (by omega)

set_option maxHeartbeats 400000 in
theorem imok_g0 (gen root used free : Int) (w : World) (h : gen < 1) :
    Calls Tryd.prog 43 #[.agg #[.int .i64 gen, .int .i64 root, .int .i64 used, .int .i64 free]] w fun e w' => e = .returned (.bool false) ∧ Below w.heap.size w w' := by
  go_enter Tryd.func43, Tryd.ntmps43
  go_wp2
  go_ret
  exact ⟨rfl, (Below.refl _ _).alloc (Nat.le_refl _) _⟩

set_option maxHeartbeats 400000 in
theorem imok_g1 (gen root used free : Int) (w : World) (h : ¬ gen < 1) (h2 : 1000000000000 < gen) :
    Calls Tryd.prog 43 #[.agg #[.int .i64 gen, .int .i64 root, .int .i64 used, .int .i64 free]] w fun e w' => e = .returned (.bool false) ∧ Below w.heap.size w w' := by
  go_enter Tryd.func43, Tryd.ntmps43
  go_wp2
  go_ret
  exact ⟨rfl, (Below.refl _ _).alloc (Nat.le_refl _) _⟩

set_option maxHeartbeats 400000 in
theorem imok_u0 (gen root used free : Int) (w : World) (h : ¬ gen < 1) (h2 : ¬ 1000000000000 < gen) (h3 : used < 2) :
    Calls Tryd.prog 43 #[.agg #[.int .i64 gen, .int .i64 root, .int .i64 used, .int .i64 free]] w fun e w' => e = .returned (.bool false) ∧ Below w.heap.size w w' := by
  go_enter Tryd.func43, Tryd.ntmps43
  go_wp2
  go_ret
  exact ⟨rfl, (Below.refl _ _).alloc (Nat.le_refl _) _⟩

set_option maxHeartbeats 400000 in
theorem imok_u1 (gen root used free : Int) (w : World) (h : ¬ gen < 1) (h2 : ¬ 1000000000000 < gen) (h3 : ¬ used < 2) (h4 : 1024 < used) :
    Calls Tryd.prog 43 #[.agg #[.int .i64 gen, .int .i64 root, .int .i64 used, .int .i64 free]] w fun e w' => e = .returned (.bool false) ∧ Below w.heap.size w w' := by
  go_enter Tryd.func43, Tryd.ntmps43
  go_wp2
  go_ret
  exact ⟨rfl, (Below.refl _ _).alloc (Nat.le_refl _) _⟩

set_option maxHeartbeats 400000 in
theorem imok_rf (gen root used free : Int) (w : World) (h : ¬ gen < 1) (h2 : ¬ 1000000000000 < gen) (h3 : ¬ used < 2) (h4 : ¬ 1024 < used)  (r : nmB used root = false) :
    Calls Tryd.prog 43 #[.agg #[.int .i64 gen, .int .i64 root, .int .i64 used, .int .i64 free]] w fun e w' => e = .returned (.bool false) ∧ Below w.heap.size w w' := by
  have HR : Hid (nmB used root = false) := r
  clear r
  go_enter Tryd.func43, Tryd.ntmps43
  go_wp2_with fail
  refine (names_calls gen root used free root _).mono ?_
  rw [HR.out]
  rintro e w1 ⟨rfl, b1⟩
  have q : Below w.heap.size w w1 := ((Below.refl _ _).alloc (Nat.le_refl _) _).trans (b1.mono (by simp))
  go_wp2
  go_ret
  exact ⟨rfl, q⟩

set_option maxHeartbeats 400000 in
theorem imok_rt (gen root used free : Int) (w : World) (h : ¬ gen < 1) (h2 : ¬ 1000000000000 < gen) (h3 : ¬ used < 2) (h4 : ¬ 1024 < used)  (r : nmB used root = true) :
    Calls Tryd.prog 43 #[.agg #[.int .i64 gen, .int .i64 root, .int .i64 used, .int .i64 free]] w fun e w' => e = .returned (.bool (nmB used free)) ∧ Below w.heap.size w w' := by
  have HR : Hid (nmB used root = true) := r
  clear r
  go_enter Tryd.func43, Tryd.ntmps43
  go_wp2_with fail
  refine (names_calls gen root used free root _).mono ?_
  rw [HR.out]
  rintro e w1 ⟨rfl, b1⟩
  have q : Below w.heap.size w w1 := ((Below.refl _ _).alloc (Nat.le_refl _) _).trans (b1.mono (by simp))
  have k0 : w1.cell? ⟨w.heap.size, 0, none⟩ = some (.int .i64 gen) := by rw [b1.cell (p := ⟨w.heap.size, 0, none⟩) (by simp)]; simp
  have k1 : w1.cell? ⟨w.heap.size, 1, none⟩ = some (.int .i64 root) := by rw [b1.cell (p := ⟨w.heap.size, 1, none⟩) (by simp)]; simp
  have k2 : w1.cell? ⟨w.heap.size, 2, none⟩ = some (.int .i64 used) := by rw [b1.cell (p := ⟨w.heap.size, 2, none⟩) (by simp)]; simp
  have k3 : w1.cell? ⟨w.heap.size, 3, none⟩ = some (.int .i64 free) := by rw [b1.cell (p := ⟨w.heap.size, 3, none⟩) (by simp)]; simp
  clear b1
  go_wp2_with fail
  refine (names_calls gen root used free free _).mono ?_
  rintro e w2 ⟨rfl, b2⟩
  go_wp2
  go_ret
  exact ⟨rfl, q.trans (b2.mono q.size)⟩

theorem imok_calls (gen root used free : Int) (w : World) :
    Calls Tryd.prog 43 #[.agg #[.int .i64 gen, .int .i64 root, .int .i64 used, .int .i64 free]] w fun e w' => e = .returned (.bool (supOk gen root used free)) ∧ Below w.heap.size w w' := by
  by_cases hr : rngB gen used = true
  · obtain ⟨a1, a2, a3, a4⟩ := of_decide_eq_true hr
    unfold supOk
    rw [hr, Bool.true_and]
    cases r : nmB used root with
    | true =>
      rw [Bool.true_and]
      exact imok_rt gen root used free w (by omega) (by omega) (by omega) (by omega) r
    | false =>
      rw [Bool.false_and]
      exact imok_rf gen root used free w (by omega) (by omega) (by omega) (by omega) r
  · have hr' : rngB gen used = false := by simpa using hr
    unfold supOk
    rw [hr', Bool.false_and]
    have hn := of_decide_eq_false hr'
    by_cases h1 : gen < 1
    · exact imok_g0 gen root used free w h1
    · by_cases h2 : 1000000000000 < gen
      · exact imok_g1 gen root used free w h1 h2
      · by_cases h3 : used < 2
        · exact imok_u0 gen root used free w h1 h2 h3
        · exact imok_u1 gen root used free w h1 h2 h3 (by omega)

set_option maxHeartbeats 400000 in
theorem superPage_calls (gen root used free : Int) (w : World) (h0 : 0 ≤ gen) (h1 : gen ≤ 1000000000000) :
    Calls Tryd.prog 46 #[.agg #[.int .i64 gen, .int .i64 root, .int .i64 used, .int .i64 free]] w fun e w' => e = .returned (.int .i64 (gen % 2)) ∧ Below w.heap.size w w' := by
  go_enter Tryd.func46, Tryd.ntmps46
  go_wp2
  go_ret
  exact ⟨rfl, (Below.refl _ _).alloc (Nat.le_refl _) _⟩

end Go.Proofs.YtjjfgoeibcmfkaaDoor

