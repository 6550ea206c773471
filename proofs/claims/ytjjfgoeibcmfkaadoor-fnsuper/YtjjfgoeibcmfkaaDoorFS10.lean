import Derived.Test.YtjjfgoeibcmfkaaDoorFS9
import Derived.Test.YtjjfgoeibcmfkaaDoorFS6
import Derived.Deep.RegionLaw
import Derived.Deep.DeepCutAuto
/- ReadPage, in the specification. -/
namespace Go.Proofs.YtjjfgoeibcmfkaaDoor
open Go.RowKit
set_option linter.unusedVariables false

noncomputable def rpK (K : DK) (t : Int) : Int := match dOkB K with | true => vK K t | false => 0
noncomputable def rpL (K : DK) (t : Int) : List Int := match dOkB K with | true => vL K t | false => []
noncomputable def rpB (K : DK) (t : Int) : Bool := match dOkB K with | true => vB K t | false => false
theorem rpL_isB {w : World} {d : DV} {K : DK} (h : RDisk w d K) (t : Int) : IsB (rpL K t) := by
  unfold rpL; split
  · exact vL_isB h t
  · exact isB_nil
theorem rpL_le (K : DK) (t : Int) : (rpL K t).length ≤ 256 := by
  by_cases hok : dOk K
  · unfold rpL; rw [dOk_true hok]; exact vL_le hok t
  · unfold rpL; rw [dOk_false hok]; simp

theorem vrow_of {w0 w : World} {d : DV} {K : DK} {B g c : Nat} (h : RDisk w0 d K) (hok : dOk K) (o : w.ownsRow B 38 1 (.slice (some ⟨g, 0, none⟩) K.n c) K.n (rowV K.At d.pA d.sA d.pN d.sN d.pC d.sC K.n K.m)) : VRow w d K g :=
  ⟨(World.ownsRow.lt o g rfl).2, fun t ht => by rw [World.ownsRow.cellAt o t (by omega), rowV_get _ _ _ _ _ _ _ _ _ _ ht, now_bs64 h hok t ht]⟩

set_option maxRecDepth 100000 in
set_option maxHeartbeats 2000000 in
theorem specReadPage_calls (d : DV) (K : DK) (t : Int) (w : World) (h : RDisk w d K) :
    Calls Tryd.prog 18 #[dval d K, .int .i64 t] w fun e w' => ∃ a' c', e = .returned (.tuple #[.int .i64 (rpK K t), .slice a' (rpL K t).length c', .bool (rpB K t)]) ∧ Below w.heap.size w w' ∧ Own w.heap.size w' a' (rpL K t).length c' (rpL K t) := by
  have Q0 : Hid _ := (Below.refl w.heap.size w).alloc (Nat.le_refl _) (.cells #[.slice d.sa K.n d.sc, .slice d.pa K.m d.pc] 33)
  by_cases hok : dOk K
  · have hn2 := hok.1.2.1
    have HV : Hid (dOkB K = true) := dOk_true hok
    have e1 : rpK K t = vK K t := by unfold rpK; rw [dOk_true hok]
    have e2 : rpL K t = vL K t := by unfold rpL; rw [dOk_true hok]
    have e3 : rpB K t = vB K t := by unfold rpB; rw [dOk_true hok]
    rw [e1, e2, e3]
    have HOK : Hid (dOk K) := hok
    clear e1 e2 e3 hok
    unfold dval
    go_enter Tryd.func18, Tryd.ntmps18
    go_wp2_with fail
    refine (specDiskOk_calls d K _ (h.below Q0.out)).mono ?_
    rw [HV.out]
    rintro e w1 ⟨rfl, b1⟩
    have k0 : w1.cell? ⟨w.heap.size, 0, none⟩ = some (.slice d.sa K.n d.sc) := by rw [b1.cell (p := ⟨w.heap.size, 0, none⟩) (by simp)]; simp
    have k1 : w1.cell? ⟨w.heap.size, 1, none⟩ = some (.slice d.pa K.m d.pc) := by rw [b1.cell (p := ⟨w.heap.size, 1, none⟩) (by simp)]; simp
    have d1 : Below w.heap.size w w1 := Q0.out.trans (b1.mono Q0.out.size)
    clear b1
    go_wp2_with fail
    refine (l1Now_calls d K _ (h.below d1) HOK.out).mono ?_
    rintro e w2 ⟨g, c, rfl, b2, o2⟩
    have d2 : Below w.heap.size w w2 := d1.trans (b2.mono d1.size)
    have v2 := vrow_of h HOK.out o2
    have q2 := (Below.refl w2.heap.size w2).alloc (Nat.le_refl _) (.cells #[.slice (some ⟨g, 0, none⟩) K.n c] 60)
    have d3 := d2.trans (q2.mono d2.size)
    have V3 : Hid _ := v2.below q2
    have D3 : Hid _ := d3
    clear b2 o2 k0 k1 d3 q2 v2 d2 d1
    go_wp2_with fail
    refine (viewPage_calls d K t g c _ (h.below D3.out) HOK.out V3.out).mono ?_
    rintro e w4 ⟨a4, c4, rfl, b4, o4⟩
    have FIN : Hid (Below w.heap.size w w4 ∧ Own w.heap.size w4 a4 (vL K t).length c4 (vL K t)) := ⟨D3.out.trans (b4.mono D3.out.size), o4.mono D3.out.size⟩
    clear b4 o4 V3 D3
    go_wp2
    refine bodyPost_ret (v := .tuple #[.int .i64 (vK K t), .slice a4 (vL K t).length c4, .bool (vB K t)]) (by simp [results, Tryd.results18, go_sem]) rfl ?_
    exact ⟨a4, c4, rfl, FIN.out⟩
  · have HV : Hid (dOkB K = false) := dOk_false hok
    have e1 : rpK K t = 0 := by unfold rpK; rw [dOk_false hok]
    have e2 : rpL K t = [] := by unfold rpL; rw [dOk_false hok]
    have e3 : rpB K t = false := by unfold rpB; rw [dOk_false hok]
    rw [e1, e2, e3]
    clear e1 e2 e3 hok
    unfold dval
    go_enter Tryd.func18, Tryd.ntmps18
    go_wp2_with fail
    refine (specDiskOk_calls d K _ (h.below Q0.out)).mono ?_
    rw [HV.out]
    rintro e w1 ⟨rfl, b1⟩
    have d1 : Below w.heap.size w w1 := Q0.out.trans (b1.mono Q0.out.size)
    have FIN : Hid (Below w.heap.size w (w1.alloc (.cells #[] 5)) ∧ Own w.heap.size (w1.alloc (.cells #[] 5)) (some ⟨w1.heap.size, 0, none⟩) 0 0 []) := ⟨d1.alloc d1.size _, own_lit w1 [] 0 rfl (by omega) _ d1.size⟩
    clear b1 d1
    go_wp2
    refine bodyPost_ret (v := .tuple #[.int .i64 0, .slice (some ⟨w1.heap.size, 0, none⟩) 0 0, .bool false]) (by simp [results, Tryd.results18, go_sem]) rfl ?_
    exact ⟨_, _, rfl, FIN.out⟩
end Go.Proofs.YtjjfgoeibcmfkaaDoor

namespace Go.Proofs.YtjjfgoeibcmfkaaDoor
open Go.RowKit

/-- A page that a superblock may name. -/
def nmB (used id : Int) : Bool := decide (id = 0 ∨ (2 ≤ id ∧ id < used))
def rngB (gen used : Int) : Bool := decide (1 ≤ gen ∧ gen ≤ 1000000000000 ∧ 2 ≤ used ∧ used ≤ 1024)
def supOk (gen root used free : Int) : Bool := rngB gen used && (nmB used root && nmB used free)

set_option maxHeartbeats 400000 in
theorem names0 (gen root used free id : Int) (w : World) (h : (id == 0) = true) :
    Calls Tryd.prog 71 #[.agg #[.int .i64 gen, .int .i64 root, .int .i64 used, .int .i64 free], .int .i64 id] w fun e w' => e = .returned (.bool true) ∧ Below w.heap.size w w' := by
  go_enter Tryd.func71, Tryd.ntmps71
  go_wp2
  go_ret
  exact ⟨rfl, (Below.refl _ _).alloc (Nat.le_refl _) _⟩

set_option maxHeartbeats 400000 in
theorem names1 (gen root used free id : Int) (w : World) (h : (id == 0) = false) (h2 : 2 ≤ id) (h3 : id < used) :
    Calls Tryd.prog 71 #[.agg #[.int .i64 gen, .int .i64 root, .int .i64 used, .int .i64 free], .int .i64 id] w fun e w' => e = .returned (.bool true) ∧ Below w.heap.size w w' := by
  go_enter Tryd.func71, Tryd.ntmps71
  go_wp2
  go_ret
  exact ⟨rfl, (Below.refl _ _).alloc (Nat.le_refl _) _⟩

set_option maxHeartbeats 400000 in
theorem names2 (gen root used free id : Int) (w : World) (h : (id == 0) = false) (h2 : decide (2 ≤ id) = false) :
    Calls Tryd.prog 71 #[.agg #[.int .i64 gen, .int .i64 root, .int .i64 used, .int .i64 free], .int .i64 id] w fun e w' => e = .returned (.bool false) ∧ Below w.heap.size w w' := by
  go_enter Tryd.func71, Tryd.ntmps71
  go_wp2
  go_ret
  exact ⟨rfl, (Below.refl _ _).alloc (Nat.le_refl _) _⟩

set_option maxHeartbeats 400000 in
theorem names3 (gen root used free id : Int) (w : World) (h : (id == 0) = false) (h2 : 2 ≤ id) (h3 : decide (id < used) = false) :
    Calls Tryd.prog 71 #[.agg #[.int .i64 gen, .int .i64 root, .int .i64 used, .int .i64 free], .int .i64 id] w fun e w' => e = .returned (.bool false) ∧ Below w.heap.size w w' := by
  go_enter Tryd.func71, Tryd.ntmps71
  go_wp2
  go_ret
  exact ⟨rfl, (Below.refl _ _).alloc (Nat.le_refl _) _⟩

theorem names_calls (gen root used free id : Int) (w : World) :
    Calls Tryd.prog 71 #[.agg #[.int .i64 gen, .int .i64 root, .int .i64 used, .int .i64 free], .int .i64 id] w fun e w' => e = .returned (.bool (nmB used id)) ∧ Below w.heap.size w w' := by
  by_cases h : id = 0
  · rw [show nmB used id = true from decide_eq_true (Or.inl h)]
    exact names0 gen root used free id w (by simpa using h)
  · by_cases h2 : 2 ≤ id
    · by_cases h3 : id < used
      · rw [show nmB used id = true from decide_eq_true (Or.inr ⟨h2, h3⟩)]
        exact names1 gen root used free id w (by simpa using h) h2 h3
      · rw [show nmB used id = false from decide_eq_false (by omega)]
        exact names3 gen root used free id w (by simpa using h) h2 (by simpa using h3)
    · rw [show nmB used id = false from decide_eq_false (by omega)]
      exact names2 gen root used free id w (by simpa using h) (by simpa using h2)

set_option maxHeartbeats 400000 in
theorem l2ok_g0 (gen root used free : Int) (w : World) (h : gen < 1) :
    Calls Tryd.prog 40 #[.agg #[.int .i64 gen, .int .i64 root, .int .i64 used, .int .i64 free]] w fun e w' => e = .returned (.bool false) ∧ Below w.heap.size w w' := by
  go_enter Tryd.func40, Tryd.ntmps40
  go_wp2
  go_ret
  exact ⟨rfl, (Below.refl _ _).alloc (Nat.le_refl _) _⟩

set_option maxHeartbeats 400000 in
theorem l2ok_g1 (gen root used free : Int) (w : World) (h : ¬ gen < 1) (h2 : 1000000000000 < gen) :
    Calls Tryd.prog 40 #[.agg #[.int .i64 gen, .int .i64 root, .int .i64 used, .int .i64 free]] w fun e w' => e = .returned (.bool false) ∧ Below w.heap.size w w' := by
  go_enter Tryd.func40, Tryd.ntmps40
  go_wp2
  go_ret
  exact ⟨rfl, (Below.refl _ _).alloc (Nat.le_refl _) _⟩

set_option maxHeartbeats 400000 in
theorem l2ok_u0 (gen root used free : Int) (w : World) (h : ¬ gen < 1) (h2 : ¬ 1000000000000 < gen) (h3 : used < 2) :
    Calls Tryd.prog 40 #[.agg #[.int .i64 gen, .int .i64 root, .int .i64 used, .int .i64 free]] w fun e w' => e = .returned (.bool false) ∧ Below w.heap.size w w' := by
  go_enter Tryd.func40, Tryd.ntmps40
  go_wp2
  go_ret
  exact ⟨rfl, (Below.refl _ _).alloc (Nat.le_refl _) _⟩

set_option maxHeartbeats 400000 in
theorem l2ok_u1 (gen root used free : Int) (w : World) (h : ¬ gen < 1) (h2 : ¬ 1000000000000 < gen) (h3 : ¬ used < 2) (h4 : 1024 < used) :
    Calls Tryd.prog 40 #[.agg #[.int .i64 gen, .int .i64 root, .int .i64 used, .int .i64 free]] w fun e w' => e = .returned (.bool false) ∧ Below w.heap.size w w' := by
  go_enter Tryd.func40, Tryd.ntmps40
  go_wp2
  go_ret
  exact ⟨rfl, (Below.refl _ _).alloc (Nat.le_refl _) _⟩

set_option maxHeartbeats 400000 in
theorem l2ok_zz (gen root used free : Int) (w : World) (h : ¬ gen < 1) (h2 : ¬ 1000000000000 < gen) (h3 : ¬ used < 2) (h4 : ¬ 1024 < used) (r : (root == 0) = true) (f : (free == 0) = true) :
    Calls Tryd.prog 40 #[.agg #[.int .i64 gen, .int .i64 root, .int .i64 used, .int .i64 free]] w fun e w' => e = .returned (.bool true) ∧ Below w.heap.size w w' := by
  go_enter Tryd.func40, Tryd.ntmps40
  go_wp2
  go_ret
  exact ⟨rfl, (Below.refl _ _).alloc (Nat.le_refl _) _⟩

set_option maxHeartbeats 400000 in
theorem l2ok_zy (gen root used free : Int) (w : World) (h : ¬ gen < 1) (h2 : ¬ 1000000000000 < gen) (h3 : ¬ used < 2) (h4 : ¬ 1024 < used) (r : (root == 0) = true) (f : (free == 0) = false) (f2 : 2 ≤ free) (f3 : free < used) :
    Calls Tryd.prog 40 #[.agg #[.int .i64 gen, .int .i64 root, .int .i64 used, .int .i64 free]] w fun e w' => e = .returned (.bool true) ∧ Below w.heap.size w w' := by
  go_enter Tryd.func40, Tryd.ntmps40
  go_wp2
  go_ret
  exact ⟨rfl, (Below.refl _ _).alloc (Nat.le_refl _) _⟩

set_option maxHeartbeats 400000 in
theorem l2ok_za (gen root used free : Int) (w : World) (h : ¬ gen < 1) (h2 : ¬ 1000000000000 < gen) (h3 : ¬ used < 2) (h4 : ¬ 1024 < used) (r : (root == 0) = true) (f : (free == 0) = false) (f2 : decide (2 ≤ free) = false) :
    Calls Tryd.prog 40 #[.agg #[.int .i64 gen, .int .i64 root, .int .i64 used, .int .i64 free]] w fun e w' => e = .returned (.bool false) ∧ Below w.heap.size w w' := by
  go_enter Tryd.func40, Tryd.ntmps40
  go_wp2
  go_ret
  exact ⟨rfl, (Below.refl _ _).alloc (Nat.le_refl _) _⟩

set_option maxHeartbeats 400000 in
theorem l2ok_zb (gen root used free : Int) (w : World) (h : ¬ gen < 1) (h2 : ¬ 1000000000000 < gen) (h3 : ¬ used < 2) (h4 : ¬ 1024 < used) (r : (root == 0) = true) (f : (free == 0) = false) (f2 : 2 ≤ free) (f3 : decide (free < used) = false) :
    Calls Tryd.prog 40 #[.agg #[.int .i64 gen, .int .i64 root, .int .i64 used, .int .i64 free]] w fun e w' => e = .returned (.bool false) ∧ Below w.heap.size w w' := by
  go_enter Tryd.func40, Tryd.ntmps40
  go_wp2
  go_ret
  exact ⟨rfl, (Below.refl _ _).alloc (Nat.le_refl _) _⟩

set_option maxHeartbeats 400000 in
theorem l2ok_yz (gen root used free : Int) (w : World) (h : ¬ gen < 1) (h2 : ¬ 1000000000000 < gen) (h3 : ¬ used < 2) (h4 : ¬ 1024 < used) (r : (root == 0) = false) (r2 : 2 ≤ root) (r3 : root < used) (f : (free == 0) = true) :
    Calls Tryd.prog 40 #[.agg #[.int .i64 gen, .int .i64 root, .int .i64 used, .int .i64 free]] w fun e w' => e = .returned (.bool true) ∧ Below w.heap.size w w' := by
  go_enter Tryd.func40, Tryd.ntmps40
  go_wp2
  go_ret
  exact ⟨rfl, (Below.refl _ _).alloc (Nat.le_refl _) _⟩

set_option maxHeartbeats 400000 in
theorem l2ok_yy (gen root used free : Int) (w : World) (h : ¬ gen < 1) (h2 : ¬ 1000000000000 < gen) (h3 : ¬ used < 2) (h4 : ¬ 1024 < used) (r : (root == 0) = false) (r2 : 2 ≤ root) (r3 : root < used) (f : (free == 0) = false) (f2 : 2 ≤ free) (f3 : free < used) :
    Calls Tryd.prog 40 #[.agg #[.int .i64 gen, .int .i64 root, .int .i64 used, .int .i64 free]] w fun e w' => e = .returned (.bool true) ∧ Below w.heap.size w w' := by
  go_enter Tryd.func40, Tryd.ntmps40
  go_wp2
  go_ret
  exact ⟨rfl, (Below.refl _ _).alloc (Nat.le_refl _) _⟩

set_option maxHeartbeats 400000 in
theorem l2ok_ya (gen root used free : Int) (w : World) (h : ¬ gen < 1) (h2 : ¬ 1000000000000 < gen) (h3 : ¬ used < 2) (h4 : ¬ 1024 < used) (r : (root == 0) = false) (r2 : 2 ≤ root) (r3 : root < used) (f : (free == 0) = false) (f2 : decide (2 ≤ free) = false) :
    Calls Tryd.prog 40 #[.agg #[.int .i64 gen, .int .i64 root, .int .i64 used, .int .i64 free]] w fun e w' => e = .returned (.bool false) ∧ Below w.heap.size w w' := by
  go_enter Tryd.func40, Tryd.ntmps40
  go_wp2
  go_ret
  exact ⟨rfl, (Below.refl _ _).alloc (Nat.le_refl _) _⟩

set_option maxHeartbeats 400000 in
theorem l2ok_yb (gen root used free : Int) (w : World) (h : ¬ gen < 1) (h2 : ¬ 1000000000000 < gen) (h3 : ¬ used < 2) (h4 : ¬ 1024 < used) (r : (root == 0) = false) (r2 : 2 ≤ root) (r3 : root < used) (f : (free == 0) = false) (f2 : 2 ≤ free) (f3 : decide (free < used) = false) :
    Calls Tryd.prog 40 #[.agg #[.int .i64 gen, .int .i64 root, .int .i64 used, .int .i64 free]] w fun e w' => e = .returned (.bool false) ∧ Below w.heap.size w w' := by
  go_enter Tryd.func40, Tryd.ntmps40
  go_wp2
  go_ret
  exact ⟨rfl, (Below.refl _ _).alloc (Nat.le_refl _) _⟩

set_option maxHeartbeats 400000 in
theorem l2ok_a (gen root used free : Int) (w : World) (h : ¬ gen < 1) (h2 : ¬ 1000000000000 < gen) (h3 : ¬ used < 2) (h4 : ¬ 1024 < used) (r : (root == 0) = false) (r2 : decide (2 ≤ root) = false) :
    Calls Tryd.prog 40 #[.agg #[.int .i64 gen, .int .i64 root, .int .i64 used, .int .i64 free]] w fun e w' => e = .returned (.bool false) ∧ Below w.heap.size w w' := by
  go_enter Tryd.func40, Tryd.ntmps40
  go_wp2
  go_ret
  exact ⟨rfl, (Below.refl _ _).alloc (Nat.le_refl _) _⟩

set_option maxHeartbeats 400000 in
theorem l2ok_b (gen root used free : Int) (w : World) (h : ¬ gen < 1) (h2 : ¬ 1000000000000 < gen) (h3 : ¬ used < 2) (h4 : ¬ 1024 < used) (r : (root == 0) = false) (r2 : 2 ≤ root) (r3 : decide (root < used) = false) :
    Calls Tryd.prog 40 #[.agg #[.int .i64 gen, .int .i64 root, .int .i64 used, .int .i64 free]] w fun e w' => e = .returned (.bool false) ∧ Below w.heap.size w w' := by
  go_enter Tryd.func40, Tryd.ntmps40
  go_wp2
  go_ret
  exact ⟨rfl, (Below.refl _ _).alloc (Nat.le_refl _) _⟩

theorem l2ok_calls (gen root used free : Int) (w : World) :
    Calls Tryd.prog 40 #[.agg #[.int .i64 gen, .int .i64 root, .int .i64 used, .int .i64 free]] w fun e w' => e = .returned (.bool (supOk gen root used free)) ∧ Below w.heap.size w w' := by
  by_cases hr : rngB gen used = true
  · obtain ⟨a1, a2, a3, a4⟩ := of_decide_eq_true hr
    have h1 : ¬ gen < 1 := by omega
    have h2 : ¬ 1000000000000 < gen := by omega
    have h3 : ¬ used < 2 := by omega
    have h4 : ¬ 1024 < used := by omega
    unfold supOk
    rw [hr, Bool.true_and]
    by_cases r : root = 0
    · rw [show nmB used root = true from decide_eq_true (Or.inl r), Bool.true_and]
      have r' : (root == 0) = true := by simpa using r
      by_cases f : free = 0
      · rw [show nmB used free = true from decide_eq_true (Or.inl f)]
        exact l2ok_zz gen root used free w h1 h2 h3 h4 r' (by simpa using f)
      · by_cases f2 : 2 ≤ free
        · by_cases f3 : free < used
          · rw [show nmB used free = true from decide_eq_true (Or.inr ⟨f2, f3⟩)]
            exact l2ok_zy gen root used free w h1 h2 h3 h4 r' (by simpa using f) f2 f3
          · rw [show nmB used free = false from decide_eq_false (by omega)]
            exact l2ok_zb gen root used free w h1 h2 h3 h4 r' (by simpa using f) f2 (by simpa using f3)
        · rw [show nmB used free = false from decide_eq_false (by omega)]
          exact l2ok_za gen root used free w h1 h2 h3 h4 r' (by simpa using f) (by simpa using f2)
    · have r' : (root == 0) = false := by simpa using r
      by_cases r2 : 2 ≤ root
      · by_cases r3 : root < used
        · rw [show nmB used root = true from decide_eq_true (Or.inr ⟨r2, r3⟩), Bool.true_and]
          by_cases f : free = 0
          · rw [show nmB used free = true from decide_eq_true (Or.inl f)]
            exact l2ok_yz gen root used free w h1 h2 h3 h4 r' r2 r3 (by simpa using f)
          · by_cases f2 : 2 ≤ free
            · by_cases f3 : free < used
              · rw [show nmB used free = true from decide_eq_true (Or.inr ⟨f2, f3⟩)]
                exact l2ok_yy gen root used free w h1 h2 h3 h4 r' r2 r3 (by simpa using f) f2 f3
              · rw [show nmB used free = false from decide_eq_false (by omega)]
                exact l2ok_yb gen root used free w h1 h2 h3 h4 r' r2 r3 (by simpa using f) f2 (by simpa using f3)
            · rw [show nmB used free = false from decide_eq_false (by omega)]
              exact l2ok_ya gen root used free w h1 h2 h3 h4 r' r2 r3 (by simpa using f) (by simpa using f2)
        · rw [show nmB used root = false from decide_eq_false (by omega), Bool.false_and]
          exact l2ok_b gen root used free w h1 h2 h3 h4 r' r2 (by simpa using r3)
      · rw [show nmB used root = false from decide_eq_false (by omega), Bool.false_and]
        exact l2ok_a gen root used free w h1 h2 h3 h4 r' (by simpa using r2)
  · have hr' : rngB gen used = false := by simpa using hr
    unfold supOk
    rw [hr', Bool.false_and]
    have hn := of_decide_eq_false hr'
    by_cases h1 : gen < 1
    · exact l2ok_g0 gen root used free w h1
    · by_cases h2 : 1000000000000 < gen
      · exact l2ok_g1 gen root used free w h1 h2
      · by_cases h3 : used < 2
        · exact l2ok_u0 gen root used free w h1 h2 h3
        · exact l2ok_u1 gen root used free w h1 h2 h3 (by omega)

set_option maxHeartbeats 400000 in
theorem imok_g0 (gen root used free : Int) (w : World) (h : gen < 1) :
    Calls Tryd.prog 43 #[.agg #[.int .i64 gen, .int .i64 root, .int .i64 used, .int .i64 free]] w fun e w' => e = .returned (.bool false) ∧ Below w.heap.size w w' := by
  go_enter Tryd.func43, Tryd.ntmps43
  go_wp2
  go_ret
  exact ⟨rfl, (Below.refl _ _).alloc (Nat.le_refl _) _⟩

set_option maxHeartbeats 400000 in
theorem imok_g1 (gen root used free : Int) (w : World) (h : ¬ gen < 1) (h2 : 1000000000000 < gen) :
    Calls Tryd.prog 43 #[.agg #[.int .i64 gen, .int .i64 root, .int .i64 used, .int .i64 free]] w fun e w' => e = .returned (.bool false) ∧ Below w.heap.size w w' := by
  go_enter Tryd.func43, Tryd.ntmps43
  go_wp2
  go_ret
  exact ⟨rfl, (Below.refl _ _).alloc (Nat.le_refl _) _⟩

set_option maxHeartbeats 400000 in
theorem imok_u0 (gen root used free : Int) (w : World) (h : ¬ gen < 1) (h2 : ¬ 1000000000000 < gen) (h3 : used < 2) :
    Calls Tryd.prog 43 #[.agg #[.int .i64 gen, .int .i64 root, .int .i64 used, .int .i64 free]] w fun e w' => e = .returned (.bool false) ∧ Below w.heap.size w w' := by
  go_enter Tryd.func43, Tryd.ntmps43
  go_wp2
  go_ret
  exact ⟨rfl, (Below.refl _ _).alloc (Nat.le_refl _) _⟩

set_option maxHeartbeats 400000 in
theorem imok_u1 (gen root used free : Int) (w : World) (h : ¬ gen < 1) (h2 : ¬ 1000000000000 < gen) (h3 : ¬ used < 2) (h4 : 1024 < used) :
    Calls Tryd.prog 43 #[.agg #[.int .i64 gen, .int .i64 root, .int .i64 used, .int .i64 free]] w fun e w' => e = .returned (.bool false) ∧ Below w.heap.size w w' := by
  go_enter Tryd.func43, Tryd.ntmps43
  go_wp2
  go_ret
  exact ⟨rfl, (Below.refl _ _).alloc (Nat.le_refl _) _⟩

set_option maxHeartbeats 400000 in
theorem imok_rf (gen root used free : Int) (w : World) (h : ¬ gen < 1) (h2 : ¬ 1000000000000 < gen) (h3 : ¬ used < 2) (h4 : ¬ 1024 < used)  (r : nmB used root = false) :
    Calls Tryd.prog 43 #[.agg #[.int .i64 gen, .int .i64 root, .int .i64 used, .int .i64 free]] w fun e w' => e = .returned (.bool false) ∧ Below w.heap.size w w' := by
  have HR : Hid (nmB used root = false) := r
  clear r
  go_enter Tryd.func43, Tryd.ntmps43
  go_wp2_with fail
  refine (names_calls gen root used free root _).mono ?_
  rw [HR.out]
  rintro e w1 ⟨rfl, b1⟩
  have q : Below w.heap.size w w1 := ((Below.refl _ _).alloc (Nat.le_refl _) _).trans (b1.mono (by simp))
  go_wp2
  go_ret
  exact ⟨rfl, q⟩

set_option maxHeartbeats 400000 in
theorem imok_rt (gen root used free : Int) (w : World) (h : ¬ gen < 1) (h2 : ¬ 1000000000000 < gen) (h3 : ¬ used < 2) (h4 : ¬ 1024 < used)  (r : nmB used root = true) :
    Calls Tryd.prog 43 #[.agg #[.int .i64 gen, .int .i64 root, .int .i64 used, .int .i64 free]] w fun e w' => e = .returned (.bool (nmB used free)) ∧ Below w.heap.size w w' := by
  have HR : Hid (nmB used root = true) := r
  clear r
  go_enter Tryd.func43, Tryd.ntmps43
  go_wp2_with fail
  refine (names_calls gen root used free root _).mono ?_
  rw [HR.out]
  rintro e w1 ⟨rfl, b1⟩
  have q : Below w.heap.size w w1 := ((Below.refl _ _).alloc (Nat.le_refl _) _).trans (b1.mono (by simp))
  have k0 : w1.cell? ⟨w.heap.size, 0, none⟩ = some (.int .i64 gen) := by rw [b1.cell (p := ⟨w.heap.size, 0, none⟩) (by simp)]; simp
  have k1 : w1.cell? ⟨w.heap.size, 1, none⟩ = some (.int .i64 root) := by rw [b1.cell (p := ⟨w.heap.size, 1, none⟩) (by simp)]; simp
  have k2 : w1.cell? ⟨w.heap.size, 2, none⟩ = some (.int .i64 used) := by rw [b1.cell (p := ⟨w.heap.size, 2, none⟩) (by simp)]; simp
  have k3 : w1.cell? ⟨w.heap.size, 3, none⟩ = some (.int .i64 free) := by rw [b1.cell (p := ⟨w.heap.size, 3, none⟩) (by simp)]; simp
  clear b1
  go_wp2_with fail
  refine (names_calls gen root used free free _).mono ?_
  rintro e w2 ⟨rfl, b2⟩
  go_wp2
  go_ret
  exact ⟨rfl, q.trans (b2.mono q.size)⟩

theorem imok_calls (gen root used free : Int) (w : World) :
    Calls Tryd.prog 43 #[.agg #[.int .i64 gen, .int .i64 root, .int .i64 used, .int .i64 free]] w fun e w' => e = .returned (.bool (supOk gen root used free)) ∧ Below w.heap.size w w' := by
  by_cases hr : rngB gen used = true
  · obtain ⟨a1, a2, a3, a4⟩ := of_decide_eq_true hr
    unfold supOk
    rw [hr, Bool.true_and]
    cases r : nmB used root with
    | true =>
      rw [Bool.true_and]
      exact imok_rt gen root used free w (by omega) (by omega) (by omega) (by omega) r
    | false =>
      rw [Bool.false_and]
      exact imok_rf gen root used free w (by omega) (by omega) (by omega) (by omega) r
  · have hr' : rngB gen used = false := by simpa using hr
    unfold supOk
    rw [hr', Bool.false_and]
    have hn := of_decide_eq_false hr'
    by_cases h1 : gen < 1
    · exact imok_g0 gen root used free w h1
    · by_cases h2 : 1000000000000 < gen
      · exact imok_g1 gen root used free w h1 h2
      · by_cases h3 : used < 2
        · exact imok_u0 gen root used free w h1 h2 h3
        · exact imok_u1 gen root used free w h1 h2 h3 (by omega)

set_option maxHeartbeats 400000 in
theorem superPage_calls (gen root used free : Int) (w : World) (h0 : 0 ≤ gen) (h1 : gen ≤ 1000000000000) :
    Calls Tryd.prog 46 #[.agg #[.int .i64 gen, .int .i64 root, .int .i64 used, .int .i64 free]] w fun e w' => e = .returned (.int .i64 (gen % 2)) ∧ Below w.heap.size w w' := by
  go_enter Tryd.func46, Tryd.ntmps46
  go_wp2
  go_ret
  exact ⟨rfl, (Below.refl _ _).alloc (Nat.le_refl _) _⟩

end Go.Proofs.YtjjfgoeibcmfkaaDoor

namespace Go.Proofs.YtjjfgoeibcmfkaaDoor
open Go.RowKit

def supBody (gen root used free : Int) : List Int := num gen 8 ++ num root 4 ++ (num used 4 ++ num free 4)
theorem supBody_len (gen root used free : Int) : (supBody gen root used free).length = 20 := by simp [supBody, num_len]
theorem supBody_isB (gen root used free : Int) : IsB (supBody gen root used free) := isB_append (isB_append (num_isB _ _) (num_isB _ _)) (isB_append (num_isB _ _) (num_isB _ _))

/-- 'append(s, x...)' as one step of a region that draws its order. -/
theorem step_app {w : World} {ops : Array Oper} {o : Oper} {act : Act} {K : Act → World → Prop} {Q : Exit → Act → World → Prop} {E : Prop} (hgd : o.guard = none) (s x : Operand)
    (ho : o.op = .call { callee := .builtin .append, args := #[s, x], argTypes := #[38, 38] })
    (B : Nat) (a : Option Addr) (n c : Nat) (xs : List Int) (hs : act.eval s = .slice a n c) (hown : Own B w a n c xs)
    (g m d : Nat) (l : List Int) (hx : act.eval x = .slice (some ⟨g, 0, none⟩) m d) (hl : Bs w (some ⟨g, 0, none⟩) m d l) (hlen : n + m ≤ 140737488355328) (hB : B ≤ w.heap.size)
    (h : ∀ a' c' w', Own B w' a' (n + m) c' (xs ++ l) → Below B w w' → K (act.put o.dst (.slice a' (n + m) c')) w') :
    if Region.wanted o (yielded ops act.tmps) = true then Oper.wp Tryd.prog o act w K Q else E := by
  have hw : Region.wanted o (yielded ops act.tmps) = true := by simp [Region.wanted, hgd]
  rw [if_pos hw]
  obtain ⟨i, hi, hz0, hz1, hz2⟩ := info_parts info5
  refine wp_append_own w s x _ ho B 5 i _ 1 1 Tryd.underlying38 hi hz0 hz1 hz2 rfl (by omega) _ n (ob xs) hs hown ⟨g, 0, none⟩ m d (ob l) hx (by simp [ob, hl.len_eq]) ?_ (ob_oneCell l) (by unfold maxLen; omega) (by omega) hB ?_
  · intro j u hj
    have hjl : j < l.length := by have := (List.getElem?_eq_some_iff.1 hj).1; simpa [ob] using this
    obtain ⟨b1, off, e, _, hc⟩ := hl.at_ (by have := hl.len_eq; omega)
    cases e
    rw [ob_getElem? l j hjl] at hj
    rw [Addr.add_lit, hc j (by have := hl.len_eq; omega)]
    exact hj
  · intro v' w' ho' hg' _
    have e : ob xs ++ ob l = ob (xs ++ l) := by simp [ob]
    rw [e] at ho'
    have hv : ∃ a' c', v' = .slice a' (n + m) c' := by
      rcases ho'.2 with ⟨rfl, h0⟩ | ⟨g, cap, cur, rfl, _⟩
      · exact ⟨none, 0, by rw [h0]⟩
      · exact ⟨_, _, rfl⟩
    obtain ⟨a', c', rfl⟩ := hv
    exact h a' c' w' ho' ((Below.refl _ _).grown hg' hB (fun k hk => (hown.lt k hk).1))

theorem l2Num_some (v : Int) (k : Nat) (w : World) (h0 : 0 ≤ v) (h1 : v ≤ 9223372036854775807) (hk : k ≤ 8) (hk0 : 0 < k) :
    Calls Tryd.prog 70 #[.int .i64 v, .int .i64 k] w fun e w' => ∃ g c, e = .returned (.slice (some ⟨g, 0, none⟩) k c) ∧ Below w.heap.size w w' ∧ Own w.heap.size w' (some ⟨g, 0, none⟩) k c (num v k) := by
  refine (l2Num_calls v k w h0 h1 hk).mono ?_
  rintro e w' ⟨a, c, rfl, b, o⟩
  obtain ⟨g, rfl, _⟩ := (show ∃ g, a = some ⟨g, 0, none⟩ ∧ w.heap.size ≤ g by
    rcases o.2 with ⟨e, h0⟩ | ⟨g, cap, cur, e, hg, _⟩
    · omega
    · cases e
      exact ⟨g, rfl, hg⟩)
  exact ⟨g, c, rfl, b, o⟩

theorem undrew {B : Nat} {w w' : World} (h : Below B w.drew w') : Below B w w' := ⟨h.os, h.tape, h.output, h.size, h.block⟩

/-- The cells of a box of four. -/
theorem box4 {B : Nat} {w wx w1 : World} {v0 v1 v2 v3 : Value} {t : TypeId} (b : Below B wx w1) (hB : w.heap.size < B) (h0 : wx.heap = (w.alloc (.cells #[v0, v1, v2, v3] t)).heap) :
    w1.cell? ⟨w.heap.size, 0, none⟩ = some v0 ∧ w1.cell? ⟨w.heap.size, 1, none⟩ = some v1 ∧ w1.cell? ⟨w.heap.size, 2, none⟩ = some v2 ∧ w1.cell? ⟨w.heap.size, 3, none⟩ = some v3 := by
  have key : ∀ o, w1.cell? ⟨w.heap.size, o, none⟩ = (w.alloc (.cells #[v0, v1, v2, v3] t)).cell? ⟨w.heap.size, o, none⟩ := fun o => by
    rw [b.cell (p := ⟨w.heap.size, o, none⟩) hB]
    exact World.cell?_of_block (by rw [h0])
  refine ⟨?_, ?_, ?_, ?_⟩ <;> rw [key] <;> simp
/-- .. that was kept. -/
theorem keep4 {B : Nat} {w w1 w2 : World} {v0 v1 v2 v3 : Value} (k : w1.cell? ⟨w.heap.size, 0, none⟩ = some v0 ∧ w1.cell? ⟨w.heap.size, 1, none⟩ = some v1 ∧ w1.cell? ⟨w.heap.size, 2, none⟩ = some v2 ∧ w1.cell? ⟨w.heap.size, 3, none⟩ = some v3) (b : Below B w1 w2) (hB : w.heap.size < B) :
    w2.cell? ⟨w.heap.size, 0, none⟩ = some v0 ∧ w2.cell? ⟨w.heap.size, 1, none⟩ = some v1 ∧ w2.cell? ⟨w.heap.size, 2, none⟩ = some v2 ∧ w2.cell? ⟨w.heap.size, 3, none⟩ = some v3 := by
  refine ⟨?_, ?_, ?_, ?_⟩ <;> rw [b.cell (p := ⟨w.heap.size, _, none⟩) hB]
  · exact k.1
  · exact k.2.1
  · exact k.2.2.1
  · exact k.2.2.2

set_option maxRecDepth 100000 in
set_option maxHeartbeats 4000000 in
theorem l2SuperBody_calls (gen root used free : Int) (w : World) (g0 : 0 ≤ gen) (g1 : gen ≤ 1000000000000) (r0 : 0 ≤ root) (r1 : root ≤ 1024) (u0 : 0 ≤ used) (u1 : used ≤ 1024) (f0 : 0 ≤ free) (f1 : free ≤ 1024) :
    Calls Tryd.prog 42 #[.agg #[.int .i64 gen, .int .i64 root, .int .i64 used, .int .i64 free]] w fun e w' => ∃ a c, e = .returned (.slice a 20 c) ∧ Below w.heap.size w w' ∧ Own w.heap.size w' a 20 c (supBody gen root used free) := by
  go_enter Tryd.func42, Tryd.ntmps42
  go_wp2_with fail
  go_cut [3] (fun s3 wx => ∃ a3 c3, s3 = .slice a3 12 c3 ∧ Below w.heap.size w wx ∧ w.heap.size + 1 ≤ wx.heap.size ∧ Own (w.heap.size + 1) wx a3 12 c3 (num gen 8 ++ num root 4) ∧ wx.cell? ⟨w.heap.size, 0, none⟩ = some (.int .i64 gen) ∧ wx.cell? ⟨w.heap.size, 1, none⟩ = some (.int .i64 root) ∧ wx.cell? ⟨w.heap.size, 2, none⟩ = some (.int .i64 used) ∧ wx.cell? ⟨w.heap.size, 3, none⟩ = some (.int .i64 free))
  case first =>
    go_region_law (first
      | (refine step_app rfl _ _ rfl (w.heap.size + 1) _ 8 c1 (num gen 8) rfl (o1.below b2) g2 4 c2 (num root 4) rfl (o2.bs (num_isB _ _)) (by omega) (by omega) ?_; intro a3 c3 w3 o3 b3)
      | (rw [if_pos (show Region.wanted _ _ = true from rfl)]; go_wp2_with (first
        | (go_at_call_of 70 gen; refine (l2Num_some gen 8 _ g0 (by omega) (by omega) (by omega)).mono ?_; rintro e w1 ⟨g1, c1, rfl, b1, o1⟩; simp only [World.size_drew, World.size_alloc] at b1 o1; obtain ⟨k0, k1, k2, k3⟩ := box4 (w := w) (v0 := .int .i64 gen) (v1 := .int .i64 root) (v2 := .int .i64 used) (v3 := .int .i64 free) (t := 28) b1 (Nat.lt_succ_self _) rfl; have z1 := b1.size; simp only [World.size_drew, World.size_alloc] at z1)
        | (go_at_call_of 70 root; refine (l2Num_some root 4 _ r0 (by omega) (by omega) (by omega)).mono ?_; rintro e w2 ⟨g2, c2, rfl, b2, o2⟩; have z2 := b2.size))))
    all_goals
      have kk := keep4 (w := w) (keep4 (w := w) ⟨k0, k1, k2, k3⟩ b2 (by omega)) b3 (by omega)
      have q3 : Below w.heap.size w w3 := (((Below.refl _ _).alloc (Nat.le_refl _) _).drew.trans (b1.mono (Nat.le_succ _))).trans ((b2.mono (by omega)).trans (b3.mono (Nat.le_succ _)))
      have z3 : w.heap.size + 1 ≤ w3.heap.size := by have := b3.size; omega
      have KK : Hid _ := kk
      clear b1 b2 b3 o1 o2 z1 z2 k0 k1 k2 k3 kk
      go_wp2_with fail
      go_meet
      exact ⟨a3, c3, rfl, q3, z3, o3, KK.out⟩
  case rest =>
  obtain ⟨a3, c3, rfl, q3, z3, o3, k0, k1, k2, k3⟩ := hcut
  have tok1 : True := trivial
  go_wp2_with fail
  go_region_law (first
    | (have _t := tok1; refine step_app rfl _ _ rfl (w.heap.size + 1) a3 12 c3 (num gen 8 ++ num root 4) rfl ?_ g4 4 c4 (num used 4) rfl ?_ ?_ ?_ ?_; exact o3.below b4; exact o4.bs (num_isB _ _); omega; omega; intro a5 c5 w5 o5 b5; have z5 := b5.size; have o5h : Own (w.heap.size + 1) w5 a5 16 c5 (num gen 8 ++ num root 4 ++ num used 4) := (by simpa using o5); obtain ⟨t0, t1, t2, t3⟩ := keep4 (w := w) ⟨p0, p1, p2, p3⟩ b5 (by omega); clear tok1 _t)
    | (have _u := b6; refine step_app rfl _ _ rfl (w.heap.size + 1) a5 16 c5 (num gen 8 ++ num root 4 ++ num used 4) rfl ?_ g6 4 c6 (num free 4) rfl ?_ ?_ ?_ ?_; exact o5h.below b6; exact o6.bs (num_isB _ _); omega; omega; intro a7 c7 w7 o7 b7; clear _u)
    | (rw [if_pos (show Region.wanted _ _ = true from rfl)]; go_wp2_with (first
      | (go_at_call_of 70 used; refine (l2Num_some used 4 _ u0 (by omega) (by omega) (by omega)).mono ?_; rintro e w4 ⟨g4, c4, rfl, b4, o4⟩; simp only [World.size_drew] at b4 o4; replace b4 := undrew b4; have z4 := b4.size; obtain ⟨p0, p1, p2, p3⟩ := keep4 (w := w) ⟨k0, k1, k2, k3⟩ b4 (by omega))
      | (go_at_call_of 70 free; refine (l2Num_some free 4 _ f0 (by omega) (by omega) (by omega)).mono ?_; rintro e w6 ⟨g6, c6, rfl, b6, o6⟩; have z6 := b6.size))))
  all_goals
    have q7 : Below w.heap.size w w7 := q3.trans (((b4.mono (by omega)).trans (b5.mono (Nat.le_succ _))).trans ((b6.mono (by omega)).trans (b7.mono (Nat.le_succ _))))
    have o7h : Own w.heap.size w7 a7 20 c7 (supBody gen root used free) := by
      have := o7.mono (Nat.le_succ _)
      simpa [supBody] using this
    clear b4 b5 b6 b7 o7 o6 o5 o5h o4 o3 k0 k1 k2 k3 p0 p1 p2 p3 t0 t1 t2 t3 q3
    go_wp2
    go_ret
    exact ⟨a7, c7, rfl, q7, o7h⟩
end Go.Proofs.YtjjfgoeibcmfkaaDoor

