import Derived.Test.YtamifpbhmecloaaReader
namespace Go.Proofs.Ytamifpbhmecloaa
open Go.RowKit Go.Maps

set_option maxRecDepth 100000 in
set_option maxHeartbeats 1000000 in
theorem implRead_yes (d : DV) (K : DK) (T : Nat) (w : World) (h : RDisk w d K) (hok : dOk K) (hT : T < K.n) :
    Calls Try.prog 15 #[dval d K, .int .i64 T] w fun e w' => ∃ a c, e = .returned (.tuple #[.slice a 64 c, .bool true]) ∧ Below w.heap.size w w' ∧ Own w.heap.size w' a 64 c (nowL K T) := by
  have hn2 := hok.1.2.1
  have Q0 : Hid _ := (Below.refl w.heap.size w).alloc (Nat.le_refl _) (.cells #[.slice d.sa K.n d.sc, .slice d.pa K.m d.pc] 26)
  have HT : Hid (decide (0 ≤ (T : Int) ∧ (T : Int) < (K.n : Int)) = true) := decide_eq_true (by omega)
  have HOK : Hid (dOk K) := hok
  have NB : Hid _ := now_bs64 h hok T hT
  clear hok
  unfold dval
  go_enter Try.func15, Try.ntmps15
  go_wp2_with fail
  refine (newReader_core d.sa d.pa d.sc d.pc d.sA d.pA d.sN d.sC d.pN d.pC K _ (h.below Q0.out).safe (h.below Q0.out).pend HOK.out).mono ?_
  rintro e w1 ⟨g, rfl, b1, o1⟩
  have HO1 : Hid (w1.ownsMap Try.prog 3 (plainElem Try.prog 3) g K.m (lastD K.At K.m)) := o1
  have k0 : w1.cell? ⟨w.heap.size, 0, none⟩ = some (.slice d.sa K.n d.sc) := by rw [b1.cell (p := ⟨w.heap.size, 0, none⟩) (by simp)]; simp
  have k1 : w1.cell? ⟨w.heap.size, 1, none⟩ = some (.slice d.pa K.m d.pc) := by rw [b1.cell (p := ⟨w.heap.size, 1, none⟩) (by simp)]; simp
  have d1 : Below w.heap.size w w1 := Q0.out.trans (b1.mono Q0.out.size)
  have z1 : w.heap.size < w1.heap.size := by have := b1.size; simp at this; omega
  have q1 := (Below.refl w1.heap.size w1).alloc (Nat.le_refl _) (.cells #[.slice d.sa K.n d.sc, .slice d.pa K.m d.pc, .map (some g)] 86)
  have m0 := k0
  have m1 := k1
  rw [← q1.cell (p := ⟨w.heap.size, 0, none⟩) z1] at m0
  rw [← q1.cell (p := ⟨w.heap.size, 1, none⟩) z1] at m1
  have Q1 : Hid _ := q1
  have D1 : Hid _ := d1
  clear b1 o1 q1 d1 k0 k1
  go_wp2_with fail
  refine (hasSector_calls d.sa d.pa d.sc d.pc K (T : Int) _ (by omega)).mono ?_
  rw [HT.out]
  rintro e w2 ⟨rfl, b2⟩
  have c0 : w2.cell? ⟨w1.heap.size, 0, none⟩ = some (.slice d.sa K.n d.sc) := by rw [b2.cell (p := ⟨w1.heap.size, 0, none⟩) (by simp)]; simp
  have c1 : w2.cell? ⟨w1.heap.size, 1, none⟩ = some (.slice d.pa K.m d.pc) := by rw [b2.cell (p := ⟨w1.heap.size, 1, none⟩) (by simp)]; simp
  have c2 : w2.cell? ⟨w1.heap.size, 2, none⟩ = some (.map (some g)) := by rw [b2.cell (p := ⟨w1.heap.size, 2, none⟩) (by simp)]; simp
  have bq : Below w1.heap.size w1 w2 := Q1.out.trans (b2.mono Q1.out.size)
  have D2 : Hid (Below w.heap.size w w2) := D1.out.trans (bq.mono D1.out.size)
  have HO2 : Hid (w2.ownsMap Try.prog 3 (plainElem Try.prog 3) g K.m (lastD K.At K.m)) := by
    obtain ⟨es, cl, hb, r⟩ := HO1.out
    exact ⟨es, cl, (bq.block g (World.ownsMap.lt HO1.out)).trans hb, r⟩
  clear b2 m0 m1 bq
  go_wp2_with fail
  refine (sector_core d.sa d.pa d.sc d.pc d.sA d.pA d.sN d.sC d.pN d.pC K _ (h.below D2.out).safe (h.below D2.out).pend HOK.out g T hT HO2.out).mono ?_
  have s0 := now_bs (h.below D2.out) T hT
  rw [NB.out] at s0 ⊢
  generalize pick K.At d.pA d.sA K.m T = xA at *
  generalize pick K.At d.pC d.sC K.m T = xC at *
  rintro e w3 ⟨rfl, b3⟩
  have D3 : Hid (Below w.heap.size w w3) := D2.out.trans (b3.mono D2.out.size)
  have s3 := s0.below b3
  clear b3 s0 c0 c1 c2
  go_wp2_with fail
  refine (clone_calls xA 64 xC (nowL K T) _ s3 (by omega)).mono ?_
  rintro e w4 ⟨a4, c4, rfl, b4, o4⟩
  have d4 : Below w.heap.size w w4 := D3.out.trans (b4.mono D3.out.size)
  have z3 := D3.out.size
  clear b4 s3
  go_wp2
  go_ret2
  exact ⟨a4, c4, rfl, d4, o4.mono z3⟩

set_option maxRecDepth 100000 in
set_option maxHeartbeats 1000000 in
theorem implRead_no (d : DV) (K : DK) (t : Int) (w : World) (h : RDisk w d K) (hno : ¬ (dOk K ∧ 0 ≤ t ∧ t < K.n)) :
    Calls Try.prog 15 #[dval d K, .int .i64 t] w fun e w' => ∃ a c, e = .returned (.tuple #[.slice a 0 c, .bool false]) ∧ Below w.heap.size w w' ∧ Own w.heap.size w' a 0 c [] := by
  have Q0 : Hid _ := (Below.refl w.heap.size w).alloc (Nat.le_refl _) (.cells #[.slice d.sa K.n d.sc, .slice d.pa K.m d.pc] 26)
  by_cases hok : dOk K
  · have HT : Hid (decide (0 ≤ t ∧ t < (K.n : Int)) = false) := decide_eq_false (fun hh => hno ⟨hok, hh⟩)
    have hn2 := hok.1.2.1
    have HOK : Hid (dOk K) := hok
    clear hok hno
    unfold dval
    go_enter Try.func15, Try.ntmps15
    go_wp2_with fail
    refine (newReader_core d.sa d.pa d.sc d.pc d.sA d.pA d.sN d.sC d.pN d.pC K _ (h.below Q0.out).safe (h.below Q0.out).pend HOK.out).mono ?_
    rintro e w1 ⟨g, rfl, b1, _⟩
    have k0 : w1.cell? ⟨w.heap.size, 0, none⟩ = some (.slice d.sa K.n d.sc) := by rw [b1.cell (p := ⟨w.heap.size, 0, none⟩) (by simp)]; simp
    have k1 : w1.cell? ⟨w.heap.size, 1, none⟩ = some (.slice d.pa K.m d.pc) := by rw [b1.cell (p := ⟨w.heap.size, 1, none⟩) (by simp)]; simp
    have d1 : Below w.heap.size w w1 := Q0.out.trans (b1.mono Q0.out.size)
    have z1 : w.heap.size < w1.heap.size := by have := b1.size; simp at this; omega
    have q1 := (Below.refl w1.heap.size w1).alloc (Nat.le_refl _) (.cells #[.slice d.sa K.n d.sc, .slice d.pa K.m d.pc, .map (some g)] 86)
    have m0 := k0
    have m1 := k1
    rw [← q1.cell (p := ⟨w.heap.size, 0, none⟩) z1] at m0
    rw [← q1.cell (p := ⟨w.heap.size, 1, none⟩) z1] at m1
    have Q1 : Hid _ := q1
    have D1 : Hid _ := d1
    clear b1 q1 d1 k0 k1
    go_wp2_with fail
    refine (hasSector_calls d.sa d.pa d.sc d.pc K t _ (by omega)).mono ?_
    rw [HT.out]
    rintro e w2 ⟨rfl, b2⟩
    have bq : Below w1.heap.size w1 w2 := Q1.out.trans (b2.mono Q1.out.size)
    have D2 : Hid (Below w.heap.size w w2) := D1.out.trans (bq.mono D1.out.size)
    clear b2 m0 m1 bq
    go_wp2
    go_ret2
    exact ⟨none, 0, rfl, D2.out, own_nil _ _⟩
  · clear hno
    have HOK : Hid (¬ dOk K) := hok
    clear hok
    have NR : Hid _ := newReader_no d K _ (h.below Q0.out) HOK.out
    unfold dval rZ at NR
    unfold dval
    go_enter Try.func15, Try.ntmps15
    go_wp2_with fail
    refine Calls.mono NR.out ?_
    rintro e w1 ⟨rfl, b1⟩
    have d1 : Below w.heap.size w w1 := Q0.out.trans (b1.mono Q0.out.size)
    have D1 : Hid _ := d1.alloc d1.size (.cells #[.slice none 0 0, .slice none 0 0, .map none] 86)
    clear b1 d1
    go_wp2
    go_ret2
    exact ⟨none, 0, rfl, D1.out, own_nil _ _⟩

/-- What is read. -/
noncomputable def readN (K : DK) (t : Int) : Nat := open Classical in if dOk K ∧ 0 ≤ t ∧ t < K.n then 64 else 0
noncomputable def readL (K : DK) (t : Int) : List Int := open Classical in if dOk K ∧ 0 ≤ t ∧ t < K.n then nowL K t.toNat else []
noncomputable def readB (K : DK) (t : Int) : Bool := open Classical in if dOk K ∧ 0 ≤ t ∧ t < K.n then true else false

theorem implRead_calls (d : DV) (K : DK) (t : Int) (w : World) (h : RDisk w d K) :
    Calls Try.prog 15 #[dval d K, .int .i64 t] w fun e w' => ∃ a c, e = .returned (.tuple #[.slice a (readN K t) c, .bool (readB K t)]) ∧ Below w.heap.size w w' ∧ Own w.heap.size w' a (readN K t) c (readL K t) := by
  by_cases hh : dOk K ∧ 0 ≤ t ∧ t < K.n
  · rw [readN, readL, readB, if_pos hh, if_pos hh, if_pos hh]
    obtain ⟨T, rfl⟩ := Int.eq_ofNat_of_zero_le hh.2.1
    exact implRead_yes d K T w h hh.1 (by have := hh.2.2; omega)
  · rw [readN, readL, readB, if_neg hh, if_neg hh, if_neg hh]
    exact implRead_no d K t w h hh
theorem specReadS_calls (d : DV) (K : DK) (t : Int) (w : World) (h : RDisk w d K) :
    Calls Try.prog 21 #[dval d K, .int .i64 t] w fun e w' => ∃ a c, e = .returned (.tuple #[.slice a (readN K t) c, .bool (readB K t)]) ∧ Below w.heap.size w w' ∧ Own w.heap.size w' a (readN K t) c (readL K t) := by
  by_cases hh : dOk K ∧ 0 ≤ t ∧ t < K.n
  · rw [readN, readL, readB, if_pos hh, if_pos hh, if_pos hh]
    obtain ⟨T, rfl⟩ := Int.eq_ofNat_of_zero_le hh.2.1
    exact specRead_yes d K T w h hh.1 (by have := hh.2.2; omega)
  · rw [readN, readL, readB, if_neg hh, if_neg hh, if_neg hh]
    exact specRead_no d K t w h hh
theorem readN_le (K : DK) (t : Int) : readN K t ≤ 64 := by unfold readN; split <;> omega
theorem readL_isB {w : World} {d : DV} {K : DK} (h : RDisk w d K) (t : Int) : IsB (readL K t) := by
  unfold readL
  split
  · rename_i hh
    exact (now_bs h t.toNat (by omega)).byte
  · exact isB_nil
end Go.Proofs.Ytamifpbhmecloaa
