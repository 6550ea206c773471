import Derived.Test.YtjjfgoeibcmfkaaDoorBst0
import Derived.Deep.RegionHeld
import Derived.Test.YtjjfgoeibcmfkaaDoorBst14
import Derived.Test.YtjjfgoeibcmfkaaDoorBst18
import Derived.BigQuiet
/- A region that draws its order: a condition on the world that the last operations need not keep. -/
namespace Go.Proofs.YtjjfgoeibcmfkaaDoor
open Go
set_option linter.unusedVariables false

section
variable {P : Program} {ops : Array Oper} {Q : Exit → Act → World → Prop} {md : Region.Mode} {S : World → Prop} {D : Nat → Bool}

/-- Whatever order is picked from here on; S holds behind every operation but those of D. -/
def wpAnyD (P : Program) (md : Region.Mode) (ops : Array Oper) (Q : Exit → Act → World → Prop) (S : World → Prop) (D : Nat → Bool) : Nat → Array Bool → Act → World → Prop
  | 0, listed, a, w => Region.ready md ops listed = [] ∧ Q .normal a w
  | fuel + 1, listed, a, w =>
    (Region.ready md ops listed = [] → Q .normal a w) ∧
    ∀ i ∈ Region.ready md ops listed, wpOp P ops Q i (fun a' w' => (D i = false → S w') ∧ wpAnyD P md ops Q S D fuel (listed.setIfInBounds i true) a' w') a w
theorem wpAny_ofD : ∀ (fuel : Nat) (listed : Array Bool) (a : Act) (w : World), wpAnyD P md ops Q S D fuel listed a w → wpAny P md ops Q fuel listed a w
  | 0, _, _, _, h => h
  | fuel + 1, _, _, _, h => ⟨h.1, fun i hi => wpOp_mono (fun a' w' h' => wpAny_ofD fuel _ a' w' h'.2) (h.2 i hi)⟩

theorem wpAnyD_first {i : Nat} {oi : Oper} {v : Value} (hi : ops[i]? = some oi) (hsel : ∀ (j : Nat) (o : Oper) cs b, ops[j]? = some o → o.op ≠ .select cs b)
    (hQ : ∀ c a w, Q (.panic c) (a.put oi.dst v) w → Q (.panic c) a w)
    (hD : ∀ j oj, ops[j]? = some oj → D j = true → ∃ e ∈ oj.after, Region.binds md e = true ∧ e.on = i) :
    ∀ (fuel : Nat) (listed : Array Bool) (a : Act) (w : World),
      (∀ j oj, ops[j]? = some oj → j ≠ i → listed.getD j true = false → (∀ e ∈ oj.after, Region.binds md e = true → e.on ≠ i) → oi.apart ops oj = true) →
      i ∈ Region.ready md ops listed → YieldsIf P ops S oi v a → S w →
      wpAnyD P md ops Q S D fuel (listed.setIfInBounds i true) (a.put oi.dst v) w → wpAnyD P md ops Q S D (fuel + 1) listed a w := by
  intro fuel
  induction fuel with
  | zero =>
    intro listed a w _ hr hy hS H
    refine ⟨fun h => (by rw [h] at hr; cases hr), fun j hj => ?_⟩
    by_cases hji : j = i
    · subst hji; exact hy.wpOp hi hS ⟨fun _ => hS, H⟩
    · have := ready_mono hj hji
      rw [H.1] at this
      cases this
  | succ fuel ih =>
    intro listed a w hfree hr hy hS H
    refine ⟨fun h => (by rw [h] at hr; cases hr), fun j hj => ?_⟩
    by_cases hji : j = i
    · subst hji; exact hy.wpOp hi hS ⟨fun _ => hS, H⟩
    · have h1 := H.2 j (ready_mono hj hji)
      obtain ⟨hjun, oj, hoj, hall⟩ := mem_ready.1 hj
      have hnot : ∀ e ∈ oj.after, Region.binds md e = true → e.on ≠ i := fun e he hb heq => by
        have h1 := hall e he hb
        have h0 := (mem_ready.1 hr).1
        rw [heq] at h1
        rcases Nat.lt_or_ge i listed.size with h' | h'
        · simp [h'] at h0 h1; rw [h0] at h1; cases h1
        · simp [Array.getElem?_eq_none h'] at h1
      have hDj : D j = false := by
        cases hd : D j with
        | false => rfl
        | true => obtain ⟨e, he, hb, hon⟩ := hD j oj hoj hd; exact absurd hon (hnot e he hb)
      have h2 := wpOp_putIf hoj (hfree j oj hoj hji hjun hnot) (fun cs b => hsel i oi cs b hi) (fun cs b => hsel j oj cs b hoj) hQ hy h1
      have hfree' : ∀ k ok, ops[k]? = some ok → k ≠ i → (listed.setIfInBounds j true).getD k true = false →
          (∀ e ∈ ok.after, Region.binds md e = true → e.on ≠ i) → oi.apart ops ok = true := fun k ok hk hki hun hno => by
        refine hfree k ok hk hki ?_ hno
        by_cases hjk : j = k
        · subst hjk; exact hjun
        · rw [getD_set_ne true hjk] at hun; exact hun
      refine wpOp_mono (fun a' w' h3 => ⟨h3.2.1, ih (listed.setIfInBounds j true) a' w' hfree' (ready_mono hr (Ne.symm hji)) h3.1 (h3.2.1 hDj) ?_⟩) h2
      rw [Array.setIfInBounds_comm _ _ hji]
      exact h3.2.2

/-- Every operation of D waits for number i. -/
def waitsB (md : Region.Mode) (ops : Array Oper) (D : Nat → Bool) (i : Nat) : Bool :=
  (List.range ops.size).all fun j => !(D j) || match ops[j]? with | none => true | some o => o.after.any fun e => Region.binds md e && e.on == i
theorem waitsB_spec {i : Nat} (h : waitsB md ops D i = true) (j : Nat) (oj : Oper) (hj : ops[j]? = some oj) (hd : D j = true) : ∃ e ∈ oj.after, Region.binds md e = true ∧ e.on = i := by
  have hl : j < ops.size := (Array.getElem?_eq_some_iff.1 hj).1
  have h1 := List.all_eq_true.1 h j (List.mem_range.2 hl)
  simp only [hd, hj, Bool.not_true, Bool.false_or, Array.any_eq_true'] at h1
  obtain ⟨e, he, h2⟩ := h1
  simp only [Bool.and_eq_true, beq_iff_eq] at h2
  exact ⟨e, he, h2.1, h2.2⟩

theorem wpAnyD_take (i : Nat) {oi : Oper} {v : Value} {fuel : Nat} {listed : Array Bool} {a : Act} {w : World} (hi : ops[i]? = some oi)
    (hs : Region.noSelect ops = true) (hf : Region.free md ops listed i = true) (hr : (Region.ready md ops listed).contains i = true) (hw : waitsB md ops D i = true)
    (hQ : ∀ c a w, Q (.panic c) (a.put oi.dst v) w → Q (.panic c) a w) (hy : YieldsIf P ops S oi v a) (hS : S w)
    (h : wpAnyD P md ops Q S D fuel (listed.setIfInBounds i true) (a.put oi.dst v) w) : wpAnyD P md ops Q S D (fuel + 1) listed a w :=
  wpAnyD_first hi (Region.noSelect_spec hs) hQ (waitsB_spec hw) fuel listed a w (Region.free_spec hi hf) (by simpa using hr) hy hS h

/-- .. its slot written out. -/
theorem wpAnyD_takeS (i d : Nat) {oi : Oper} {v : Value} {fuel : Nat} {listed : Array Bool} {a : Act} {w : World} (hi : ops[i]? = some oi) (hd : oi.dst = some d)
    (hs : Region.noSelect ops = true) (hf : Region.free md ops listed i = true) (hr : (Region.ready md ops listed).contains i = true) (hw : waitsB md ops D i = true)
    (hQ : ∀ c a w, Q (.panic c) (a.put oi.dst v) w → Q (.panic c) a w) (hy : YieldsIf P ops S oi v a) (hS : S w)
    (h : wpAnyD P md ops Q S D fuel (listed.setIfInBounds i true) (a.put (some d) v) w) : wpAnyD P md ops Q S D (fuel + 1) listed a w :=
  wpAnyD_take i hi hs hf hr hw hQ hy hS (by rw [hd]; exact h)

/-- One alone may come up. -/
theorem wpAnyD_one (i : Nat) {o : Oper} {fuel : Nat} {listed : Array Bool} {a : Act} {w : World} (hr : Region.ready md ops listed = [i]) (ho : ops[i]? = some o)
    (h : ∀ K' : Act → World → Prop, Shut (∀ a w, (D i = false → S w) → wpAnyD P md ops Q S D fuel (listed.setIfInBounds i true) a w → K' a w) → if Region.wanted o (yielded ops a.tmps) = true then Oper.wp P o a w K' Q else K' (a.put o.dst undef) w) : wpAnyD P md ops Q S D (fuel + 1) listed a w :=
  ⟨fun h0 => (by rw [hr] at h0; cases h0), fun j hj => by
    rw [hr] at hj
    obtain rfl : j = i := by simpa using hj
    exact wpOp_step ho (fun K' hK => h K' (fun a w hS hW => hK a w ⟨hS, hW⟩))⟩

theorem wpAnyD_done {listed : Array Bool} {a : Act} {w : World} (hr : Region.ready md ops listed = []) (h : Q .normal a w) : ∀ fuel, wpAnyD P md ops Q S D fuel listed a w
  | 0 => ⟨hr, h⟩
  | _ + 1 => ⟨fun _ => h, by rw [hr]; simp⟩

theorem wp_regionD (S : World → Prop) (D : Nat → Bool) {id : Nat} {a : Act} {w : World} (hm : P.follows .mixedOrders = true)
    (h : wpAnyD P .any ops Q S D ops.size (Array.replicate ops.size false) a w.drew) : (Code.region id ops true).wp P Q a w :=
  wp_region_any hm (wpAny_ofD _ _ _ _ h)
end
end Go.Proofs.YtjjfgoeibcmfkaaDoor

/- decodePage, in the program. -/
namespace Go.Proofs.YtjjfgoeibcmfkaaDoor
open Go.RowKit
set_option linter.unusedVariables false

set_option maxHeartbeats 1000000 in
theorem implDec_len (ea : Addr) (id : Int) (a : Option Addr) (n c : Nat) (l : List Int) (w : World) (h : Bs w a n c l) (hn : n ≠ 256) (hG : w.cell? ⟨1, 0, none⟩ = some (errV ea)) :
    Calls Tryd.prog 81 #[.int .i64 id, .slice a n c] w fun e w' => Below w.heap.size w w' ∧ e = .returned (.tuple #[.int .i64 0, .slice none 0 0, errV ea]) := by
  have hmx : n ≤ maxLen := Nat.le_trans h.le h.le'
  unfold maxLen at hmx
  have hne : ((n : Int) != 256) = true := by simp; omega
  clear h hn
  go_enter Tryd.func81, Tryd.ntmps81
  go_wp2_with fail
  go_quiet (fail)
  go_wp2
  refine bodyPost_ret (v := .tuple #[.int .i64 0, .slice none 0 0, errV ea]) (by simp [results, Tryd.results81, go_sem]) rfl ⟨below_drewN (Below.refl _ _) _, rfl⟩

set_option maxRecDepth 100000 in
set_option maxHeartbeats 2000000 in
theorem implDec_core (ea : Addr) (id : Int) (b off cap : Nat) (l : List Int) (w : World) (h : Bs w (some ⟨b, off, none⟩) 256 cap l) (hG : w.cell? ⟨1, 0, none⟩ = some (errV ea)) :
    Calls Tryd.prog 81 #[.int .i64 id, .slice (some ⟨b, off, none⟩) 256 cap] w fun e w' => Below w.heap.size w w' ∧ ((decP id l ∧ ∃ a c, e = .returned (.tuple #[.int .i64 (kd l), .slice a (bodyL l).length c, .nilIface]) ∧ Own w.heap.size w' a (bodyL l).length c (bodyL l)) ∨ (¬ decP id l ∧ e = .returned (.tuple #[.int .i64 0, .slice none 0 0, errV ea]))) := by
  have hcap : 256 ≤ cap := h.le
  have hcap' : cap ≤ maxLen := h.le'
  have hll := h.len_eq
  have DI : Hid _ := dec_imp (id := id) h.byte
  have hs := sz_nonneg h.byte
  obtain ⟨N, hN⟩ := Int.eq_ofNat_of_zero_le hs
  have HN : Hid (sz l = (N : Int)) := hN
  have hg0 : 1 < w.heap.size := World.block_lt_of_cell? w ⟨1, 0, none⟩ hG
  have PC : Hid (Bs w (some ⟨b, off + 4, none⟩) 252 (cap - 4) (l.drop 4)) := by
    have := h.piece 4 252 (by omega) (cap - 4) (by omega) (by omega)
    rw [List.take_of_length_le (by rw [List.length_drop]; omega)] at this
    exact this
  have P12 : Hid (Bs w (some ⟨b, off + 4, none⟩) 12 (cap - 4) (cutL l 4 12)) := h.piece 4 12 (by omega) (cap - 4) (by omega) (by omega)
  have PB : Hid (N ≤ 240 → Bs w (some ⟨b, off + 16, none⟩) N (cap - 16) (bodyL l)) := fun hn => by
    have := h.piece 16 N (by omega) (cap - 16) (by omega) (by omega)
    have e : bodyL l = (l.drop 16).take N := by unfold bodyL cutL; rw [HN.out]; simp
    rw [e]; exact this
  have PZ : Hid (N ≤ 240 → Bs w (some ⟨b, off + (16 + N), none⟩) (256 - (16 + N)) (cap - (16 + N)) (l.drop (16 + N))) := fun hn => by
    have := h.piece (16 + N) (256 - (16 + N)) (by omega) (cap - (16 + N)) (by omega) (by omega)
    rw [List.take_of_length_le (by rw [List.length_drop]; omega)] at this
    exact this
  have HIM : Hid (impP id l ↔ low (cutL l 4 4) = id ∧ headOk id (kd l) (N : Int) = true ∧ low (cutL l 0 4) = (crc (l.drop 4) : Int) ∧ head id (kd l) (N : Int) = cutL l 4 12 ∧ zeroB (l.drop (16 + N)) = true) := by
    show impP id l ↔ _
    unfold impP
    rw [HN.out]
    simp only [Int.toNat_natCast]
    exact ⟨fun h => h.2, fun h => ⟨hll, h⟩⟩
  have r0 := readHead_calls b off cap l w h
  rw [show l.getD 8 0 = kd l from rfl, show low (cutL l 10 2) = (N : Int) from hN] at r0
  have CRC : Hid _ := fun a n c v hb hn => implCrc_calls a n c (l.drop 4) v hb hn
  have HH : Hid _ := h
  generalize low (cutL l 4 4) = x4 at *
  generalize low (cutL l 0 4) = x0 at *
  generalize crc (l.drop 4) = cr at *
  generalize kd l = x8 at *
  have R0 : Hid (Calls Tryd.prog 95 #[.slice (some ⟨b, off, none⟩) 256 cap] w fun e w' => e = .returned (.agg #[.int .i64 x4, .int .i64 x8, .int .i64 (N : Int), .int .i64 x0]) ∧ Below w.heap.size w w') := r0
  clear r0 hN hs h
  go_enter Tryd.func81, Tryd.ntmps81
  go_wp2_with fail
  refine Calls.mono R0.out ?_
  rintro e w1 ⟨rfl, b1⟩
  have qa := (Below.refl w1.heap.size w1).alloc (Nat.le_refl _) (.cells #[.int .i64 x4, .int .i64 x8, .int .i64 (N : Int), .int .i64 x0] 144)
  have e1 := b1.trans (qa.mono b1.size)
  have y1 := heap_alloc_new w1 (.cells #[.int .i64 x4, .int .i64 x8, .int .i64 (N : Int), .int .i64 x0] 144)
  have z1 : (w1.alloc (.cells #[.int .i64 x4, .int .i64 x8, .int .i64 (N : Int), .int .i64 x0] 144)).heap.size = w1.heap.size + 1 := by simp
  have zz := b1.size
  clear qa b1
  go_wp2_with fail
  generalize hW1 : w1.alloc (.cells #[.int .i64 x4, .int .i64 x8, .int .i64 (N : Int), .int .i64 x0] 144) = W1 at *
  clear hW1
  have KP : Hid (∀ v, Below W1.heap.size W1 v → v.cell? ⟨w1.heap.size, 0, none⟩ = some (.int .i64 x4) ∧ v.cell? ⟨w1.heap.size, 1, none⟩ = some (.int .i64 x8) ∧ v.cell? ⟨w1.heap.size, 2, none⟩ = some (.int .i64 (N : Int)) ∧ v.cell? ⟨w1.heap.size, 3, none⟩ = some (.int .i64 x0) ∧ v.cell? ⟨1, 0, none⟩ = some (errV ea)) := fun v bv => by
    have yv := (bv.block w1.heap.size (by omega)).trans y1
    exact ⟨cell_of_row _ _ 0 _ _ _ yv, cell_of_row _ _ 1 _ _ _ yv, cell_of_row _ _ 2 _ _ _ yv, cell_of_row _ _ 3 _ _ _ yv, by
      rw [bv.cell (p := ⟨1, 0, none⟩) (by show 1 < _; omega), e1.cell (p := ⟨1, 0, none⟩) hg0]; exact hG⟩
  obtain ⟨k0, k1, k2, k3, k4⟩ := KP.out W1 (Below.refl _ _)
  by_cases hA : x4 = id
  case neg =>
    have hx : (x4 != id) = true := by simp [hA]
    have hno : ¬ decP id l := fun hd => hA (HIM.out.1 (DI.out.1 hd)).1
    have E1 : Hid _ := e1
    have HNO : Hid _ := hno
    clear hno hA
    go_quiet (fail)
    go_wp2_with fail
    go_quiet (fail)
    go_wp2
    refine bodyPost_ret (v := .tuple #[.int .i64 0, .slice none 0 0, errV ea]) (by simp [results, Tryd.results81, go_sem]) rfl ?_
    exact ⟨below_drewN (below_drewN E1.out _) _, Or.inr ⟨HNO.out, rfl⟩⟩
  subst hA
  have hx : (x4 != x4) = false := by simp
  have t4 : ¬ cap = 4 := by omega
  have t16 : ¬ cap = 16 := by omega
  have s4 : (4 : Int) ≤ (cap : Int) := by omega
  have s16 : (16 : Int) ≤ (cap : Int) := by omega
  cases hfit : headOk x4 x8 (N : Int) with
  | false =>
    have hno : ¬ decP x4 l := fun hd => by have := (HIM.out.1 (DI.out.1 hd)).2.1; rw [hfit] at this; cases this
    have HNO : Hid _ := hno
    have HF : Hid _ := hfit
    clear hno hfit
    refine wp_regionD (fun v => v.cell? ⟨w1.heap.size, 0, none⟩ = some (.int .i64 x4) ∧ v.cell? ⟨w1.heap.size, 1, none⟩ = some (.int .i64 x8) ∧ v.cell? ⟨w1.heap.size, 2, none⟩ = some (.int .i64 (N : Int)) ∧ v.cell? ⟨w1.heap.size, 3, none⟩ = some (.int .i64 x0) ∧ v.cell? ⟨1, 0, none⟩ = some (errV ea)) (fun _ => false) (by kernel_rfl) ?_
    have hS0 := KP.out W1.drew (Below.refl _ _).drew
    refine wpAnyD_takeS 0 15 (v := ?vv0) rfl rfl (by kernel_rfl) (by kernel_rfl) (by kernel_rfl) (by kernel_rfl) (fun _ _ _ h => h) (Or.inl ⟨by rfl, ?hy0⟩) hS0 ?rest0
    case hy0 => (intro w hSw; (try dsimp only at hSw); go_simp; try with_reducible rfl)
    simp only [Act.put, List.setIfInBounds_toArray, List.set_cons_zero, List.set_cons_succ]
    refine wpAnyD_takeS 1 16 (v := ?vv1) rfl rfl (by kernel_rfl) (by kernel_rfl) (by kernel_rfl) (by kernel_rfl) (fun _ _ _ h => h) (Or.inl ⟨by rfl, ?hy1⟩) hS0 ?rest1
    case hy1 => (intro w hSw; (try dsimp only at hSw); go_simp; try with_reducible rfl)
    simp only [Act.put, List.setIfInBounds_toArray, List.set_cons_zero, List.set_cons_succ]
    refine wpAnyD_takeS 2 17 (v := ?vv2) rfl rfl (by kernel_rfl) (by kernel_rfl) (by kernel_rfl) (by kernel_rfl) (fun _ _ _ h => h) (Or.inl ⟨by rfl, ?hy2⟩) hS0 ?rest2
    case hy2 => (intro w hSw; (try dsimp only at hSw); go_simp; try with_reducible rfl)
    simp only [Act.put, List.setIfInBounds_toArray, List.set_cons_zero, List.set_cons_succ]
    refine wpAnyD_takeS 3 18 (v := ?vv3) rfl rfl (by kernel_rfl) (by kernel_rfl) (by kernel_rfl) (by kernel_rfl) (fun _ _ _ h => h) (Or.inl ⟨by rfl, ?hy3⟩) hS0 ?rest3
    case hy3 => (intro w hSw; (try dsimp only at hSw); go_simp; try with_reducible rfl)
    simp only [Act.put, List.setIfInBounds_toArray, List.set_cons_zero, List.set_cons_succ]
    refine wpAnyD_takeS 4 19 (v := ?vv4) rfl rfl (by kernel_rfl) (by kernel_rfl) (by kernel_rfl) (by kernel_rfl) (fun _ _ _ h => h) (Or.inl ⟨by rfl, ?hy4⟩) hS0 ?rest4
    case hy4 => (intro w hSw; (try dsimp only at hSw); go_simp; try with_reducible rfl)
    simp only [Act.put, List.setIfInBounds_toArray, List.set_cons_zero, List.set_cons_succ]
    refine wpAnyD_takeS 5 20 (v := ?vv5) rfl rfl (by kernel_rfl) (by kernel_rfl) (by kernel_rfl) (by kernel_rfl) (fun _ _ _ h => h) (Or.inl ⟨by rfl, ?hy5⟩) hS0 ?rest5
    case hy5 => (intro w hSw; (try dsimp only at hSw); go_simp; try with_reducible rfl)
    simp only [Act.put, List.setIfInBounds_toArray, List.set_cons_zero, List.set_cons_succ]
    refine wpAnyD_takeS 6 21 (v := ?vv6) rfl rfl (by kernel_rfl) (by kernel_rfl) (by kernel_rfl) (by kernel_rfl) (fun _ _ _ h => h) (Or.inl ⟨by rfl, ?hy6⟩) hS0 ?rest6
    case hy6 => (intro w hSw; (try dsimp only at hSw); go_simp; try with_reducible rfl)
    simp only [Act.put, List.setIfInBounds_toArray, List.set_cons_zero, List.set_cons_succ]
    refine wpAnyD_takeS 7 22 (v := ?vv7) rfl rfl (by kernel_rfl) (by kernel_rfl) (by kernel_rfl) (by kernel_rfl) (fun _ _ _ h => h) (Or.inl ⟨by rfl, ?hy7⟩) hS0 ?rest7
    case hy7 => (intro w hSw; (try dsimp only at hSw); go_simp; try with_reducible rfl)
    simp only [Act.put, List.setIfInBounds_toArray, List.set_cons_zero, List.set_cons_succ]
    refine wpAnyD_one 8 (by kernel_rfl) rfl (fun KK hK => ?_)
    rw [if_pos (show Region.wanted _ _ = true from rfl)]
    go_wp2_with fail
    refine (fits_no x4 x8 (N : Int) _ HF.out).mono ?_
    rintro e wf ⟨rfl, bf⟩
    simp only [World.size_drew] at bf
    replace bf := undrewX bf
    go_wp2_with fail
    refine hK.out _ _ (fun _ => KP.out wf bf) ?_
    clear hK KK
    have hS1 := KP.out wf bf
    refine wpAnyD_takeS 9 24 (v := ?vv9) rfl rfl (by kernel_rfl) (by kernel_rfl) (by kernel_rfl) (by kernel_rfl) (fun _ _ _ h => h) (Or.inl ⟨by rfl, ?hy9⟩) hS1 ?rest9
    case hy9 => (intro w hSw; (try dsimp only at hSw); go_simp; try with_reducible rfl)
    simp only [Act.put, List.setIfInBounds_toArray, List.set_cons_zero, List.set_cons_succ]
    refine wpAnyD_takeS 10 25 (v := ?vv10) rfl rfl (by kernel_rfl) (by kernel_rfl) (by kernel_rfl) (by kernel_rfl) (fun _ _ _ h => h) (Or.inl ⟨by rfl, ?hy10⟩) hS1 ?rest10
    case hy10 => (intro w hSw; (try dsimp only at hSw); go_simp; try with_reducible rfl)
    simp only [Act.put, List.setIfInBounds_toArray, List.set_cons_zero, List.set_cons_succ]
    refine wpAnyD_takeS 11 26 (v := ?vv11) rfl rfl (by kernel_rfl) (by kernel_rfl) (by kernel_rfl) (by kernel_rfl) (fun _ _ _ h => h) (Or.inl ⟨by rfl, ?hy11⟩) hS1 ?rest11
    case hy11 => (intro w hSw; (try dsimp only at hSw); go_simp; try with_reducible rfl)
    simp only [Act.put, List.setIfInBounds_toArray, List.set_cons_zero, List.set_cons_succ]
    refine wpAnyD_takeS 12 27 (v := undef) rfl rfl (by kernel_rfl) (by kernel_rfl) (by kernel_rfl) (by kernel_rfl) (fun _ _ _ h => h) (Or.inr ⟨by rfl, rfl⟩) hS1 ?_
    simp only [Act.put, List.setIfInBounds_toArray, List.set_cons_zero, List.set_cons_succ]
    refine wpAnyD_takeS 13 28 (v := undef) rfl rfl (by kernel_rfl) (by kernel_rfl) (by kernel_rfl) (by kernel_rfl) (fun _ _ _ h => h) (Or.inr ⟨by rfl, rfl⟩) hS1 ?_
    simp only [Act.put, List.setIfInBounds_toArray, List.set_cons_zero, List.set_cons_succ]
    refine wpAnyD_takeS 14 29 (v := undef) rfl rfl (by kernel_rfl) (by kernel_rfl) (by kernel_rfl) (by kernel_rfl) (fun _ _ _ h => h) (Or.inr ⟨by rfl, rfl⟩) hS1 ?_
    simp only [Act.put, List.setIfInBounds_toArray, List.set_cons_zero, List.set_cons_succ]
    refine wpAnyD_takeS 15 30 (v := undef) rfl rfl (by kernel_rfl) (by kernel_rfl) (by kernel_rfl) (by kernel_rfl) (fun _ _ _ h => h) (Or.inr ⟨by rfl, rfl⟩) hS1 ?_
    simp only [Act.put, List.setIfInBounds_toArray, List.set_cons_zero, List.set_cons_succ]
    refine wpAnyD_takeS 16 31 (v := undef) rfl rfl (by kernel_rfl) (by kernel_rfl) (by kernel_rfl) (by kernel_rfl) (fun _ _ _ h => h) (Or.inr ⟨by rfl, rfl⟩) hS1 ?_
    simp only [Act.put, List.setIfInBounds_toArray, List.set_cons_zero, List.set_cons_succ]
    refine wpAnyD_takeS 17 32 (v := undef) rfl rfl (by kernel_rfl) (by kernel_rfl) (by kernel_rfl) (by kernel_rfl) (fun _ _ _ h => h) (Or.inr ⟨by rfl, rfl⟩) hS1 ?_
    simp only [Act.put, List.setIfInBounds_toArray, List.set_cons_zero, List.set_cons_succ]
    refine wpAnyD_takeS 18 33 (v := ?vv18) rfl rfl (by kernel_rfl) (by kernel_rfl) (by kernel_rfl) (by kernel_rfl) (fun _ _ _ h => h) (Or.inl ⟨by rfl, ?hy18⟩) hS1 ?rest18
    case hy18 => (intro w hSw; (try dsimp only at hSw); go_simp; try with_reducible rfl)
    simp only [Act.put, List.setIfInBounds_toArray, List.set_cons_zero, List.set_cons_succ]
    refine wpAnyD_done (by kernel_rfl) ?_ _
    obtain ⟨m0, m1, m2, m3, m4⟩ := hS1
    have EF : Hid _ := e1.trans (bf.mono e1.size)
    clear bf hS0
    go_wp2_with fail
    go_quiet (fail)
    go_wp2
    refine bodyPost_ret (v := .tuple #[.int .i64 0, .slice none 0 0, errV ea]) (by simp [results, Tryd.results81, go_sem]) rfl ?_
    exact ⟨below_drewN EF.out _, Or.inr ⟨HNO.out, rfl⟩⟩
  | true =>
    have hn : N ≤ 240 := by have := headOk_le hfit; omega
    have HF : Hid _ := hfit
    clear hfit
    refine wp_regionD (fun v => v.cell? ⟨w1.heap.size, 0, none⟩ = some (.int .i64 x4) ∧ v.cell? ⟨w1.heap.size, 1, none⟩ = some (.int .i64 x8) ∧ v.cell? ⟨w1.heap.size, 2, none⟩ = some (.int .i64 (N : Int)) ∧ v.cell? ⟨w1.heap.size, 3, none⟩ = some (.int .i64 x0) ∧ v.cell? ⟨1, 0, none⟩ = some (errV ea)) (fun _ => false) (by kernel_rfl) ?_
    have hS0 := KP.out W1.drew (Below.refl _ _).drew
    refine wpAnyD_takeS 0 15 (v := ?vvb0) rfl rfl (by kernel_rfl) (by kernel_rfl) (by kernel_rfl) (by kernel_rfl) (fun _ _ _ h => h) (Or.inl ⟨by rfl, ?hyb0⟩) hS0 ?restb0
    case hyb0 => (intro w hSw; (try dsimp only at hSw); go_simp; try with_reducible rfl)
    simp only [Act.put, List.setIfInBounds_toArray, List.set_cons_zero, List.set_cons_succ]
    refine wpAnyD_takeS 1 16 (v := ?vvb1) rfl rfl (by kernel_rfl) (by kernel_rfl) (by kernel_rfl) (by kernel_rfl) (fun _ _ _ h => h) (Or.inl ⟨by rfl, ?hyb1⟩) hS0 ?restb1
    case hyb1 => (intro w hSw; (try dsimp only at hSw); go_simp; try with_reducible rfl)
    simp only [Act.put, List.setIfInBounds_toArray, List.set_cons_zero, List.set_cons_succ]
    refine wpAnyD_takeS 2 17 (v := ?vvb2) rfl rfl (by kernel_rfl) (by kernel_rfl) (by kernel_rfl) (by kernel_rfl) (fun _ _ _ h => h) (Or.inl ⟨by rfl, ?hyb2⟩) hS0 ?restb2
    case hyb2 => (intro w hSw; (try dsimp only at hSw); go_simp; try with_reducible rfl)
    simp only [Act.put, List.setIfInBounds_toArray, List.set_cons_zero, List.set_cons_succ]
    refine wpAnyD_takeS 3 18 (v := ?vvb3) rfl rfl (by kernel_rfl) (by kernel_rfl) (by kernel_rfl) (by kernel_rfl) (fun _ _ _ h => h) (Or.inl ⟨by rfl, ?hyb3⟩) hS0 ?restb3
    case hyb3 => (intro w hSw; (try dsimp only at hSw); go_simp; try with_reducible rfl)
    simp only [Act.put, List.setIfInBounds_toArray, List.set_cons_zero, List.set_cons_succ]
    refine wpAnyD_takeS 4 19 (v := ?vvb4) rfl rfl (by kernel_rfl) (by kernel_rfl) (by kernel_rfl) (by kernel_rfl) (fun _ _ _ h => h) (Or.inl ⟨by rfl, ?hyb4⟩) hS0 ?restb4
    case hyb4 => (intro w hSw; (try dsimp only at hSw); go_simp; try with_reducible rfl)
    simp only [Act.put, List.setIfInBounds_toArray, List.set_cons_zero, List.set_cons_succ]
    refine wpAnyD_takeS 5 20 (v := ?vvb5) rfl rfl (by kernel_rfl) (by kernel_rfl) (by kernel_rfl) (by kernel_rfl) (fun _ _ _ h => h) (Or.inl ⟨by rfl, ?hyb5⟩) hS0 ?restb5
    case hyb5 => (intro w hSw; (try dsimp only at hSw); go_simp; try with_reducible rfl)
    simp only [Act.put, List.setIfInBounds_toArray, List.set_cons_zero, List.set_cons_succ]
    refine wpAnyD_takeS 6 21 (v := ?vvb6) rfl rfl (by kernel_rfl) (by kernel_rfl) (by kernel_rfl) (by kernel_rfl) (fun _ _ _ h => h) (Or.inl ⟨by rfl, ?hyb6⟩) hS0 ?restb6
    case hyb6 => (intro w hSw; (try dsimp only at hSw); go_simp; try with_reducible rfl)
    simp only [Act.put, List.setIfInBounds_toArray, List.set_cons_zero, List.set_cons_succ]
    refine wpAnyD_takeS 7 22 (v := ?vvb7) rfl rfl (by kernel_rfl) (by kernel_rfl) (by kernel_rfl) (by kernel_rfl) (fun _ _ _ h => h) (Or.inl ⟨by rfl, ?hyb7⟩) hS0 ?restb7
    case hyb7 => (intro w hSw; (try dsimp only at hSw); go_simp; try with_reducible rfl)
    simp only [Act.put, List.setIfInBounds_toArray, List.set_cons_zero, List.set_cons_succ]
    refine wpAnyD_one 8 (by kernel_rfl) rfl (fun KK hK => ?_)
    rw [if_pos (show Region.wanted _ _ = true from rfl)]
    go_wp2_with fail
    refine (fits_yes x4 x8 (N : Int) _ HF.out).mono ?_
    rintro e wf ⟨rfl, bf⟩
    simp only [World.size_drew] at bf
    replace bf := undrewX bf
    go_wp2_with fail
    refine hK.out _ _ (fun _ => KP.out wf bf) ?_
    clear hK KK
    have hS1 := KP.out wf bf
    have ef := e1.trans (bf.mono e1.size)
    refine wpAnyD_takeS 9 24 (v := ?vvb9) rfl rfl (by kernel_rfl) (by kernel_rfl) (by kernel_rfl) (by kernel_rfl) (fun _ _ _ h => h) (Or.inl ⟨by rfl, ?hyb9⟩) hS1 ?restb9
    case hyb9 => (intro w hSw; (try dsimp only at hSw); go_simp; try with_reducible rfl)
    simp only [Act.put, List.setIfInBounds_toArray, List.set_cons_zero, List.set_cons_succ]
    refine wpAnyD_takeS 10 25 (v := ?vvb10) rfl rfl (by kernel_rfl) (by kernel_rfl) (by kernel_rfl) (by kernel_rfl) (fun _ _ _ h => h) (Or.inl ⟨by rfl, ?hyb10⟩) hS1 ?restb10
    case hyb10 => (intro w hSw; (try dsimp only at hSw); go_simp; try with_reducible rfl)
    simp only [Act.put, List.setIfInBounds_toArray, List.set_cons_zero, List.set_cons_succ]
    refine wpAnyD_takeS 11 26 (v := ?vvb11) rfl rfl (by kernel_rfl) (by kernel_rfl) (by kernel_rfl) (by kernel_rfl) (fun _ _ _ h => h) (Or.inl ⟨by rfl, ?hyb11⟩) hS1 ?restb11
    case hyb11 => (intro w hSw; (try dsimp only at hSw); go_simp; try with_reducible rfl)
    simp only [Act.put, List.setIfInBounds_toArray, List.set_cons_zero, List.set_cons_succ]
    refine wpAnyD_takeS 12 27 (v := ?vvb12) rfl rfl (by kernel_rfl) (by kernel_rfl) (by kernel_rfl) (by kernel_rfl) (fun _ _ _ h => h) (Or.inl ⟨by rfl, ?hyb12⟩) hS1 ?restb12
    case hyb12 => (intro w hSw; (try dsimp only at hSw); go_simp; try with_reducible rfl)
    simp only [Act.put, List.setIfInBounds_toArray, List.set_cons_zero, List.set_cons_succ]
    refine wpAnyD_takeS 13 28 (v := ?vvb13) rfl rfl (by kernel_rfl) (by kernel_rfl) (by kernel_rfl) (by kernel_rfl) (fun _ _ _ h => h) (Or.inl ⟨by rfl, ?hyb13⟩) hS1 ?restb13
    case hyb13 => (intro w hSw; (try dsimp only at hSw); go_simp; try with_reducible rfl)
    simp only [Act.put, List.setIfInBounds_toArray, List.set_cons_zero, List.set_cons_succ]
    refine wpAnyD_takeS 14 29 (v := ?vvb14) rfl rfl (by kernel_rfl) (by kernel_rfl) (by kernel_rfl) (by kernel_rfl) (fun _ _ _ h => h) (Or.inl ⟨by rfl, ?hyb14⟩) hS1 ?restb14
    case hyb14 => (intro w hSw; (try dsimp only at hSw); go_simp; try with_reducible rfl)
    simp only [Act.put, List.setIfInBounds_toArray, List.set_cons_zero, List.set_cons_succ]
    refine wpAnyD_takeS 15 30 (v := ?vvb15) rfl rfl (by kernel_rfl) (by kernel_rfl) (by kernel_rfl) (by kernel_rfl) (fun _ _ _ h => h) (Or.inl ⟨by rfl, ?hyb15⟩) hS1 ?restb15
    case hyb15 => (intro w hSw; (try dsimp only at hSw); go_simp; try with_reducible rfl)
    simp only [Act.put, List.setIfInBounds_toArray, List.set_cons_zero, List.set_cons_succ]
    refine wpAnyD_one 16 (by kernel_rfl) rfl (fun KK hK => ?_)
    rw [if_pos (show Region.wanted _ _ = true from rfl)]
    go_wp2_with fail
    refine (CRC.out _ _ _ _ (PC.out.below ef) (by omega)).mono ?_
    rintro e w' ⟨rfl, rfl⟩
    go_wp2_with fail
    refine hK.out _ _ (fun _ => hS1) ?_
    clear hK KK
    refine wpAnyD_takeS 17 32 (v := ?vvb17) rfl rfl (by kernel_rfl) (by kernel_rfl) (by kernel_rfl) (by kernel_rfl) (fun _ _ _ h => h) (Or.inl ⟨by rfl, ?hyb17⟩) hS1 ?restb17
    case hyb17 => (intro w hSw; (try dsimp only at hSw); go_simp; try with_reducible rfl)
    simp only [Act.put, List.setIfInBounds_toArray, List.set_cons_zero, List.set_cons_succ]
    refine wpAnyD_takeS 18 33 (v := ?vvb18) rfl rfl (by kernel_rfl) (by kernel_rfl) (by kernel_rfl) (by kernel_rfl) (fun _ _ _ h => h) (Or.inl ⟨by rfl, ?hyb18⟩) hS1 ?restb18
    case hyb18 => (intro w hSw; (try dsimp only at hSw); go_simp; try with_reducible rfl)
    simp only [Act.put, List.setIfInBounds_toArray, List.set_cons_zero, List.set_cons_succ]
    refine wpAnyD_done (by kernel_rfl) ?_ _
    obtain ⟨wg, hwg⟩ : ∃ wg, wg = w' := ⟨_, rfl⟩
    subst hwg
    obtain ⟨m0, m1, m2, m3, m4⟩ := hS1
    by_cases hC : x0 = (cr : Int)
    case neg =>
      have hno : ¬ decP x4 l := fun hd => hC (HIM.out.1 (DI.out.1 hd)).2.2.1
      have HNO : Hid _ := hno
      have hx0 : (x0 != (cr : Int)) = true := by simp [hC]
      have EF : Hid _ := ef
      clear hno hC hS0
      go_wp2_with fail
      go_quiet (fail)
      go_wp2
      refine bodyPost_ret (v := .tuple #[.int .i64 0, .slice none 0 0, errV ea]) (by simp [results, Tryd.results81, go_sem]) rfl ?_
      exact ⟨below_drewN EF.out _, Or.inr ⟨HNO.out, rfl⟩⟩
    have hx0 : (x0 != (cr : Int)) = false := by simp [hC]
    obtain ⟨M, hM⟩ : ∃ M, M = 16 + N := ⟨_, rfl⟩
    have hM1 : IntKind.i64.wrap (16 + (N : Int)) = (M : Int) := by simp [IntKind.wrap, IntKind.bits, IntKind.signed]; omega
    have s1 : (16 : Int) ≤ (M : Int) := by omega
    have s2 : (M : Int) ≤ 256 := by omega
    have s3 : (M : Int) ≤ (cap : Int) := by omega
    have s0 : (0 : Int) ≤ (M : Int) := by omega
    have PZa : Hid (cap = M → ∀ v, Below w.heap.size w v → Bs v (some ⟨b, off, none⟩) (256 - M) 0 (l.drop (16 + N))) := fun hcm v bv => by
      have hl0 : l.drop (16 + N) = [] := by rw [List.drop_eq_nil_iff]; omega
      rw [hl0, show 256 - M = 0 by omega]
      exact ⟨rfl, Nat.le_refl _, Nat.zero_le _, fun e => (by cases e), fun h => absurd h (Nat.lt_irrefl 0), isB_nil⟩
    have PZb : Hid (∀ v, Below w.heap.size w v → Bs v (some ⟨b, off + M, none⟩) (256 - M) (cap - M) (l.drop (16 + N))) := fun v bv => by
      have hz := (PZ.out hn).below bv
      rw [← hM] at hz ⊢
      exact hz
    have HMM : Hid (M = 16 + N) := hM
    clear hS0 hM
    go_wp2_with fail
    refine wp_regionD (fun v => v.cell? ⟨w1.heap.size, 0, none⟩ = some (.int .i64 x4) ∧ v.cell? ⟨w1.heap.size, 1, none⟩ = some (.int .i64 x8) ∧ v.cell? ⟨w1.heap.size, 2, none⟩ = some (.int .i64 (N : Int)) ∧ v.cell? ⟨w1.heap.size, 3, none⟩ = some (.int .i64 x0) ∧ v.cell? ⟨1, 0, none⟩ = some (errV ea)) (fun _ => false) (by kernel_rfl) ?_
    have hS0 := KP.out wg.drew bf.drew
    refine wpAnyD_takeS 0 39 (v := ?vvc0) rfl rfl (by kernel_rfl) (by kernel_rfl) (by kernel_rfl) (by kernel_rfl) (fun _ _ _ h => h) (Or.inl ⟨by rfl, ?hyc0⟩) hS0 ?restc0
    case hyc0 => (intro w hSw; (try dsimp only at hSw); go_simp; try with_reducible rfl)
    simp only [Act.put, List.setIfInBounds_toArray, List.set_cons_zero, List.set_cons_succ]
    refine wpAnyD_takeS 1 40 (v := ?vvc1) rfl rfl (by kernel_rfl) (by kernel_rfl) (by kernel_rfl) (by kernel_rfl) (fun _ _ _ h => h) (Or.inl ⟨by rfl, ?hyc1⟩) hS0 ?restc1
    case hyc1 => (intro w hSw; (try dsimp only at hSw); go_simp; try with_reducible rfl)
    simp only [Act.put, List.setIfInBounds_toArray, List.set_cons_zero, List.set_cons_succ]
    refine wpAnyD_takeS 3 42 (v := ?vvc3) rfl rfl (by kernel_rfl) (by kernel_rfl) (by kernel_rfl) (by kernel_rfl) (fun _ _ _ h => h) (Or.inl ⟨by rfl, ?hyc3⟩) hS0 ?restc3
    case hyc3 => (intro w hSw; (try dsimp only at hSw); go_simp; try with_reducible rfl)
    simp only [Act.put, List.setIfInBounds_toArray, List.set_cons_zero, List.set_cons_succ]
    refine wpAnyD_takeS 4 43 (v := ?vvc4) rfl rfl (by kernel_rfl) (by kernel_rfl) (by kernel_rfl) (by kernel_rfl) (fun _ _ _ h => h) (Or.inl ⟨by rfl, ?hyc4⟩) hS0 ?restc4
    case hyc4 => (intro w hSw; (try dsimp only at hSw); go_simp; try with_reducible rfl)
    simp only [Act.put, List.setIfInBounds_toArray, List.set_cons_zero, List.set_cons_succ]
    refine wpAnyD_one 2 (by kernel_rfl) rfl (fun KK hK => ?_)
    rw [if_pos (show Region.wanted _ _ = true from rfl)]
    go_wp2_with fail
    refine (bytes_calls x4 x8 (N : Int) _ HF.out (by omega)).mono ?_
    rintro e wb ⟨a3, c3, rfl, b3, o3⟩
    simp only [World.size_drew] at b3 o3
    replace b3 := undrewX b3
    go_wp2_with fail
    refine hK.out _ _ (fun _ => KP.out wb (bf.trans (b3.mono bf.size))) ?_
    clear hK KK
    have bfb := bf.trans (b3.mono bf.size)
    have hS2 := KP.out wb bfb
    have eb := e1.trans (bfb.mono e1.size)
    refine wpAnyD_one 5 (by kernel_rfl) rfl (fun KK hK => ?_)
    rw [if_pos (show Region.wanted _ _ = true from rfl)]
    go_wp2_with fail
    refine (bEqual_calls _ _ _ _ _ _ (head x4 x8 (N : Int)) (cutL l 4 12) _ (o3.bs (head_isB HF.out)) (P12.out.below eb) (by omega) (by omega)).mono ?_
    rintro e w'' ⟨rfl, rfl⟩
    go_wp2_with fail
    refine hK.out _ _ (fun _ => hS2) ?_
    clear hK KK
    by_cases hE : head x4 x8 (N : Int) = cutL l 4 12
    case neg =>
      rw [decide_eq_false hE]
      have hno : ¬ decP x4 l := fun hd => hE (HIM.out.1 (DI.out.1 hd)).2.2.2.1
      have HNO : Hid _ := hno
      have EF : Hid _ := eb
      clear hno hE
      refine wpAnyD_takeS 6 45 (v := ?vvd6) rfl rfl (by kernel_rfl) (by kernel_rfl) (by kernel_rfl) (by kernel_rfl) (fun _ _ _ h => h) (Or.inl ⟨by rfl, ?hyd6⟩) hS2 ?restd6
      case hyd6 => (intro w hSw; (try dsimp only at hSw); go_simp; try with_reducible rfl)
      simp only [Act.put, List.setIfInBounds_toArray, List.set_cons_zero, List.set_cons_succ]
      refine wpAnyD_takeS 7 46 (v := ?vvd7) rfl rfl (by kernel_rfl) (by kernel_rfl) (by kernel_rfl) (by kernel_rfl) (fun _ _ _ h => h) (Or.inl ⟨by rfl, ?hyd7⟩) hS2 ?restd7
      case hyd7 => (intro w hSw; (try dsimp only at hSw); go_simp; try with_reducible rfl)
      simp only [Act.put, List.setIfInBounds_toArray, List.set_cons_zero, List.set_cons_succ]
      refine wpAnyD_takeS 8 47 (v := undef) rfl rfl (by kernel_rfl) (by kernel_rfl) (by kernel_rfl) (by kernel_rfl) (fun _ _ _ h => h) (Or.inr ⟨by rfl, rfl⟩) hS2 ?_
      simp only [Act.put, List.setIfInBounds_toArray, List.set_cons_zero, List.set_cons_succ]
      refine wpAnyD_takeS 9 48 (v := undef) rfl rfl (by kernel_rfl) (by kernel_rfl) (by kernel_rfl) (by kernel_rfl) (fun _ _ _ h => h) (Or.inr ⟨by rfl, rfl⟩) hS2 ?_
      simp only [Act.put, List.setIfInBounds_toArray, List.set_cons_zero, List.set_cons_succ]
      refine wpAnyD_takeS 10 49 (v := undef) rfl rfl (by kernel_rfl) (by kernel_rfl) (by kernel_rfl) (by kernel_rfl) (fun _ _ _ h => h) (Or.inr ⟨by rfl, rfl⟩) hS2 ?_
      simp only [Act.put, List.setIfInBounds_toArray, List.set_cons_zero, List.set_cons_succ]
      refine wpAnyD_takeS 11 50 (v := undef) rfl rfl (by kernel_rfl) (by kernel_rfl) (by kernel_rfl) (by kernel_rfl) (fun _ _ _ h => h) (Or.inr ⟨by rfl, rfl⟩) hS2 ?_
      simp only [Act.put, List.setIfInBounds_toArray, List.set_cons_zero, List.set_cons_succ]
      refine wpAnyD_takeS 12 51 (v := undef) rfl rfl (by kernel_rfl) (by kernel_rfl) (by kernel_rfl) (by kernel_rfl) (fun _ _ _ h => h) (Or.inr ⟨by rfl, rfl⟩) hS2 ?_
      simp only [Act.put, List.setIfInBounds_toArray, List.set_cons_zero, List.set_cons_succ]
      refine wpAnyD_takeS 13 52 (v := ?vvd13) rfl rfl (by kernel_rfl) (by kernel_rfl) (by kernel_rfl) (by kernel_rfl) (fun _ _ _ h => h) (Or.inl ⟨by rfl, ?hyd13⟩) hS2 ?restd13
      case hyd13 => (intro w hSw; (try dsimp only at hSw); go_simp; try with_reducible rfl)
      simp only [Act.put, List.setIfInBounds_toArray, List.set_cons_zero, List.set_cons_succ]
      refine wpAnyD_done (by kernel_rfl) ?_ _
      obtain ⟨m0, m1, m2, m3, m4⟩ := hS2
      clear b3 o3 bfb hS0
      go_wp2_with fail
      go_quiet (fail)
      go_wp2
      refine bodyPost_ret (v := .tuple #[.int .i64 0, .slice none 0 0, errV ea]) (by simp [results, Tryd.results81, go_sem]) rfl ?_
      exact ⟨below_drewN EF.out _, Or.inr ⟨HNO.out, rfl⟩⟩
    rw [decide_eq_true hE]
    refine wpAnyD_takeS 6 45 (v := ?vve6) rfl rfl (by kernel_rfl) (by kernel_rfl) (by kernel_rfl) (by kernel_rfl) (fun _ _ _ h => h) (Or.inl ⟨by rfl, ?hye6⟩) hS2 ?reste6
    case hye6 => (intro w hSw; (try dsimp only at hSw); go_simp; try with_reducible rfl)
    simp only [Act.put, List.setIfInBounds_toArray, List.set_cons_zero, List.set_cons_succ]
    refine wpAnyD_takeS 7 46 (v := ?vve7) rfl rfl (by kernel_rfl) (by kernel_rfl) (by kernel_rfl) (by kernel_rfl) (fun _ _ _ h => h) (Or.inl ⟨by rfl, ?hye7⟩) hS2 ?reste7
    case hye7 => (intro w hSw; (try dsimp only at hSw); go_simp; try with_reducible rfl)
    simp only [Act.put, List.setIfInBounds_toArray, List.set_cons_zero, List.set_cons_succ]
    refine wpAnyD_takeS 8 47 (v := ?vve8) rfl rfl (by kernel_rfl) (by kernel_rfl) (by kernel_rfl) (by kernel_rfl) (fun _ _ _ h => h) (Or.inl ⟨by rfl, ?hye8⟩) hS2 ?reste8
    case hye8 => (intro w hSw; (try dsimp only at hSw); go_simp; try with_reducible rfl)
    simp only [Act.put, List.setIfInBounds_toArray, List.set_cons_zero, List.set_cons_succ]
    refine wpAnyD_takeS 9 48 (v := ?vve9) rfl rfl (by kernel_rfl) (by kernel_rfl) (by kernel_rfl) (by kernel_rfl) (fun _ _ _ h => h) (Or.inl ⟨by rfl, ?hye9⟩) hS2 ?reste9
    case hye9 => (intro w hSw; (try dsimp only at hSw); go_simp; try with_reducible rfl)
    simp only [Act.put, List.setIfInBounds_toArray, List.set_cons_zero, List.set_cons_succ]
    refine wpAnyD_takeS 10 49 (v := ?vve10) rfl rfl (by kernel_rfl) (by kernel_rfl) (by kernel_rfl) (by kernel_rfl) (fun _ _ _ h => h) (Or.inl ⟨by rfl, ?hye10⟩) hS2 ?reste10
    case hye10 => (intro w hSw; (try dsimp only at hSw); go_simp; try with_reducible rfl)
    simp only [Act.put, List.setIfInBounds_toArray, List.set_cons_zero, List.set_cons_succ]
    refine wpAnyD_one 11 (by kernel_rfl) rfl (fun KK hK => ?_)
    rw [if_pos (show Region.wanted _ _ = true from rfl)]
    go_wp2_with fail
    · first
      | (have hcm : cap = M := by assumption
         refine (allZero_calls (some ⟨b, off, none⟩) (256 - M) 0 (l.drop (16 + N)) _ (PZa.out hcm _ eb)).mono ?_)
      | (have hcm : ¬ cap = M := by assumption
         refine (allZero_calls (some ⟨b, off + M, none⟩) (256 - M) (cap - M) (l.drop (16 + N)) _ (PZb.out _ eb)).mono ?_)
      rintro e w3' ⟨rfl, rfl⟩
      go_wp2_with fail
      refine hK.out _ _ (fun _ => hS2) ?_
      clear hK KK
      cases hZ : zeroB (l.drop (16 + N)) with
      | false =>
        have hno : ¬ decP x4 l := fun hd => by have := (HIM.out.1 (DI.out.1 hd)).2.2.2.2; rw [hZ] at this; cases this
        have HNO : Hid _ := hno
        have EF : Hid _ := eb
        clear hno hZ
        refine wpAnyD_takeS 12 51 (v := ?vvpf12) rfl rfl (by kernel_rfl) (by kernel_rfl) (by kernel_rfl) (by kernel_rfl) (fun _ _ _ h => h) (Or.inl ⟨by rfl, ?hypf12⟩) hS2 ?restpf12
        case hypf12 => (intro w hSw; (try dsimp only at hSw); go_simp; try with_reducible rfl)
        simp only [Act.put, List.setIfInBounds_toArray, List.set_cons_zero, List.set_cons_succ]
        refine wpAnyD_takeS 13 52 (v := ?vvpf13) rfl rfl (by kernel_rfl) (by kernel_rfl) (by kernel_rfl) (by kernel_rfl) (fun _ _ _ h => h) (Or.inl ⟨by rfl, ?hypf13⟩) hS2 ?restpf13
        case hypf13 => (intro w hSw; (try dsimp only at hSw); go_simp; try with_reducible rfl)
        simp only [Act.put, List.setIfInBounds_toArray, List.set_cons_zero, List.set_cons_succ]
        refine wpAnyD_done (by kernel_rfl) ?_ _
        obtain ⟨m0, m1, m2, m3, m4⟩ := hS2
        clear b3 o3 bfb hS0
        go_wp2_with fail
        go_quiet (fail)
        go_wp2
        refine bodyPost_ret (v := .tuple #[.int .i64 0, .slice none 0 0, errV ea]) (by simp [results, Tryd.results81, go_sem]) rfl ?_
        exact ⟨below_drewN EF.out _, Or.inr ⟨HNO.out, rfl⟩⟩
      | true =>
        have hyes : decP x4 l := DI.out.2 (HIM.out.2 (by refine ⟨?_, HF.out, hC, hE, hZ⟩; trivial))
        have HY : Hid _ := hyes
        clear hyes hZ
        refine wpAnyD_takeS 12 51 (v := ?vvpg12) rfl rfl (by kernel_rfl) (by kernel_rfl) (by kernel_rfl) (by kernel_rfl) (fun _ _ _ h => h) (Or.inl ⟨by rfl, ?hypg12⟩) hS2 ?restpg12
        case hypg12 => (intro w hSw; (try dsimp only at hSw); go_simp; try with_reducible rfl)
        simp only [Act.put, List.setIfInBounds_toArray, List.set_cons_zero, List.set_cons_succ]
        refine wpAnyD_takeS 13 52 (v := ?vvpg13) rfl rfl (by kernel_rfl) (by kernel_rfl) (by kernel_rfl) (by kernel_rfl) (fun _ _ _ h => h) (Or.inl ⟨by rfl, ?hypg13⟩) hS2 ?restpg13
        case hypg13 => (intro w hSw; (try dsimp only at hSw); go_simp; try with_reducible rfl)
        simp only [Act.put, List.setIfInBounds_toArray, List.set_cons_zero, List.set_cons_succ]
        refine wpAnyD_done (by kernel_rfl) ?_ _
        obtain ⟨m0, m1, m2, m3, m4⟩ := hS2
        have HL : Hid ((bodyL l).length = N) := (PB.out hn).len_eq
        clear b3 o3 hS0
        go_wp2_with fail
        go_region_with (first | (go_at_call 73; (try rw [show M - 16 = N from by have h9 := HMM.out; omega]); refine (clone_calls _ _ _ (bodyL l) _ ?_ ?_).mono ?_; (first | exact (PB.out hn).below eb.drew | (have pb := (PB.out hn).below eb.drew; rw [show cap - 16 = N from by have h9 := HMM.out; omega] at pb; exact pb)); omega; rintro e w5 ⟨a5, c5, rfl, b5, o5⟩; simp only [World.size_drew] at b5 o5; replace b5 := undrewX b5; have e5 := eb.trans (b5.mono eb.size); obtain ⟨n0, n1, n2, n3, n4⟩ := KP.out w5 (bfb.trans (b5.mono bfb.size))))
        all_goals
          have E5 : Hid _ := e5
          have O5 : Hid (Own w3'.heap.size w5 a5 N c5 (bodyL l)) := o5
          have Z4 : Hid (w.heap.size ≤ w3'.heap.size) := eb.size
          clear e5 o5 b5
          go_wp2
          refine bodyPost_ret (v := .tuple #[.int .i64 x8, .slice a5 N c5, .nilIface]) (by simp [results, Tryd.results81, go_sem]) rfl ?_
          refine ⟨E5.out, Or.inl ⟨HY.out, a5, c5, ?_, ?_⟩⟩
          · rw [HL.out]
          · rw [HL.out]; exact O5.out.mono Z4.out
    · first
      | (have hcm : cap = M := by assumption
         refine (allZero_calls (some ⟨b, off, none⟩) (256 - M) 0 (l.drop (16 + N)) _ (PZa.out hcm _ eb)).mono ?_)
      | (have hcm : ¬ cap = M := by assumption
         refine (allZero_calls (some ⟨b, off + M, none⟩) (256 - M) (cap - M) (l.drop (16 + N)) _ (PZb.out _ eb)).mono ?_)
      rintro e w3' ⟨rfl, rfl⟩
      go_wp2_with fail
      refine hK.out _ _ (fun _ => hS2) ?_
      clear hK KK
      cases hZ : zeroB (l.drop (16 + N)) with
      | false =>
        have hno : ¬ decP x4 l := fun hd => by have := (HIM.out.1 (DI.out.1 hd)).2.2.2.2; rw [hZ] at this; cases this
        have HNO : Hid _ := hno
        have EF : Hid _ := eb
        clear hno hZ
        refine wpAnyD_takeS 12 51 (v := ?vvqf12) rfl rfl (by kernel_rfl) (by kernel_rfl) (by kernel_rfl) (by kernel_rfl) (fun _ _ _ h => h) (Or.inl ⟨by rfl, ?hyqf12⟩) hS2 ?restqf12
        case hyqf12 => (intro w hSw; (try dsimp only at hSw); go_simp; try with_reducible rfl)
        simp only [Act.put, List.setIfInBounds_toArray, List.set_cons_zero, List.set_cons_succ]
        refine wpAnyD_takeS 13 52 (v := ?vvqf13) rfl rfl (by kernel_rfl) (by kernel_rfl) (by kernel_rfl) (by kernel_rfl) (fun _ _ _ h => h) (Or.inl ⟨by rfl, ?hyqf13⟩) hS2 ?restqf13
        case hyqf13 => (intro w hSw; (try dsimp only at hSw); go_simp; try with_reducible rfl)
        simp only [Act.put, List.setIfInBounds_toArray, List.set_cons_zero, List.set_cons_succ]
        refine wpAnyD_done (by kernel_rfl) ?_ _
        obtain ⟨m0, m1, m2, m3, m4⟩ := hS2
        clear b3 o3 bfb hS0
        go_wp2_with fail
        go_quiet (fail)
        go_wp2
        refine bodyPost_ret (v := .tuple #[.int .i64 0, .slice none 0 0, errV ea]) (by simp [results, Tryd.results81, go_sem]) rfl ?_
        exact ⟨below_drewN EF.out _, Or.inr ⟨HNO.out, rfl⟩⟩
      | true =>
        have hyes : decP x4 l := DI.out.2 (HIM.out.2 (by refine ⟨?_, HF.out, hC, hE, hZ⟩; trivial))
        have HY : Hid _ := hyes
        clear hyes hZ
        refine wpAnyD_takeS 12 51 (v := ?vvqg12) rfl rfl (by kernel_rfl) (by kernel_rfl) (by kernel_rfl) (by kernel_rfl) (fun _ _ _ h => h) (Or.inl ⟨by rfl, ?hyqg12⟩) hS2 ?restqg12
        case hyqg12 => (intro w hSw; (try dsimp only at hSw); go_simp; try with_reducible rfl)
        simp only [Act.put, List.setIfInBounds_toArray, List.set_cons_zero, List.set_cons_succ]
        refine wpAnyD_takeS 13 52 (v := ?vvqg13) rfl rfl (by kernel_rfl) (by kernel_rfl) (by kernel_rfl) (by kernel_rfl) (fun _ _ _ h => h) (Or.inl ⟨by rfl, ?hyqg13⟩) hS2 ?restqg13
        case hyqg13 => (intro w hSw; (try dsimp only at hSw); go_simp; try with_reducible rfl)
        simp only [Act.put, List.setIfInBounds_toArray, List.set_cons_zero, List.set_cons_succ]
        refine wpAnyD_done (by kernel_rfl) ?_ _
        obtain ⟨m0, m1, m2, m3, m4⟩ := hS2
        have HL : Hid ((bodyL l).length = N) := (PB.out hn).len_eq
        clear b3 o3 hS0
        go_wp2_with fail
        go_region_with (first | (go_at_call 73; (try rw [show M - 16 = N from by have h9 := HMM.out; omega]); refine (clone_calls _ _ _ (bodyL l) _ ?_ ?_).mono ?_; (first | exact (PB.out hn).below eb.drew | (have pb := (PB.out hn).below eb.drew; rw [show cap - 16 = N from by have h9 := HMM.out; omega] at pb; exact pb)); omega; rintro e w5 ⟨a5, c5, rfl, b5, o5⟩; simp only [World.size_drew] at b5 o5; replace b5 := undrewX b5; have e5 := eb.trans (b5.mono eb.size); obtain ⟨n0, n1, n2, n3, n4⟩ := KP.out w5 (bfb.trans (b5.mono bfb.size))))
        all_goals
          have E5 : Hid _ := e5
          have O5 : Hid (Own w3'.heap.size w5 a5 N c5 (bodyL l)) := o5
          have Z4 : Hid (w.heap.size ≤ w3'.heap.size) := eb.size
          clear e5 o5 b5
          go_wp2
          refine bodyPost_ret (v := .tuple #[.int .i64 x8, .slice a5 N c5, .nilIface]) (by simp [results, Tryd.results81, go_sem]) rfl ?_
          refine ⟨E5.out, Or.inl ⟨HY.out, a5, c5, ?_, ?_⟩⟩
          · rw [HL.out]
          · rw [HL.out]; exact O5.out.mono Z4.out
end Go.Proofs.YtjjfgoeibcmfkaaDoor

