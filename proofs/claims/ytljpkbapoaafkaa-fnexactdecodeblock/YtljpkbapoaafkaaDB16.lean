import Derived.Test.YtljpkbapoaafkaaDB0
import Derived.Test.YtljpkbapoaafkaaDB15
import Derived.Test.YtljpkbapoaafkaaDB3
import Derived.Lib.AppendZeros
/- Steps of drawn regions: an append of bytes; two that may come up. -/
namespace Go.Proofs.Ytljpkbapoaafkaa
open Go.RowKit
set_option linter.unusedVariables false

/-- Two may come up. -/
theorem wpAnyD_two {P : Program} {ops : Array Oper} {Q : Exit → Act → World → Prop} {md : Region.Mode} {S : World → Prop} {D : Nat → Bool} (i j : Nat) {oi oj : Oper} {fuel : Nat} {listed : Array Bool} {a : Act} {w : World} (hr : Region.ready md ops listed = [i, j]) (hi : ops[i]? = some oi) (hj : ops[j]? = some oj)
    (h1 : ∀ K' : Act → World → Prop, Shut (∀ a w, (D i = false → S w) → wpAnyD P md ops Q S D fuel (listed.setIfInBounds i true) a w → K' a w) → if Region.wanted oi (yielded ops a.tmps) = true then Oper.wp P oi a w K' Q else K' (a.put oi.dst undef) w)
    (h2 : ∀ K' : Act → World → Prop, Shut (∀ a w, (D j = false → S w) → wpAnyD P md ops Q S D fuel (listed.setIfInBounds j true) a w → K' a w) → if Region.wanted oj (yielded ops a.tmps) = true then Oper.wp P oj a w K' Q else K' (a.put oj.dst undef) w) : wpAnyD P md ops Q S D (fuel + 1) listed a w :=
  ⟨fun h0 => (by rw [hr] at h0; cases h0), fun x hx => by
    rw [hr] at hx
    have hx2 : x = i ∨ x = j := by simpa using hx
    rcases hx2 with rfl | rfl
    · exact wpOp_step hi (fun K' hK => h1 K' (fun a w hS hW => hK a w ⟨hS, hW⟩))
    · exact wpOp_step hj (fun K' hK => h2 K' (fun a w hS hW => hK a w ⟨hS, hW⟩))⟩

theorem step_appG {w : World} {ops : Array Oper} {o : Oper} {act : Act} {K : Act → World → Prop} {Q : Exit → Act → World → Prop} {E : Prop} (hgd : o.guard = none) (s x : Operand)
    (ho : o.op = .call { callee := .builtin .append, args := #[s, x], argTypes := #[29, 29] })
    (B : Nat) (a : Option Addr) (n c : Nat) (xs : List Int) (hs : act.eval s = .slice a n c) (hown : Own B w a n c xs)
    (g m d : Nat) (l : List Int) (hx : act.eval x = .slice (some ⟨g, 0, none⟩) m d) (hl : Bs w (some ⟨g, 0, none⟩) m d l) (hlen : n + m ≤ 140737488355328) (hB : B ≤ w.heap.size)
    (h : ∀ a' c' w', Own B w' a' (n + m) c' (xs ++ l) → Below B w w' → w.grownBy w' (Value.slice a n c).ownBlock → K (act.put o.dst (.slice a' (n + m) c')) w') :
    if Region.wanted o (yielded ops act.tmps) = true then Oper.wp Try.prog o act w K Q else E := by
  have hw : Region.wanted o (yielded ops act.tmps) = true := by simp [Region.wanted, hgd]
  rw [if_pos hw]
  obtain ⟨i, hi, hz0, hz1, hz2⟩ := info_parts info5
  refine wp_append_own w s x _ ho B 5 i _ 1 1 Try.underlying29 hi hz0 hz1 hz2 rfl (by omega) _ n (ob xs) hs hown ⟨g, 0, none⟩ m d (ob l) hx (by simp [ob, hl.len_eq]) ?_ (ob_oneCell l) (by unfold maxLen; omega) (by omega) hB ?_
  · intro j u hj
    have hjl : j < l.length := by have := (List.getElem?_eq_some_iff.1 hj).1; simpa [ob] using this
    obtain ⟨b1, off, e, _, hc⟩ := hl.at_ (by have := hl.len_eq; omega)
    cases e
    rw [ob_getElem? l j hjl] at hj
    rw [Addr.add_lit, hc j (by have := hl.len_eq; omega)]
    exact hj
  · intro v' w' ho' hg' _
    have e : ob xs ++ ob l = ob (xs ++ l) := by simp [ob]
    rw [e] at ho'
    have hv : ∃ a' c', v' = .slice a' (n + m) c' := by
      rcases ho'.2 with ⟨rfl, h0⟩ | ⟨g, cap, cur, rfl, _⟩
      · exact ⟨none, 0, by rw [h0]⟩
      · exact ⟨_, _, rfl⟩
    obtain ⟨a', c', rfl⟩ := hv
    exact h a' c' w' ho' ((Below.refl _ _).grown hg' hB (fun k hk => (World.ownsRow.lt hown k hk).1)) hg'

theorem undrewG {B : Nat} {w w' : World} (h : Below B w.drew w') : Below B w w' := ⟨h.os, h.tape, h.output, h.size, h.block⟩
end Go.Proofs.Ytljpkbapoaafkaa

namespace Go.Proofs.Ytljpkbapoaafkaa
open Go.RowKit

set_option maxRecDepth 100000 in
set_option maxHeartbeats 400000 in
theorem grow_calls (n : Nat) (w : World) (hn : n ≤ 1048576) :
    Calls Try.prog 75 #[.slice none 0 0, .int .i64 n] w fun e w' => ∃ a c, e = .returned (.slice a 0 c) ∧ Below w.heap.size w w' ∧ Own w.heap.size w' a 0 c [] := by
  by_cases h0 : 0 < n
  · obtain ⟨i, hi, hz0, hz1, hz2⟩ := info_parts info5
    have hr := fun ty wx => Lib.run_append_nil_zeros (P := Try.prog) wx 29 3 ty 5 i _ .i64 .i64 Try.underlying29 Try.underlying3 hi hz0 n h0 (by omega) (by omega) (by rw [hz2]; omega)
    have hi0 : (0 : Int) < (n : Int) := by omega
    go_enter Try.func75, Try.ntmps75
    go_wp2_with (at_builtin; refine Lib.wpList_append_run _ rfl _ _ _ _ rfl _ _ rfl rfl _ _ (hr _ _) ?_)
    go_ret
    have hge := grownCap_ge w n 0 5
    have hcm := grownCap_le_maxLen w n 0 5 (by unfold maxLen; omega)
    refine ⟨_, _, rfl, ((Below.refl _ _).alloc (Nat.le_refl _) _).drew, ?_⟩
    refine World.ownsRow_made (size := 1) w _ _ (Nat.le_refl _) hcm ?_
    simp [size_zeroCells]
    omega
  · have e : n = 0 := by omega
    subst e
    go_enter Try.func75, Try.ntmps75
    go_wp2
    go_ret
    exact ⟨none, 0, rfl, Below.refl _ _, own_nil _ _⟩

/-- One behind the other. -/
def catTo (L : Nat → List Int) : Nat → List Int
  | 0 => []
  | k + 1 => catTo L k ++ L k
theorem catTo_mono (L : Nat → List Int) {j k : Nat} (h : j ≤ k) : (catTo L j).length ≤ (catTo L k).length := by
  induction k with
  | zero => have : j = 0 := by omega
            subst this; exact Nat.le_refl _
  | succ k ih =>
    by_cases e : j = k + 1
    · subst e; exact Nat.le_refl _
    · have := ih (by omega)
      simp [catTo]; omega

set_option maxRecDepth 100000 in
set_option maxHeartbeats 1000000 in
theorem concat_calls (b off n cap : Nat) (A : Nat → Option Addr) (N C : Nat → Nat) (L : Nat → List Int) (w : World) (hb : b < w.heap.size) (hn : n ≤ 1048576)
    (hc : ∀ i, i < n → w.cell? ⟨b, off + i, none⟩ = some (.slice (A i) (N i) (C i))) (hs : ∀ i, i < n → Bs w (A i) (N i) (C i) (L i)) (ht : (catTo L n).length ≤ 1048576) :
    Calls Try.prog 72 #[.slice (some ⟨b, off, none⟩) n cap] w fun e w' => ∃ a c, e = .returned (.slice a (catTo L n).length c) ∧ Below w.heap.size w w' ∧ Own w.heap.size w' a (catTo L n).length c (catTo L n) := by
  go_enter Try.func72, Try.ntmps72
  go_wp2
  go_loop [3, 11] (fun x i => ∃ k : Nat, k ≤ n ∧ i = .int .i64 k ∧ x = .int .i64 ((catTo L k).length : Nat)) (fun _ i => n - (intOf i).toNat)
  case atStart => exact ⟨0, Nat.zero_le _, rfl, rfl⟩
  case round =>
    obtain ⟨k, hk, rfl, rfl⟩ := hrel
    have hm := catTo_mono L hk
    by_cases hlt : k < n
    · have hck := hc k hlt
      have hsk := hs k hlt
      have HL : Hid ((catTo L (k + 1)).length = (catTo L k).length + N k) := by
        show (catTo L k ++ L k).length = _
        rw [List.length_append, hsk.len_eq]
      have hm1 := catTo_mono L (show k + 1 ≤ n from hlt)
      rw [HL.out] at hm1
      generalize (catTo L k).length = X at *
      generalize N k = Y at *
      have hneg : ¬ ((X : Int) + (Y : Int) < 0) := by omega
      clear hc hs hsk
      go_wp2
      go_round
      case rel => exact ⟨k + 1, by omega, by go_num, by rw [HL.out]; go_num⟩
      case measure => simp [intOf]; omega
    · have e : k = n := by omega
      subst e
      go_wp2_with fail
      refine (grow_calls (catTo L k).length _ ht).mono ?_
      rintro e w1 ⟨a1, c1, rfl, hb1, ho1⟩
      go_wp2_with fail
      go_loopw [6, 27] (fun o i wr => ∃ j a c, j ≤ k ∧ i = .int .i64 (j : Nat) ∧ o = .slice a (catTo L j).length c ∧ Below w.heap.size w wr ∧ Own w.heap.size wr a (catTo L j).length c (catTo L j)) (fun _ i _ => k - (intOf i).toNat)
      case atStart => exact ⟨0, a1, c1, Nat.zero_le _, rfl, rfl, hb1, ho1⟩
      case round =>
        obtain ⟨j, a, c, hj, rfl, rfl, hbj, hoj⟩ := hrel
        by_cases hlt : j < k
        · have hck : wr.cell? ⟨b, off + j, none⟩ = some (.slice (A j) (N j) (C j)) := by rw [hbj.cell (p := ⟨b, off + j, none⟩) hb]; exact hc j hlt
          have hsj := (hs j hlt).below hbj
          have hm1 := catTo_mono L (show j + 1 ≤ k from hlt)
          have HL : Hid ((catTo L (j + 1)).length = (catTo L j).length + N j) := by
            show (catTo L j ++ L j).length = _
            rw [List.length_append, hsj.len_eq]
          rw [HL.out] at hm1
          have HC : Hid (catTo L (j + 1) = catTo L j ++ L j) := rfl
          have hz := hbj.size
          clear hc hs ho1 hb1
          go_wp2_with (at_builtin; refine wpList_app rfl _ _ rfl w.heap.size a _ c (catTo L j) rfl ?own (A j) (N j) (C j) (L j) rfl ?bs ?len ?B ?_)
          case own => exact hoj
          case bs => exact hsj
          case len => omega
          case B => exact hz
          intro a' c' w' ho' hb' _
          have hb2 : Below w.heap.size w w' := hbj.trans hb'
          rw [← HL.out, ← HC.out] at ho'
          rw [← HL.out]
          clear hoj hbj hb' hsj hck
          go_wp2
          go_roundw
          case rel => exact ⟨j + 1, a', c', by omega, by go_num, rfl, hb2, ho'⟩
          case measure => simp [intOf]; omega
        · have e : j = k := by omega
          subst e
          go_wp2
          go_ret
          exact ⟨a, c, rfl, hbj, hoj⟩
end Go.Proofs.Ytljpkbapoaafkaa

