import Derived.Test.YtjjfgoeibcmfkaaDoorFS22
import Derived.Test.YtjjfgoeibcmfkaaDoorFS20
import Derived.Laws.BitsAllLaws
import Derived.Test.YtjjfgoeibcmfkaaDoorFS12
import Derived.Test.YtjjfgoeibcmfkaaDoorFS0
/- The draws of pages. -/
namespace Go.Proofs.YtjjfgoeibcmfkaaDoor
open Go.RowKit
set_option linter.unusedVariables false

theorem OnlyB.thenBelow {g B : Nat} {a b c : World} (h : OnlyB g a b) (hb : Below B b c) (hB : a.heap.size ≤ B) : OnlyB g a c :=
  ⟨hb.os.trans h.os, hb.tape.trans h.tape, hb.output.trans h.output, Nat.le_trans h.size hb.size, fun k hk hn => (hb.block k (Nat.lt_of_lt_of_le hk hB)).trans (h.block k hk hn)⟩
theorem own_ne {B g : Nat} {w : World} {a : Option Addr} {n c : Nat} {l : List Int} (h : Own B w a n c l) (hg : g < B) : (Value.slice a n c).ownBlock ≠ some g := fun e => by
  have := (World.ownsRow.lt h g e).1
  omega

theorem own_pos2 {B : Nat} {w : World} {a : Option Addr} {n c : Nat} {l : List Int} (h : Own B w a n c l) (hp : 0 < n) : ∃ g, a = some ⟨g, 0, none⟩ ∧ B ≤ g := by
  rcases h.2 with ⟨e, h0⟩ | ⟨g, cap, cur, e, hg, _⟩
  · omega
  · cases e
    exact ⟨g, rfl, hg⟩
theorem isB_set {l : List Int} (h : IsB l) (i : Nat) {u : Int} (h0 : 0 ≤ u) (h1 : u < 256) : IsB (l.set i u) := fun j => by
  rw [List.getD_eq_getElem?_getD, List.getElem?_set]
  split
  · split
    · exact ⟨h0, h1⟩
    · exact ⟨by simp, by simp⟩
  · have := h j
    rwa [List.getD_eq_getElem?_getD] at this
theorem own_set {B g : Nat} {w : World} {n c : Nat} {l : List Int} (h : Own B w (some ⟨g, 0, none⟩) n c l) (i : Nat) (u : Int) : Own B (w.setCell ⟨g, i, none⟩ (.int .u8 u)) (some ⟨g, 0, none⟩) n c (l.set i u) := by
  have h1 := (World.ownsRow.stored h i (.int .u8 u)).1
  rw [ob_set] at h1
  exact h1
theorem xor8 {x y : Int} (h0 : 0 ≤ x) (h1 : x < 256) (h2 : 0 ≤ y) (h3 : y < 256) : 0 ≤ bits .xor .u8 x y ∧ bits .xor .u8 x y < 256 := by
  rw [u8_xor x y h0 h1 h2 h3]
  have : x.toNat ^^^ y.toNat < 2 ^ 8 := Nat.xor_lt_two_pow (by omega) (by omega)
  omega
theorem encL_le2 (id kind : Int) (l : List Int) : (encL id kind l).length ≤ 256 := by
  unfold encL
  split
  · rename_i h
    have := headOk_le h
    rw [page_len (by omega)]
    exact Nat.le_refl _
  · simp


set_option maxRecDepth 100000 in
set_option maxHeartbeats 2000000 in
theorem l2Body_calls (g : Nat) (a : Option Addr) (n c : Nat) (l : List Int) (p : Nat) (w : World) (h : IsRd w g a n c l p) :
    Calls Tryd.prog 67 #[.pointer (some ⟨g, 0, none⟩)] w fun e w' => ∃ a' n' c' l' p', e = .returned (.slice a' n' c') ∧ OnlyB g w w' ∧ IsRd w' g a n c l p' ∧ Own w.heap.size w' a' n' c' l' ∧ IsB l' ∧ n' ≤ 241 := by
  have hB := h.bs.byte p
  have hg := h.lt
  go_enter Tryd.func67, Tryd.ntmps67
  go_wp2_with fail
  refine (next_calls g a n c l p w h).mono ?_
  rintro e w1 ⟨rfl, o1, r1⟩
  generalize l.getD p 0 = k at *
  obtain ⟨k0, k1⟩ := hB
  have hm9 : k.tmod 9 = k % 9 := Int.tmod_eq_emod_of_nonneg k0
  have hm3 : k.tmod 3 = k % 3 := Int.tmod_eq_emod_of_nonneg k0
  obtain ⟨m, hm⟩ : ∃ m : Nat, k % 9 = (m : Int) := ⟨(k % 9).toNat, by omega⟩
  have hm' : m ≤ 8 := by omega
  have q1 := (Below.refl w1.heap.size w1).alloc (Nat.le_refl _) (.cells #[] 5)
  have o2 := o1.thenBelow q1 o1.size
  have r2 := r1.below q1
  have s2 := own_lit w1 [] 0 rfl (by omega) w.heap.size o1.size
  rw [hm] at hm9
  have H : Hid (IsRd w g a n c l p) := h
  clear q1 o1 r1 h
  go_wp2_with fail
  go_loopw [4, 5] (fun o i wr => ∃ (j : Nat) (a' : Option Addr) (c' : Nat) (ll : List Int) (p' : Nat), j ≤ m ∧ i = .int .i64 (j : Nat) ∧ o = .slice a' j c' ∧ OnlyB g w wr ∧ IsRd wr g a n c l p' ∧ Own w.heap.size wr a' j c' ll ∧ IsB ll) (fun _ i _ => m - (intOf i).toNat)
  case atStart => exact ⟨0, _, 0, [], _, Nat.zero_le _, rfl, rfl, o2, r2, s2, isB_nil⟩
  case round =>
    obtain ⟨j, a', c', ll, p', hj, rfl, rfl, hO, hR, ho, hB⟩ := hrel
    clear o2 r2 s2
    by_cases hlt : j < m
    · have hlt' : (j : Int) < (m : Int) := by omega
      have hv := hR.bs.byte p'
      go_wp2_with fail
      refine (next_calls g a n c l p' wr hR).mono ?_
      rintro e w2 ⟨rfl, o2, r2⟩
      have ho2 := o2.own ho (own_ne ho hg)
      have z2 : w.heap.size ≤ w2.heap.size := Nat.le_trans hO.size o2.size
      have O2 : Hid _ := hO.trans o2
      have R2 : Hid _ := r2
      have HO2 : Hid _ := ho2
      generalize l.getD p' 0 = v at *
      obtain ⟨hv0, hv1⟩ := hv
      clear ho hR hO o2 r2 ho2
      go_wp2_with (at_builtin; refine wpList_app rfl _ _ rfl w.heap.size a' j c' ll rfl ?own _ 1 1 [v] rfl ?bs ?len ?B ?_)
      case own => exact World.ownsRow.alloc HO2.out _
      case bs => exact bs_lit1 w2 v (by omega) (by omega)
      case len => omega
      case B => simp; omega
      intro a3 c3 w3 o3 b3 _
      have q := (Below.refl w2.heap.size w2).alloc (Nat.le_refl _) (.cells #[.int .u8 v] 5)
      have b4 : Below w.heap.size w2 w3 := (q.mono z2).trans b3
      have o4 := O2.out.thenBelow b4 (Nat.le_refl _)
      have r4 := H.out.only o4 (by rw [b4.block g hg]; exact R2.out.box) R2.out.at_
      have O4 : Hid _ := o4
      have R4 : Hid _ := r4
      have O3 : Hid _ := o3
      have HB4 : Hid (IsB (ll ++ [v])) := isB_append hB (isB_one hv0 hv1)
      clear o3 b3 q b4 o4 r4 O2 R2 HO2
      go_wp2
      go_roundw
      case rel => exact ⟨j + 1, a3, c3, _, _, by omega, by go_num, rfl, O4.out, R4.out, O3.out, HB4.out⟩
      case measure => simp [intOf]; omega
    · have e : j = m := by omega
      subst e
      have HO : Hid _ := hO
      have HR : Hid _ := hR
      have HOw : Hid _ := ho
      clear hO hR ho
      by_cases hk : 240 ≤ k
      · obtain ⟨r3, hr3⟩ : ∃ r3 : Nat, k % 3 = (r3 : Int) := ⟨(k % 3).toNat, by omega⟩
        have hr3' : r3 ≤ 2 := by omega
        rw [hr3] at hm3
        have km := fun (w : World) => run_make8 (239 + r3) (239 + (r3 : Int)) (by omega) (by omega) w
        go_wp2
        go_ret
        have q := (Below.refl wr.heap.size wr).alloc (Nat.le_refl _) (.cells (madeCells #[.int .u8 0] (239 + r3)) 5)
        refine ⟨_, _, _, List.replicate (239 + r3) 0, _, rfl, HO.out.thenBelow q HO.out.size, HR.out.below q, ?_, isB_rep _, by omega⟩
        have e : madeCells #[Value.int .u8 0] (239 + r3) = (ob (List.replicate (239 + r3) 0)).toArray := by
          apply Array.toList_inj.1
          rw [toList_madeCells_one]
          simp [ob]
        rw [e]
        exact own_lit wr _ _ (by simp) (by omega) _ HO.out.size
      · have hk' : k < 240 := by omega
        go_wp2
        refine bodyPost_ret (v := .slice a' j c') (by simp [results, Tryd.results67, go_sem]) rfl ?_
        exact ⟨_, _, _, rfl, HO.out, ⟨_, HR.out⟩, _, HOw.out, hB, by omega⟩


end Go.Proofs.YtjjfgoeibcmfkaaDoor

/- A region that draws its order: what waits for an operation by a chain of others waits for it too. -/
namespace Go.Proofs.YtjjfgoeibcmfkaaDoor
open Go
set_option linter.unusedVariables false

section
variable {P : Program} {ops : Array Oper} {Q : Exit → Act → World → Prop} {md : Region.Mode} {S : World → Prop} {D : Nat → Bool}

theorem wpAnyD_firstT {i : Nat} {oi : Oper} {v : Value} (bl : Nat → Bool) (hi : ops[i]? = some oi) (hsel : ∀ (j : Nat) (o : Oper) cs b, ops[j]? = some o → o.op ≠ .select cs b)
    (hQ : ∀ c a w, Q (.panic c) (a.put oi.dst v) w → Q (.panic c) a w)
    (hD : ∀ j oj, ops[j]? = some oj → D j = true → bl j = true)
    (hB : ∀ j oj, ops[j]? = some oj → bl j = true → ∃ e ∈ oj.after, Region.binds md e = true ∧ (e.on = i ∨ bl e.on = true)) :
    ∀ (fuel : Nat) (listed : Array Bool) (a : Act) (w : World), (∀ j, bl j = true → listed.getD j true = false) →
      (∀ j oj, ops[j]? = some oj → j ≠ i → listed.getD j true = false → (∀ e ∈ oj.after, Region.binds md e = true → e.on ≠ i) → oi.apart ops oj = true) →
      i ∈ Region.ready md ops listed → YieldsIf P ops S oi v a → S w →
      wpAnyD P md ops Q S D fuel (listed.setIfInBounds i true) (a.put oi.dst v) w → wpAnyD P md ops Q S D (fuel + 1) listed a w := by
  intro fuel
  induction fuel with
  | zero =>
    intro listed a w _ _ hr hy hS H
    refine ⟨fun h => (by rw [h] at hr; cases hr), fun j hj => ?_⟩
    by_cases hji : j = i
    · subst hji; exact hy.wpOp hi hS ⟨fun _ => hS, H⟩
    · have := ready_mono hj hji
      rw [H.1] at this
      cases this
  | succ fuel ih =>
    intro listed a w hun hfree hr hy hS H
    refine ⟨fun h => (by rw [h] at hr; cases hr), fun j hj => ?_⟩
    by_cases hji : j = i
    · subst hji; exact hy.wpOp hi hS ⟨fun _ => hS, H⟩
    · have h1 := H.2 j (ready_mono hj hji)
      obtain ⟨hjun, oj, hoj, hall⟩ := mem_ready.1 hj
      have hlisted : ∀ e ∈ oj.after, Region.binds md e = true → listed.getD e.on true ≠ false := fun e he hb h0 => by
        have h1 := hall e he hb
        rcases Nat.lt_or_ge e.on listed.size with h' | h'
        · simp [h'] at h0 h1; rw [h0] at h1; cases h1
        · simp [Array.getElem?_eq_none h'] at h1
      have hnot : ∀ e ∈ oj.after, Region.binds md e = true → e.on ≠ i := fun e he hb heq => by
        have h1 := hall e he hb
        have h0 := (mem_ready.1 hr).1
        rw [heq] at h1
        rcases Nat.lt_or_ge i listed.size with h' | h'
        · simp [h'] at h0 h1; rw [h0] at h1; cases h1
        · simp [Array.getElem?_eq_none h'] at h1
      have hbj : bl j = false := by
        cases hd : bl j with
        | false => rfl
        | true =>
          obtain ⟨e, he, hb, hon⟩ := hB j oj hoj hd
          rcases hon with hon | hon
          · exact absurd hon (hnot e he hb)
          · exact absurd (hun _ hon) (hlisted e he hb)
      have hDj : D j = false := by
        cases hd : D j with
        | false => rfl
        | true => rw [hD j oj hoj hd] at hbj; cases hbj
      have h2 := wpOp_putIf hoj (hfree j oj hoj hji hjun hnot) (fun cs b => hsel i oi cs b hi) (fun cs b => hsel j oj cs b hoj) hQ hy h1
      have hun' : ∀ k, bl k = true → (listed.setIfInBounds j true).getD k true = false := fun k hk => by
        have hjk : j ≠ k := fun e => by rw [e, hk] at hbj; cases hbj
        rw [getD_set_ne true hjk]
        exact hun k hk
      have hfree' : ∀ k ok, ops[k]? = some ok → k ≠ i → (listed.setIfInBounds j true).getD k true = false →
          (∀ e ∈ ok.after, Region.binds md e = true → e.on ≠ i) → oi.apart ops ok = true := fun k ok hk hki hun hno => by
        refine hfree k ok hk hki ?_ hno
        by_cases hjk : j = k
        · subst hjk; exact hjun
        · rw [getD_set_ne true hjk] at hun; exact hun
      refine wpOp_mono (fun a' w' h3 => ⟨h3.2.1, ih (listed.setIfInBounds j true) a' w' hun' hfree' (ready_mono hr (Ne.symm hji)) h3.1 (h3.2.1 hDj) ?_⟩) h2
      rw [Array.setIfInBounds_comm _ _ hji]
      exact h3.2.2

/-- What waits for number i, by a chain. -/
def chainL (md : Region.Mode) (ops : Array Oper) (i : Nat) : List Bool :=
  (List.range ops.size).foldl (fun acc j => acc ++ [match ops[j]? with | none => false | some o => o.after.any fun e => Region.binds md e && (e.on == i || acc.getD e.on false)]) []
def chainB (md : Region.Mode) (ops : Array Oper) (i j : Nat) : Bool := decide (j < ops.size) && (chainL md ops i).getD j false
def waitsT (md : Region.Mode) (ops : Array Oper) (D : Nat → Bool) (listed : Array Bool) (i : Nat) : Bool :=
  (List.range ops.size).all fun j => (!(D j) || chainB md ops i j) && (!(chainB md ops i j) || (!(listed.getD j true) && match ops[j]? with | none => false | some o => o.after.any fun e => Region.binds md e && (e.on == i || chainB md ops i e.on)))
theorem wpAnyD_takeT (i d : Nat) {oi : Oper} {v : Value} {fuel : Nat} {listed : Array Bool} {a : Act} {w : World} (hi : ops[i]? = some oi) (hd : oi.dst = some d)
    (hs : Region.noSelect ops = true) (hf : Region.free md ops listed i = true) (hr : (Region.ready md ops listed).contains i = true) (hw : waitsT md ops D listed i = true)
    (hQ : ∀ c a w, Q (.panic c) (a.put oi.dst v) w → Q (.panic c) a w) (hy : YieldsIf P ops S oi v a) (hS : S w)
    (h : wpAnyD P md ops Q S D fuel (listed.setIfInBounds i true) (a.put (some d) v) w) : wpAnyD P md ops Q S D (fuel + 1) listed a w := by
  have hall : ∀ j, j < ops.size → (D j = true → chainB md ops i j = true) ∧ (chainB md ops i j = true → listed.getD j true = false ∧ ∀ o, ops[j]? = some o → ∃ e ∈ o.after, Region.binds md e = true ∧ (e.on = i ∨ chainB md ops i e.on = true)) := fun j hj => by
    have h1 := List.all_eq_true.1 hw j (List.mem_range.2 hj)
    simp only [Bool.and_eq_true, Bool.or_eq_true, Bool.not_eq_true'] at h1
    refine ⟨fun hd => ?_, fun hc => ?_⟩
    · rcases h1.1 with h2 | h2
      · rw [hd] at h2; cases h2
      · exact h2
    · rcases h1.2 with h2 | h2
      · rw [hc] at h2; cases h2
      · refine ⟨h2.1, fun o ho => ?_⟩
        have h3 := h2.2
        rw [ho] at h3
        simp only [Array.any_eq_true', Bool.and_eq_true, Bool.or_eq_true, beq_iff_eq] at h3
        exact h3
  have hin : ∀ j, chainB md ops i j = true → j < ops.size := fun j h => by
    unfold chainB at h
    simp only [Bool.and_eq_true, decide_eq_true_eq] at h
    exact h.1
  refine wpAnyD_firstT (chainB md ops i) hi (Region.noSelect_spec hs) hQ (fun j oj hj hdj => (hall j (Array.getElem?_eq_some_iff.1 hj).1).1 hdj)
    (fun j oj hj hb => ((hall j (Array.getElem?_eq_some_iff.1 hj).1).2 hb).2 oj hj) fuel listed a w (fun j hb => ((hall j (hin j hb)).2 hb).1) (Region.free_spec hi hf) (by simpa using hr) hy hS ?_
  rw [hd]
  exact h
end
end Go.Proofs.YtjjfgoeibcmfkaaDoor

/- Steps of drawn regions: an append of bytes; two that may come up. -/
namespace Go.Proofs.YtjjfgoeibcmfkaaDoor
open Go.RowKit
set_option linter.unusedVariables false

/-- Two may come up. -/
theorem wpAnyD_two {P : Program} {ops : Array Oper} {Q : Exit → Act → World → Prop} {md : Region.Mode} {S : World → Prop} {D : Nat → Bool} (i j : Nat) {oi oj : Oper} {fuel : Nat} {listed : Array Bool} {a : Act} {w : World} (hr : Region.ready md ops listed = [i, j]) (hi : ops[i]? = some oi) (hj : ops[j]? = some oj)
    (h1 : ∀ K' : Act → World → Prop, Shut (∀ a w, (D i = false → S w) → wpAnyD P md ops Q S D fuel (listed.setIfInBounds i true) a w → K' a w) → if Region.wanted oi (yielded ops a.tmps) = true then Oper.wp P oi a w K' Q else K' (a.put oi.dst undef) w)
    (h2 : ∀ K' : Act → World → Prop, Shut (∀ a w, (D j = false → S w) → wpAnyD P md ops Q S D fuel (listed.setIfInBounds j true) a w → K' a w) → if Region.wanted oj (yielded ops a.tmps) = true then Oper.wp P oj a w K' Q else K' (a.put oj.dst undef) w) : wpAnyD P md ops Q S D (fuel + 1) listed a w :=
  ⟨fun h0 => (by rw [hr] at h0; cases h0), fun x hx => by
    rw [hr] at hx
    have hx2 : x = i ∨ x = j := by simpa using hx
    rcases hx2 with rfl | rfl
    · exact wpOp_step hi (fun K' hK => h1 K' (fun a w hS hW => hK a w ⟨hS, hW⟩))
    · exact wpOp_step hj (fun K' hK => h2 K' (fun a w hS hW => hK a w ⟨hS, hW⟩))⟩

theorem step_appG {w : World} {ops : Array Oper} {o : Oper} {act : Act} {K : Act → World → Prop} {Q : Exit → Act → World → Prop} {E : Prop} (hgd : o.guard = none) (s x : Operand)
    (ho : o.op = .call { callee := .builtin .append, args := #[s, x], argTypes := #[38, 38] })
    (B : Nat) (a : Option Addr) (n c : Nat) (xs : List Int) (hs : act.eval s = .slice a n c) (hown : Own B w a n c xs)
    (g m d : Nat) (l : List Int) (hx : act.eval x = .slice (some ⟨g, 0, none⟩) m d) (hl : Bs w (some ⟨g, 0, none⟩) m d l) (hlen : n + m ≤ 140737488355328) (hB : B ≤ w.heap.size)
    (h : ∀ a' c' w', Own B w' a' (n + m) c' (xs ++ l) → Below B w w' → w.grownBy w' (Value.slice a n c).ownBlock → K (act.put o.dst (.slice a' (n + m) c')) w') :
    if Region.wanted o (yielded ops act.tmps) = true then Oper.wp Tryd.prog o act w K Q else E := by
  have hw : Region.wanted o (yielded ops act.tmps) = true := by simp [Region.wanted, hgd]
  rw [if_pos hw]
  obtain ⟨i, hi, hz0, hz1, hz2⟩ := info_parts info5
  refine wp_append_own w s x _ ho B 5 i _ 1 1 Tryd.underlying38 hi hz0 hz1 hz2 rfl (by omega) _ n (ob xs) hs hown ⟨g, 0, none⟩ m d (ob l) hx (by simp [ob, hl.len_eq]) ?_ (ob_oneCell l) (by unfold maxLen; omega) (by omega) hB ?_
  · intro j u hj
    have hjl : j < l.length := by have := (List.getElem?_eq_some_iff.1 hj).1; simpa [ob] using this
    obtain ⟨b1, off, e, _, hc⟩ := hl.at_ (by have := hl.len_eq; omega)
    cases e
    rw [ob_getElem? l j hjl] at hj
    rw [Addr.add_lit, hc j (by have := hl.len_eq; omega)]
    exact hj
  · intro v' w' ho' hg' _
    have e : ob xs ++ ob l = ob (xs ++ l) := by simp [ob]
    rw [e] at ho'
    have hv : ∃ a' c', v' = .slice a' (n + m) c' := by
      rcases ho'.2 with ⟨rfl, h0⟩ | ⟨g, cap, cur, rfl, _⟩
      · exact ⟨none, 0, by rw [h0]⟩
      · exact ⟨_, _, rfl⟩
    obtain ⟨a', c', rfl⟩ := hv
    exact h a' c' w' ho' ((Below.refl _ _).grown hg' hB (fun k hk => (World.ownsRow.lt hown k hk).1)) hg'

theorem undrewG {B : Nat} {w w' : World} (h : Below B w.drew w') : Below B w w' := ⟨h.os, h.tape, h.output, h.size, h.block⟩
end Go.Proofs.YtjjfgoeibcmfkaaDoor

