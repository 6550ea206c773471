import Derived.Test.YtamifpbhmecloaaFD0
import Derived.Test.YtamifpbhmecloaaFD7
import Derived.Test.YtamifpbhmecloaaFD11
import Derived.Test.YtamifpbhmecloaaFD26
import Derived.Deep.DeepCutAuto
/- Steps of drawn regions: an append of bytes; two that may come up. -/
namespace Go.Proofs.Ytamifpbhmecloaa
open Go.RowKit
set_option linter.unusedVariables false

/-- Two may come up. -/
theorem wpAnyD_two {P : Program} {ops : Array Oper} {Q : Exit → Act → World → Prop} {md : Region.Mode} {S : World → Prop} {D : Nat → Bool} (i j : Nat) {oi oj : Oper} {fuel : Nat} {listed : Array Bool} {a : Act} {w : World} (hr : Region.ready md ops listed = [i, j]) (hi : ops[i]? = some oi) (hj : ops[j]? = some oj)
    (h1 : ∀ K' : Act → World → Prop, Shut (∀ a w, (D i = false → S w) → wpAnyD P md ops Q S D fuel (listed.setIfInBounds i true) a w → K' a w) → if Region.wanted oi (yielded ops a.tmps) = true then Oper.wp P oi a w K' Q else K' (a.put oi.dst undef) w)
    (h2 : ∀ K' : Act → World → Prop, Shut (∀ a w, (D j = false → S w) → wpAnyD P md ops Q S D fuel (listed.setIfInBounds j true) a w → K' a w) → if Region.wanted oj (yielded ops a.tmps) = true then Oper.wp P oj a w K' Q else K' (a.put oj.dst undef) w) : wpAnyD P md ops Q S D (fuel + 1) listed a w :=
  ⟨fun h0 => (by rw [hr] at h0; cases h0), fun x hx => by
    rw [hr] at hx
    have hx2 : x = i ∨ x = j := by simpa using hx
    rcases hx2 with rfl | rfl
    · exact wpOp_step hi (fun K' hK => h1 K' (fun a w hS hW => hK a w ⟨hS, hW⟩))
    · exact wpOp_step hj (fun K' hK => h2 K' (fun a w hS hW => hK a w ⟨hS, hW⟩))⟩

theorem step_appG {w : World} {ops : Array Oper} {o : Oper} {act : Act} {K : Act → World → Prop} {Q : Exit → Act → World → Prop} {E : Prop} (hgd : o.guard = none) (s x : Operand)
    (ho : o.op = .call { callee := .builtin .append, args := #[s, x], argTypes := #[22, 22] })
    (B : Nat) (a : Option Addr) (n c : Nat) (xs : List Int) (hs : act.eval s = .slice a n c) (hown : Own B w a n c xs)
    (g m d : Nat) (l : List Int) (hx : act.eval x = .slice (some ⟨g, 0, none⟩) m d) (hl : Bs w (some ⟨g, 0, none⟩) m d l) (hlen : n + m ≤ 140737488355328) (hB : B ≤ w.heap.size)
    (h : ∀ a' c' w', Own B w' a' (n + m) c' (xs ++ l) → Below B w w' → w.grownBy w' (Value.slice a n c).ownBlock → K (act.put o.dst (.slice a' (n + m) c')) w') :
    if Region.wanted o (yielded ops act.tmps) = true then Oper.wp Try.prog o act w K Q else E := by
  have hw : Region.wanted o (yielded ops act.tmps) = true := by simp [Region.wanted, hgd]
  rw [if_pos hw]
  obtain ⟨i, hi, hz0, hz1, hz2⟩ := info_parts info5
  refine wp_append_own w s x _ ho B 5 i _ 1 1 Try.underlying22 hi hz0 hz1 hz2 rfl (by omega) _ n (ob xs) hs hown ⟨g, 0, none⟩ m d (ob l) hx (by simp [ob, hl.len_eq]) ?_ (ob_oneCell l) (by unfold maxLen; omega) (by omega) hB ?_
  · intro j u hj
    have hjl : j < l.length := by have := (List.getElem?_eq_some_iff.1 hj).1; simpa [ob] using this
    obtain ⟨b1, off, e, _, hc⟩ := hl.at_ (by have := hl.len_eq; omega)
    cases e
    rw [ob_getElem? l j hjl] at hj
    rw [Addr.add_lit, hc j (by have := hl.len_eq; omega)]
    exact hj
  · intro v' w' ho' hg' _
    have e : ob xs ++ ob l = ob (xs ++ l) := by simp [ob]
    rw [e] at ho'
    have hv : ∃ a' c', v' = .slice a' (n + m) c' := by
      rcases ho'.2 with ⟨rfl, h0⟩ | ⟨g, cap, cur, rfl, _⟩
      · exact ⟨none, 0, by rw [h0]⟩
      · exact ⟨_, _, rfl⟩
    obtain ⟨a', c', rfl⟩ := hv
    exact h a' c' w' ho' ((Below.refl _ _).grown hg' hB (fun k hk => (World.ownsRow.lt hown k hk).1)) hg'

theorem undrewG {B : Nat} {w w' : World} (h : Below B w.drew w') : Below B w w' := ⟨h.os, h.tape, h.output, h.size, h.block⟩
end Go.Proofs.Ytamifpbhmecloaa

/- The draw of an op. -/
namespace Go.Proofs.Ytamifpbhmecloaa
open Go.RowKit
set_option linter.unusedVariables false

def opK (k : Int) : Int := if 235 ≤ k ∧ k % 4 = 0 then k % 3 * 3 else if k % 5 = 4 then 2 else 1
def opA0 (k s : Int) : Int := if k % 5 = 4 then 0 else k % (s + 1)
def opAt (k s : Int) : Int := if 235 ≤ k ∧ k % 4 = 1 then -1 else if 235 ≤ k ∧ k % 4 = 3 then s else if k % (s + 1) = s ∧ k < 200 then 0 else opA0 k s
def opK1 (k : Int) : Int := if k % 5 = 4 then 2 else 1
def opA2 (k s : Int) : Int := if 235 ≤ k ∧ k % 4 = 1 then -1 else if 235 ≤ k ∧ k % 4 = 3 then s else opA0 k s
def opL1 (k b : Int) : List Int := if k % 5 = 4 then [] else secL b
def opL (k b : Int) : List Int := if 235 ≤ k ∧ k % 4 = 2 then List.replicate 65 0 else if k % 5 = 4 then [] else secL b

theorem opAt_is2 {k s : Int} (h : ¬ (k % (s + 1) = s ∧ k < 200)) : opAt k s = opA2 k s := by
  unfold opAt opA2
  split
  · rfl
  · split
    · rfl
    · first | rfl | rw [if_neg h]

/-- The op is in block ob, the answer's variable in block w.heap.size. -/
structure OpSt (w : World) (g ob : Nat) (a : Option Addr) (n c p : Nat) (kd t : Int) (oa : Option Addr) (oc : Nat) (dl : List Int) (wx : World) : Prop where
  only : OnlyB g w wx
  box : wx.heap[g]? = some (.cells #[.slice a n c, .int .i64 (p : Nat)] 108 (0, 0))
  res : wx.heap[w.heap.size]? = some (.cells #[.int .i64 0, .int .i64 0, .slice none 0 0] 28 (0, 0))
  op : wx.heap[ob]? = some (.cells #[.int .i64 kd, .int .i64 t, .slice oa dl.length oc] 28 (0, 0))
  own : Own w.heap.size wx oa dl.length oc dl
  gt : w.heap.size < ob
theorem own_setOther {B : Nat} {w : World} {a : Option Addr} {n c : Nat} {l : List Int} (h : Own B w a n c l) {g e' : Nat} {cur : Array Value} {fr : Nat × Nat} (hg : w.heap[g]? = some (.cells cur e' fr)) (he : 5 ≠ e') (i : Nat) (v : Value) : Own B (w.setCell ⟨g, i, none⟩ v) a n c l := by
  refine World.ownsRow.kept h (gB_set (gB_refl w (some g)) i v) ?_
  cases hk : (Value.slice a n c).ownBlock with
  | none => exact Or.inl rfl
  | some k => exact Or.inr fun e => row_not_box h hg he hk (by cases e; rfl)
theorem OpSt.set {w : World} {g ob : Nat} {a : Option Addr} {n c p : Nat} {kd t : Int} {oa : Option Addr} {oc : Nat} {dl : List Int} {wx : World} (h : OpSt w g ob a n c p kd t oa oc dl wx) (hg : g < w.heap.size) (i : Nat) (v : Value) {kd' t' : Int} {oa' : Option Addr} {oc' : Nat} {dl' : List Int} (he : (#[.int .i64 kd, .int .i64 t, .slice oa dl.length oc] : Array Value).setIfInBounds i v = #[.int .i64 kd', .int .i64 t', .slice oa' dl'.length oc']) (ho : Own w.heap.size wx oa' dl'.length oc' dl') : OpSt w g ob a n c p kd' t' oa' oc' dl' (wx.setCell ⟨ob, i, none⟩ v) := by
  have gt := h.gt
  have q := (Below.refl ob wx).setCell (p := ⟨ob, i, none⟩) (Nat.le_refl _) v
  refine ⟨h.only.thenB q (by omega), (Below.heap_setCell wx ⟨ob, i, none⟩ v g (by show g ≠ ob; omega)).trans h.box, (Below.heap_setCell wx ⟨ob, i, none⟩ v w.heap.size (by show w.heap.size ≠ ob; omega)).trans h.res, ?_, own_setOther ho h.op (by decide) i v, gt⟩
  have := heap_setCell_same wx ob i _ _ v h.op
  rw [he] at this
  exact this
theorem OpSt.below {w : World} {g ob : Nat} {a : Option Addr} {n c p : Nat} {kd t : Int} {oa : Option Addr} {oc : Nat} {dl : List Int} {wx wy : World} (h : OpSt w g ob a n c p kd t oa oc dl wx) (hg : g < w.heap.size) (hb : Below wx.heap.size wx wy) : OpSt w g ob a n c p kd t oa oc dl wy := by
  have lt : ob < wx.heap.size := (Array.getElem?_eq_some_iff.1 h.op).1
  have gt := h.gt
  exact ⟨h.only.thenB hb h.only.size, (hb.block g (by omega)).trans h.box, (hb.block _ (by omega)).trans h.res, (hb.block _ lt).trans h.op, h.own.below hb, gt⟩
def zero65 : Array Value := madeCells #[.int .u8 0] 65
theorem run_made65 (w : World) : (Instr.makeSlice 22 (.int .i64 65) (.int .i64 65)).run Try.prog w = .ok (.slice (some ⟨w.heap.size, 0, none⟩) 65 65) (w.alloc (.cells zero65 5)) := run_made 65 65 rfl (by omega) w
theorem own_made65 (B : Nat) (w : World) (hB : B ≤ w.heap.size) : Own B (w.alloc (.cells zero65 5)) (some ⟨w.heap.size, 0, none⟩) (List.replicate 65 (0 : Int)).length 65 (List.replicate 65 0) := by
  have e : zero65 = (ob (List.replicate 65 0)).toArray := by
    apply Array.toList_inj.1
    unfold zero65
    rw [toList_madeCells_one]
    simp [ob]
  rw [e]
  exact own_lit w (List.replicate 65 0) 65 (by simp) (by omega) B hB

theorem opL_isB {k b : Int} (b0 : 0 ≤ b) (b1 : b < 256) : IsB (opL k b) := by
  unfold opL
  split
  · exact isB_rep 65
  · split
    · exact isB_nil
    · exact secL_isB b0 b1
theorem op_fin {g ob : Nat} {a : Option Addr} {n c : Nat} {l : List Int} {p : Nat} {kd t k s b : Int} {oa : Option Addr} {oc : Nat} {dl : List Int} {w W6 : World} (h : IsRd w g a n c l p) (hg : g < w.heap.size) (F : OpSt w g ob a n c (rdP n (rdP n p)) kd t oa oc dl W6) (b0 : 0 ≤ b) (b1 : b < 256) (E : opK k = kd ∧ opAt k s = t ∧ opL k b = dl) :
    ∃ oa' oc', Ending.returned (.agg #[.int .i64 kd, .int .i64 t, .slice oa dl.length oc]) = .returned (.agg #[.int .i64 (opK k), .int .i64 (opAt k s), .slice oa' (opL k b).length oc']) ∧ OnlyB g w (((W6.setCell ⟨w.heap.size, 0, none⟩ (.int .i64 kd)).setCell ⟨w.heap.size, 1, none⟩ (.int .i64 t)).setCell ⟨w.heap.size, 2, none⟩ (.slice oa dl.length oc)) ∧ IsRd (((W6.setCell ⟨w.heap.size, 0, none⟩ (.int .i64 kd)).setCell ⟨w.heap.size, 1, none⟩ (.int .i64 t)).setCell ⟨w.heap.size, 2, none⟩ (.slice oa dl.length oc)) g a n c l (rdP n (rdP n p)) ∧ Bs (((W6.setCell ⟨w.heap.size, 0, none⟩ (.int .i64 kd)).setCell ⟨w.heap.size, 1, none⟩ (.int .i64 t)).setCell ⟨w.heap.size, 2, none⟩ (.slice oa dl.length oc)) oa' (opL k b).length oc' (opL k b) := by
  obtain ⟨e1, e2, e3⟩ := E
  have hB := opL_isB (k := k) b0 b1
  rw [e1, e2, e3]
  rw [e3] at hB
  have x1 := heap_setCell_same _ _ 0 _ _ (.int .i64 kd) F.res
  have x2 := heap_setCell_same _ _ 1 _ _ (.int .i64 t) x1
  have ow := own_setOther (own_setOther (own_setOther F.own F.res (by decide) 0 (.int .i64 kd)) x1 (by decide) 1 (.int .i64 t)) x2 (by decide) 2 (.slice oa dl.length oc)
  have q := (((Below.refl w.heap.size W6).setCell (p := ⟨w.heap.size, 0, none⟩) (Nat.le_refl _) (.int .i64 kd)).setCell (p := ⟨w.heap.size, 1, none⟩) (Nat.le_refl _) (.int .i64 t)).setCell (p := ⟨w.heap.size, 2, none⟩) (Nat.le_refl _) (.slice oa dl.length oc)
  have o := F.only.thenB q (Nat.le_refl _)
  exact ⟨oa, oc, rfl, o, h.only o ((q.block g hg).trans F.box) (rdP_le (rdP_le h.at_)), ow.bs hB⟩

set_option maxRecDepth 100000 in
set_option maxHeartbeats 8000000 in
theorem l1Op_calls (g : Nat) (a : Option Addr) (n c : Nat) (l : List Int) (p s : Nat) (w : World) (h : IsRd w g a n c l p) (hs1 : 1 ≤ s) (hs : s ≤ 7) :
    Calls Try.prog 44 #[.pointer (some ⟨g, 0, none⟩), .int .i64 (s : Int)] w fun e w' => ∃ oa oc, e = .returned (.agg #[.int .i64 (opK (l.getD p 0)), .int .i64 (opAt (l.getD p 0) s), .slice oa (opL (l.getD p 0) (l.getD (rdP n p) 0)).length oc]) ∧ OnlyB g w w' ∧ IsRd w' g a n c l (rdP n (rdP n p)) ∧ Bs w' oa (opL (l.getD p 0) (l.getD (rdP n p) 0)).length oc (opL (l.getD p 0) (l.getD (rdP n p) 0)) := by
  obtain ⟨k0, k1⟩ := h.bs.byte p
  obtain ⟨b0, b1⟩ := h.bs.byte (rdP n p)
  have hg := h.lt
  have q0 : Below w.heap.size w (w.alloc (.cells #[.int .i64 0, .int .i64 0, .slice none 0 0] 28)) := (Below.refl _ _).alloc (Nat.le_refl _) _
  have y0 := heap_alloc_new w (.cells #[.int .i64 0, .int .i64 0, .slice none 0 0] 28)
  have z0 : (w.alloc (.cells #[.int .i64 0, .int .i64 0, .slice none 0 0] 28)).heap.size = w.heap.size + 1 := by simp
  have r0 := h.below q0
  have H0 : Hid _ := And.intro h q0
  clear h q0
  go_enter Try.func44, Try.ntmps44
  go_wp2_with fail
  generalize hW0 : w.alloc (.cells #[.int .i64 0, .int .i64 0, .slice none 0 0] 28) = W0 at *
  clear hW0
  refine (next_calls g a n c l p W0 r0).mono ?_
  rintro e w1 ⟨rfl, o1, r1⟩
  have y1 : w1.heap[w.heap.size]? = some (.cells #[.int .i64 0, .int .i64 0, .slice none 0 0] 28 (0, 0)) := (o1.block _ (by omega) (by omega)).trans y0
  have z1 : w.heap.size + 1 ≤ w1.heap.size := by have := o1.size; omega
  have O1 : Hid _ := And.intro o1 (And.intro y1 r1)
  clear o1 y0 r0 y1 r1
  generalize hk : l.getD p 0 = k at *
  generalize hb : l.getD (rdP n p) 0 = b at *
  have hms : k.tmod ((s : Int) + 1) = k % ((s : Int) + 1) := Int.tmod_eq_emod_of_nonneg k0
  have hsn : ¬ ((s : Int) + 1 = 0) := by omega
  have hws : IntKind.i64.wrap ((s : Int) + 1) = (s : Int) + 1 := by simp [IntKind.wrap, IntKind.bits, IntKind.signed]; omega
  go_wp2_with fail
  go_cut [6] (fun s6 wx => ∃ ob oa oc, s6 = .pointer (some ⟨ob, 0, none⟩) ∧ OpSt w g ob a n c (rdP n (rdP n p)) 1 (k % ((s : Int) + 1)) oa oc (secL b) wx)
  case first =>
    refine wp_regionD (fun _ => True) (fun k => decide (8 ≤ k)) (by kernel_rfl) ?_
    have dr : Below w1.heap.size w1 w1.drew := ⟨rfl, rfl, rfl, Nat.le_refl _, fun _ _ => rfl⟩
    have rd := O1.out.2.2.below dr
    have zd : w.heap.size + 1 ≤ w1.drew.heap.size := z1
    have od : OnlyB g w w1.drew := (Below.onlyB H0.out.2 g).trans (O1.out.1.trans (Below.onlyB dr g))
    have yd : w1.drew.heap[w.heap.size]? = some (.cells #[.int .i64 0, .int .i64 0, .slice none 0 0] 28 (0, 0)) := O1.out.2.1
    clear dr
    generalize w1.drew = WD at *
    refine wpAnyD_takeT 0 10 (v := ?vva0) rfl rfl (by kernel_rfl) (by kernel_rfl) (by kernel_rfl) (by kernel_rfl) (fun _ _ _ h => h) (Or.inl ⟨by rfl, ?hya0⟩) trivial ?resta0
    case hya0 => (intro w hSw; (try dsimp only at hSw); go_simp; try with_reducible rfl)
    simp only [Act.put, List.setIfInBounds_toArray, List.set_cons_zero, List.set_cons_succ]
    refine wpAnyD_takeT 1 11 (v := ?vva1) rfl rfl (by kernel_rfl) (by kernel_rfl) (by kernel_rfl) (by kernel_rfl) (fun _ _ _ h => h) (Or.inl ⟨by rfl, ?hya1⟩) trivial ?resta1
    case hya1 => (intro w hSw; (try dsimp only at hSw); go_simp; try with_reducible rfl)
    simp only [Act.put, List.setIfInBounds_toArray, List.set_cons_zero, List.set_cons_succ]
    refine wpAnyD_takeT 2 12 (v := ?vva2) rfl rfl (by kernel_rfl) (by kernel_rfl) (by kernel_rfl) (by kernel_rfl) (fun _ _ _ h => h) (Or.inl ⟨by rfl, ?hya2⟩) trivial ?resta2
    case hya2 => (intro w hSw; (try dsimp only at hSw); go_simp; try with_reducible rfl)
    simp only [Act.put, List.setIfInBounds_toArray, List.set_cons_zero, List.set_cons_succ]
    refine wpAnyD_takeT 3 13 (v := ?vva3) rfl rfl (by kernel_rfl) (by kernel_rfl) (by kernel_rfl) (by kernel_rfl) (fun _ _ _ h => h) (Or.inl ⟨by rfl, ?hya3⟩) trivial ?resta3
    case hya3 => (intro w hSw; (try dsimp only at hSw); go_simp; try with_reducible rfl)
    simp only [Act.put, List.setIfInBounds_toArray, List.set_cons_zero, List.set_cons_succ]
    refine wpAnyD_takeT 4 14 (v := ?vva4) rfl rfl (by kernel_rfl) (by kernel_rfl) (by kernel_rfl) (by kernel_rfl) (fun _ _ _ h => h) (Or.inl ⟨by rfl, ?hya4⟩) trivial ?resta4
    case hya4 => (intro w hSw; (try dsimp only at hSw); go_simp; try with_reducible rfl)
    simp only [Act.put, List.setIfInBounds_toArray, List.set_cons_zero, List.set_cons_succ]
    refine wpAnyD_two 5 7 (by kernel_rfl) rfl rfl (fun KK hK => ?_) (fun KK hK => ?_)
    · rw [if_pos (show Region.wanted _ _ = true from rfl)]
      have SC := l1Sector_calls g a n c l (rdP n p) WD rd
      rw [hb] at SC
      go_wp2_with fail
      refine SC.mono ?_
      rintro e w2 ⟨rfl, o2, r2, ow2⟩
      have F2 : Hid _ := And.intro o2 (And.intro r2 ow2)
      clear SC o2 r2 ow2
      go_wp2_with fail
      refine hK.out _ _ (fun _ => trivial) ?_
      clear hK KK
      refine wpAnyD_takeT 6 16 (v := ?vvb6) rfl rfl (by kernel_rfl) (by kernel_rfl) (by kernel_rfl) (by kernel_rfl) (fun _ _ _ h => h) (Or.inl ⟨by rfl, ?hyb6⟩) trivial ?restb6
      case hyb6 => (intro w hSw; (try dsimp only at hSw); go_simp; try with_reducible rfl)
      simp only [Act.put, List.setIfInBounds_toArray, List.set_cons_zero, List.set_cons_succ]
      refine wpAnyD_one 7 (by kernel_rfl) rfl (fun KK hK => ?_)
      rw [if_pos (show Region.wanted _ _ = true from rfl)]
      go_wp2_with fail
      refine hK.out _ _ (fun _ => trivial) ?_
      clear hK KK
      refine wpAnyD_one 8 (by kernel_rfl) rfl (fun KK hK => ?_)
      rw [if_pos (show Region.wanted _ _ = true from rfl)]
      go_wp2_with fail
      refine hK.out _ _ (fun h => absurd h (by decide)) ?_
      clear hK KK
      refine wpAnyD_done (by kernel_rfl) ?_ _
      go_wp2_with fail
      go_meet
      obtain ⟨o2, r2, ow2⟩ := F2.out
      have q2 : Below w2.heap.size w2 (w2.alloc (.cells #[.int .i64 1, .int .i64 (k % ((s : Int) + 1)), .slice (some ⟨WD.heap.size, 0, none⟩) 64 64] 28)) := (Below.refl _ _).alloc (Nat.le_refl _) _
      have zz := o2.size
      have r3 := r2.below q2
      refine ⟨w2.heap.size, some ⟨WD.heap.size, 0, none⟩, 64, rfl, (od.trans o2).thenB q2 (by omega), r3.box, (q2.block _ (by omega)).trans ((o2.block _ (by omega) (by omega)).trans yd), ?_, ?_, by omega⟩
      · rw [secL_len]; exact heap_alloc_new w2 _
      · rw [secL_len]; exact (ow2.below q2).mono (by omega)
    · rw [if_pos (show Region.wanted _ _ = true from rfl)]
      go_wp2_with fail
      refine hK.out _ _ (fun _ => trivial) ?_
      clear hK KK
      have qa : Below WD.heap.size WD (WD.alloc (.cells #[.int .i64 0, .int .i64 0, .slice none 0 0] 28)) := (Below.refl _ _).alloc (Nat.le_refl _) _
      have ya := heap_alloc_new WD (.cells #[.int .i64 0, .int .i64 0, .slice none 0 0] 28)
      have HZA : Hid ((WD.alloc (.cells #[.int .i64 0, .int .i64 0, .slice none 0 0] 28)).heap.size = WD.heap.size + 1) := by show (WD.alloc _).heap.size = _; simp
      have ra := rd.below qa
      have SC := l1Sector_calls g a n c l (rdP n p) _ ra
      rw [hb] at SC
      have yb := (qa.block w.heap.size (by omega)).trans yd
      have ob' := od.thenB qa (by omega)
      generalize WD.alloc (.cells #[.int .i64 0, .int .i64 0, .slice none 0 0] 28) = WA at *
      generalize hgo : WD.heap.size = go at *
      refine wpAnyD_one 5 (by kernel_rfl) rfl (fun KK hK => ?_)
      rw [if_pos (show Region.wanted _ _ = true from rfl)]
      go_wp2_with fail
      refine SC.mono ?_
      rintro e w2 ⟨rfl, o2, r2, ow2⟩
      have y2 := (o2.block go (by have := HZA.out; omega) (by omega)).trans ya
      have yr2 := (o2.block w.heap.size (by have := HZA.out; omega) (by omega)).trans yb
      have c0 := cell_of_row _ _ 0 _ _ _ y2
      have c1 := cell_of_row _ _ 1 _ _ _ y2
      have c2 := cell_of_row _ _ 2 _ _ _ y2
      have f0 := frozen_of_row _ _ 0 _ _ y2
      have f1 := frozen_of_row _ _ 1 _ _ y2
      have f2 := frozen_of_row _ _ 2 _ _ y2
      have st0 : OpSt w g go a n c (rdP n (rdP n p)) 0 0 none 0 [] w2 := ⟨ob'.trans o2, r2.box, yr2, y2, own_nil _ _, by omega⟩
      have st1 := st0.set hg 0 (.int .i64 1) (kd' := 1) (t' := 0) (oa' := none) (oc' := 0) (dl' := []) rfl (own_nil _ _)
      have st2 := st1.set hg 1 (.int .i64 (k % ((s : Int) + 1))) (kd' := 1) (t' := k % ((s : Int) + 1)) (oa' := none) (oc' := 0) (dl' := []) rfl (own_nil _ _)
      have ow3 : Own w.heap.size ((w2.setCell ⟨go, 0, none⟩ (.int .i64 1)).setCell ⟨go, 1, none⟩ (.int .i64 (k % ((s : Int) + 1)))) (some ⟨WA.heap.size, 0, none⟩) (secL b).length 64 (secL b) := by
        rw [secL_len]
        exact (own_setOther (own_setOther ow2 y2 (by decide) 0 _) st1.op (by decide) 1 _).mono (by have := HZA.out; omega)
      have st3 := st2.set hg 2 (.slice (some ⟨WA.heap.size, 0, none⟩) 64 64) (kd' := 1) (t' := k % ((s : Int) + 1)) (oa' := some ⟨WA.heap.size, 0, none⟩) (oc' := 64) (dl' := secL b) (by rw [secL_len]; rfl) ow3
      have F3 : Hid _ := st3
      clear SC o2 r2 ow2 st0 st1 st2 st3 ow3 y2 yr2
      go_wp2_with fail
      refine hK.out _ _ (fun _ => trivial) ?_
      clear hK KK
      refine wpAnyD_takeT 6 16 (v := ?vvc6) rfl rfl (by kernel_rfl) (by kernel_rfl) (by kernel_rfl) (by kernel_rfl) (fun _ _ _ h => h) (Or.inl ⟨by rfl, ?hyc6⟩) trivial ?restc6
      case hyc6 => (intro w hSw; (try dsimp only at hSw); go_simp; try with_reducible rfl)
      simp only [Act.put, List.setIfInBounds_toArray, List.set_cons_zero, List.set_cons_succ]
      refine wpAnyD_one 8 (by kernel_rfl) rfl (fun KK hK => ?_)
      rw [if_pos (show Region.wanted _ _ = true from rfl)]
      go_wp2_with fail
      refine hK.out _ _ (fun h => absurd h (by decide)) ?_
      clear hK KK
      refine wpAnyD_done (by kernel_rfl) ?_ _
      go_wp2_with fail
      go_meet
      exact ⟨go, some ⟨WA.heap.size, 0, none⟩, 64, rfl, F3.out⟩
  case rest =>
  obtain ⟨ob, oa, oc, rfl, st⟩ := hcut
  obtain ⟨wX, hwX⟩ : ∃ wX, wX = wc := ⟨_, rfl⟩
  subst hwX
  have HST : Hid _ := st
  clear st O1
  have hm5 : k.tmod 5 = k % 5 := Int.tmod_eq_emod_of_nonneg k0
  have hm4 : k.tmod 4 = k % 4 := Int.tmod_eq_emod_of_nonneg k0
  have hm3 : k.tmod 3 = k % 3 := Int.tmod_eq_emod_of_nonneg k0
  have hw3 : IntKind.i64.wrap (k % 3 * 3) = k % 3 * 3 := by simp [IntKind.wrap, IntKind.bits, IntKind.signed]; omega
  have kz : ∀ w : World, (Instr.makeSlice 22 (.int .i64 65) (.int .i64 65)).run Try.prog w = .ok (.slice (some ⟨w.heap.size, 0, none⟩) 65 65) (w.alloc (.cells zero65 5)) := run_made65
  go_upto_if 19 with fail
  go_cut [] (fun wx => ∃ kd t oa oc dl, OpSt w g ob a n c (rdP n (rdP n p)) kd t oa oc dl wx ∧ kd = opK1 k ∧ t = opA0 k s ∧ dl = opL1 k b)
  case first =>
    by_cases h5 : k % 5 = 4
    · have e5 : (k % 5 == 4) = true := by simp [h5]
      have e0 := cell_of_row _ _ 0 _ _ _ HST.out.op
      have e1 := cell_of_row _ _ 1 _ _ _ HST.out.op
      have e2 := cell_of_row _ _ 2 _ _ _ HST.out.op
      have g0 := frozen_of_row _ _ 0 _ _ HST.out.op
      have g1 := frozen_of_row _ _ 1 _ _ HST.out.op
      have g2 := frozen_of_row _ _ 2 _ _ HST.out.op
      have t1 := HST.out.set hg 0 (.int .i64 2) (kd' := 2) (t' := k % ((s : Int) + 1)) (oa' := oa) (oc' := oc) (dl' := secL b) rfl HST.out.own
      have t2 := t1.set hg 1 (.int .i64 0) (kd' := 2) (t' := 0) (oa' := oa) (oc' := oc) (dl' := secL b) rfl t1.own
      have t3 := t2.set hg 2 (.slice none 0 0) (kd' := 2) (t' := 0) (oa' := none) (oc' := 0) (dl' := []) rfl (own_nil _ _)
      have FX : Hid _ := t3
      clear t1 t2 t3
      go_wp2_with fail
      go_meet
      exact ⟨2, 0, none, 0, [], FX.out, by unfold opK1; rw [if_pos h5], by unfold opA0; rw [if_pos h5], by unfold opL1; rw [if_pos h5]⟩
    · have e5 : (k % 5 == 4) = false := by simp [h5]
      go_wp2_with fail
      go_meet
      exact ⟨1, _, oa, oc, secL b, HST.out, by unfold opK1; rw [if_neg h5], by unfold opA0; rw [if_neg h5], by unfold opL1; rw [if_neg h5]⟩
  case rest =>
  clear HST oa oc hm5
  obtain ⟨kd, t, oa, oc, dl, st, ekd, et, edl⟩ := hcut
  obtain ⟨wY, hwY⟩ : ∃ wY, wY = wc := ⟨_, rfl⟩
  subst hwY
  have HST : Hid _ := st
  have HE : Hid _ := And.intro ekd (And.intro et edl)
  clear st ekd et edl
  go_upto_if 22 with fail
  go_cut [7] (fun _ wx => ∃ kd t oa oc dl, OpSt w g ob a n c (rdP n (rdP n p)) kd t oa oc dl wx ∧ kd = opK k ∧ t = opA2 k s ∧ dl = opL k b)
  case first =>
    by_cases h235 : 235 ≤ k
    · rcases (show k % 4 = 0 ∨ k % 4 = 1 ∨ k % 4 = 2 ∨ k % 4 = 3 by omega) with h4 | h4 | h4 | h4
      · rw [h4] at hm4
        have e0 := cell_of_row _ _ 0 _ _ _ HST.out.op
        have e1 := cell_of_row _ _ 1 _ _ _ HST.out.op
        have e2 := cell_of_row _ _ 2 _ _ _ HST.out.op
        have g0 := frozen_of_row _ _ 0 _ _ HST.out.op
        have g1 := frozen_of_row _ _ 1 _ _ HST.out.op
        have g2 := frozen_of_row _ _ 2 _ _ HST.out.op
        have t1 := HST.out.set hg 0 (.int .i64 (k % 3 * 3)) (kd' := k % 3 * 3) (t' := t) (oa' := oa) (oc' := oc) (dl' := dl) rfl HST.out.own
        have FX : Hid _ := t1
        clear t1
        go_wp2_with fail
        go_meet
        exact ⟨_, _, _, _, _, FX.out, by unfold opK; rw [if_pos (by omega)], by rw [HE.out.2.1]; unfold opA2; rw [if_neg (show ¬ (235 ≤ k ∧ k % 4 = 1) by omega), if_neg (show ¬ (235 ≤ k ∧ k % 4 = 3) by omega)], by rw [HE.out.2.2]; unfold opL opL1; rw [if_neg (show ¬ (235 ≤ k ∧ k % 4 = 2) by omega)]⟩
      · rw [h4] at hm4
        have e0 := cell_of_row _ _ 0 _ _ _ HST.out.op
        have e1 := cell_of_row _ _ 1 _ _ _ HST.out.op
        have e2 := cell_of_row _ _ 2 _ _ _ HST.out.op
        have g0 := frozen_of_row _ _ 0 _ _ HST.out.op
        have g1 := frozen_of_row _ _ 1 _ _ HST.out.op
        have g2 := frozen_of_row _ _ 2 _ _ HST.out.op
        have t1 := HST.out.set hg 1 (.int .i64 (-1)) (kd' := kd) (t' := -1) (oa' := oa) (oc' := oc) (dl' := dl) rfl HST.out.own
        have FX : Hid _ := t1
        clear t1
        go_wp2_with fail
        go_meet
        exact ⟨_, _, _, _, _, FX.out, by rw [HE.out.1]; unfold opK opK1; rw [if_neg (show ¬ (235 ≤ k ∧ k % 4 = 0) by omega)], by unfold opA2; rw [if_pos (by omega)], by rw [HE.out.2.2]; unfold opL opL1; rw [if_neg (show ¬ (235 ≤ k ∧ k % 4 = 2) by omega)]⟩
      · rw [h4] at hm4
        have e0 := cell_of_row _ _ 0 _ _ _ HST.out.op
        have e1 := cell_of_row _ _ 1 _ _ _ HST.out.op
        have e2 := cell_of_row _ _ 2 _ _ _ HST.out.op
        have g0 := frozen_of_row _ _ 0 _ _ HST.out.op
        have g1 := frozen_of_row _ _ 1 _ _ HST.out.op
        have g2 := frozen_of_row _ _ 2 _ _ HST.out.op
        have qz : Below wY.heap.size wY (wY.alloc (.cells zero65 5)) := (Below.refl _ _).alloc (Nat.le_refl _) _
        have t0 := HST.out.below hg qz
        have u2 := cell_of_row _ _ 2 _ _ _ t0.op
        have ug2 := frozen_of_row _ _ 2 _ _ t0.op
        have t1 := t0.set hg 2 (.slice (some ⟨wY.heap.size, 0, none⟩) 65 65) (kd' := kd) (t' := t) (oa' := some ⟨wY.heap.size, 0, none⟩) (oc' := 65) (dl' := List.replicate 65 0) rfl (own_made65 w.heap.size wY HST.out.only.size)
        clear t0
        have FX : Hid _ := t1
        clear t1
        go_wp2_with fail
        go_meet
        exact ⟨_, _, _, _, _, FX.out, by rw [HE.out.1]; unfold opK opK1; rw [if_neg (show ¬ (235 ≤ k ∧ k % 4 = 0) by omega)], by rw [HE.out.2.1]; unfold opA2; rw [if_neg (show ¬ (235 ≤ k ∧ k % 4 = 1) by omega), if_neg (show ¬ (235 ≤ k ∧ k % 4 = 3) by omega)], by unfold opL; rw [if_pos (by omega)]⟩
      · rw [h4] at hm4
        have e0 := cell_of_row _ _ 0 _ _ _ HST.out.op
        have e1 := cell_of_row _ _ 1 _ _ _ HST.out.op
        have e2 := cell_of_row _ _ 2 _ _ _ HST.out.op
        have g0 := frozen_of_row _ _ 0 _ _ HST.out.op
        have g1 := frozen_of_row _ _ 1 _ _ HST.out.op
        have g2 := frozen_of_row _ _ 2 _ _ HST.out.op
        have t1 := HST.out.set hg 1 (.int .i64 (s : Int)) (kd' := kd) (t' := (s : Int)) (oa' := oa) (oc' := oc) (dl' := dl) rfl HST.out.own
        have FX : Hid _ := t1
        clear t1
        go_wp2_with fail
        go_meet
        exact ⟨_, _, _, _, _, FX.out, by rw [HE.out.1]; unfold opK opK1; rw [if_neg (show ¬ (235 ≤ k ∧ k % 4 = 0) by omega)], by unfold opA2; rw [if_neg (by omega), if_pos (by omega)], by rw [HE.out.2.2]; unfold opL opL1; rw [if_neg (show ¬ (235 ≤ k ∧ k % 4 = 2) by omega)]⟩
    · have h235b : k < 235 := by omega
      go_wp2_with fail
      go_meet
      exact ⟨kd, t, oa, oc, dl, HST.out, by rw [HE.out.1]; unfold opK opK1; rw [if_neg (show ¬ (235 ≤ k ∧ k % 4 = 0) by omega)], by rw [HE.out.2.1]; unfold opA2; rw [if_neg (show ¬ (235 ≤ k ∧ k % 4 = 1) by omega), if_neg (show ¬ (235 ≤ k ∧ k % 4 = 3) by omega)], by rw [HE.out.2.2]; unfold opL opL1; rw [if_neg (show ¬ (235 ≤ k ∧ k % 4 = 2) by omega)]⟩
  case rest =>
  clear HST HE oa oc kd t dl hm4 hm3 hw3 kz
  obtain ⟨kd, t, oa, oc, dl, st, ekd, et, edl⟩ := hcut
  obtain ⟨wZ, hwZ⟩ : ∃ wZ, wZ = wc := ⟨_, rfl⟩
  subst hwZ
  have HST : Hid _ := st
  have HE : Hid _ := And.intro ekd (And.intro et edl)
  clear st ekd et edl
  by_cases hqq : k % ((s : Int) + 1) = (s : Int)
  · have eqq : (k % ((s : Int) + 1) == (s : Int)) = true := by simp [hqq]
    by_cases h200 : k < 200
    · skip
      have e0 := cell_of_row _ _ 0 _ _ _ HST.out.op
      have e1 := cell_of_row _ _ 1 _ _ _ HST.out.op
      have e2 := cell_of_row _ _ 2 _ _ _ HST.out.op
      have g0 := frozen_of_row _ _ 0 _ _ HST.out.op
      have g1 := frozen_of_row _ _ 1 _ _ HST.out.op
      have g2 := frozen_of_row _ _ 2 _ _ HST.out.op
      have t1 := HST.out.set hg 1 (.int .i64 0) (kd' := kd) (t' := 0) (oa' := oa) (oc' := oc) (dl' := dl) rfl HST.out.own
      have FX : Hid _ := t1
      clear t1
      go_upto_region 16 with fail
      clear e0 e1 e2 g0 g1 g2
      generalize wZ.setCell ⟨ob, 1, none⟩ (.int .i64 0) = W6 at *
      have hR := FX.out.res
      have e0 := cell_of_row _ _ 0 _ _ _ FX.out.op
      have e1 := cell_of_row _ _ 1 _ _ _ FX.out.op
      have e2 := cell_of_row _ _ 2 _ _ _ FX.out.op
      have g0 := frozen_of_row _ _ 0 _ _ FX.out.op
      have g1 := frozen_of_row _ _ 1 _ _ FX.out.op
      have g2 := frozen_of_row _ _ 2 _ _ FX.out.op
      have l0 := cell_of_row _ _ 0 _ _ _ hR
      have l1 := cell_of_row _ _ 1 _ _ _ hR
      have l2 := cell_of_row _ _ 2 _ _ _ hR
      have f0 := frozen_of_row _ _ 0 _ _ hR
      have f1 := frozen_of_row _ _ 1 _ _ hR
      have f2 := frozen_of_row _ _ 2 _ _ hR
      have EA : opAt k s = 0 := by unfold opAt; rw [if_neg (by omega), if_neg (by omega), if_pos ⟨hqq, by omega⟩]
      have EX : Hid (opK k = kd ∧ opAt k s = 0 ∧ opL k b = dl) := ⟨HE.out.1.symm, EA, HE.out.2.2.symm⟩
      clear EA
      go_wp2
      refine bodyPost_ret (v := .agg #[.int .i64 kd, .int .i64 0, .slice oa dl.length oc]) (by simp [results, Try.results44, go_sem, l0, l1, l2]) rfl ?_
      first | exact op_fin H0.out.1 hg FX.out b0 b1 EX.out | (rw [hk, hb]; exact op_fin H0.out.1 hg FX.out b0 b1 EX.out) | (rw [← List.getD_eq_getElem?_getD, ← List.getD_eq_getElem?_getD, hk, hb]; exact op_fin H0.out.1 hg FX.out b0 b1 EX.out)
    · have h200b : 200 ≤ k := by omega
      go_upto_region 16 with fail
      have FX : Hid _ := HST.out
      have hR := FX.out.res
      have e0 := cell_of_row _ _ 0 _ _ _ FX.out.op
      have e1 := cell_of_row _ _ 1 _ _ _ FX.out.op
      have e2 := cell_of_row _ _ 2 _ _ _ FX.out.op
      have g0 := frozen_of_row _ _ 0 _ _ FX.out.op
      have g1 := frozen_of_row _ _ 1 _ _ FX.out.op
      have g2 := frozen_of_row _ _ 2 _ _ FX.out.op
      have l0 := cell_of_row _ _ 0 _ _ _ hR
      have l1 := cell_of_row _ _ 1 _ _ _ hR
      have l2 := cell_of_row _ _ 2 _ _ _ hR
      have f0 := frozen_of_row _ _ 0 _ _ hR
      have f1 := frozen_of_row _ _ 1 _ _ hR
      have f2 := frozen_of_row _ _ 2 _ _ hR
      have EA : opAt k s = t := by rw [HE.out.2.1]; exact opAt_is2 (fun h => absurd h.2 (by omega))
      have EX : Hid (opK k = kd ∧ opAt k s = t ∧ opL k b = dl) := ⟨HE.out.1.symm, EA, HE.out.2.2.symm⟩
      clear EA
      go_wp2
      refine bodyPost_ret (v := .agg #[.int .i64 kd, .int .i64 t, .slice oa dl.length oc]) (by simp [results, Try.results44, go_sem, l0, l1, l2]) rfl ?_
      first | exact op_fin H0.out.1 hg FX.out b0 b1 EX.out | (rw [hk, hb]; exact op_fin H0.out.1 hg FX.out b0 b1 EX.out) | (rw [← List.getD_eq_getElem?_getD, ← List.getD_eq_getElem?_getD, hk, hb]; exact op_fin H0.out.1 hg FX.out b0 b1 EX.out)
  · have eqq : (k % ((s : Int) + 1) == (s : Int)) = false := by simp [hqq]
    go_upto_region 16 with fail
    have FX : Hid _ := HST.out
    have hR := FX.out.res
    have e0 := cell_of_row _ _ 0 _ _ _ FX.out.op
    have e1 := cell_of_row _ _ 1 _ _ _ FX.out.op
    have e2 := cell_of_row _ _ 2 _ _ _ FX.out.op
    have g0 := frozen_of_row _ _ 0 _ _ FX.out.op
    have g1 := frozen_of_row _ _ 1 _ _ FX.out.op
    have g2 := frozen_of_row _ _ 2 _ _ FX.out.op
    have l0 := cell_of_row _ _ 0 _ _ _ hR
    have l1 := cell_of_row _ _ 1 _ _ _ hR
    have l2 := cell_of_row _ _ 2 _ _ _ hR
    have f0 := frozen_of_row _ _ 0 _ _ hR
    have f1 := frozen_of_row _ _ 1 _ _ hR
    have f2 := frozen_of_row _ _ 2 _ _ hR
    have EA : opAt k s = t := by rw [HE.out.2.1]; exact opAt_is2 (fun h => hqq h.1)
    have EX : Hid (opK k = kd ∧ opAt k s = t ∧ opL k b = dl) := ⟨HE.out.1.symm, EA, HE.out.2.2.symm⟩
    clear EA
    go_wp2
    refine bodyPost_ret (v := .agg #[.int .i64 kd, .int .i64 t, .slice oa dl.length oc]) (by simp [results, Try.results44, go_sem, l0, l1, l2]) rfl ?_
    first | exact op_fin H0.out.1 hg FX.out b0 b1 EX.out | (rw [hk, hb]; exact op_fin H0.out.1 hg FX.out b0 b1 EX.out) | (rw [← List.getD_eq_getElem?_getD, ← List.getD_eq_getElem?_getD, hk, hb]; exact op_fin H0.out.1 hg FX.out b0 b1 EX.out)
end Go.Proofs.Ytamifpbhmecloaa

