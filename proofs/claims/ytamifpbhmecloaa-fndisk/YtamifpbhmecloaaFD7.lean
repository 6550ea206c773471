import Derived.Test.YtamifpbhmecloaaFD6
import Derived.Test.YtamifpbhmecloaaFD1
/- A region that draws its order: what waits for an operation by a chain of others waits for it too. -/
namespace Go.Proofs.Ytamifpbhmecloaa
open Go
set_option linter.unusedVariables false

section
variable {P : Program} {ops : Array Oper} {Q : Exit → Act → World → Prop} {md : Region.Mode} {S : World → Prop} {D : Nat → Bool}

theorem wpAnyD_firstT {i : Nat} {oi : Oper} {v : Value} (bl : Nat → Bool) (hi : ops[i]? = some oi) (hsel : ∀ (j : Nat) (o : Oper) cs b, ops[j]? = some o → o.op ≠ .select cs b)
    (hQ : ∀ c a w, Q (.panic c) (a.put oi.dst v) w → Q (.panic c) a w)
    (hD : ∀ j oj, ops[j]? = some oj → D j = true → bl j = true)
    (hB : ∀ j oj, ops[j]? = some oj → bl j = true → ∃ e ∈ oj.after, Region.binds md e = true ∧ (e.on = i ∨ bl e.on = true)) :
    ∀ (fuel : Nat) (listed : Array Bool) (a : Act) (w : World), (∀ j, bl j = true → listed.getD j true = false) →
      (∀ j oj, ops[j]? = some oj → j ≠ i → listed.getD j true = false → (∀ e ∈ oj.after, Region.binds md e = true → e.on ≠ i) → oi.apart ops oj = true) →
      i ∈ Region.ready md ops listed → YieldsIf P ops S oi v a → S w →
      wpAnyD P md ops Q S D fuel (listed.setIfInBounds i true) (a.put oi.dst v) w → wpAnyD P md ops Q S D (fuel + 1) listed a w := by
  intro fuel
  induction fuel with
  | zero =>
    intro listed a w _ _ hr hy hS H
    refine ⟨fun h => (by rw [h] at hr; cases hr), fun j hj => ?_⟩
    by_cases hji : j = i
    · subst hji; exact hy.wpOp hi hS ⟨fun _ => hS, H⟩
    · have := ready_mono hj hji
      rw [H.1] at this
      cases this
  | succ fuel ih =>
    intro listed a w hun hfree hr hy hS H
    refine ⟨fun h => (by rw [h] at hr; cases hr), fun j hj => ?_⟩
    by_cases hji : j = i
    · subst hji; exact hy.wpOp hi hS ⟨fun _ => hS, H⟩
    · have h1 := H.2 j (ready_mono hj hji)
      obtain ⟨hjun, oj, hoj, hall⟩ := mem_ready.1 hj
      have hlisted : ∀ e ∈ oj.after, Region.binds md e = true → listed.getD e.on true ≠ false := fun e he hb h0 => by
        have h1 := hall e he hb
        rcases Nat.lt_or_ge e.on listed.size with h' | h'
        · simp [h'] at h0 h1; rw [h0] at h1; cases h1
        · simp [Array.getElem?_eq_none h'] at h1
      have hnot : ∀ e ∈ oj.after, Region.binds md e = true → e.on ≠ i := fun e he hb heq => by
        have h1 := hall e he hb
        have h0 := (mem_ready.1 hr).1
        rw [heq] at h1
        rcases Nat.lt_or_ge i listed.size with h' | h'
        · simp [h'] at h0 h1; rw [h0] at h1; cases h1
        · simp [Array.getElem?_eq_none h'] at h1
      have hbj : bl j = false := by
        cases hd : bl j with
        | false => rfl
        | true =>
          obtain ⟨e, he, hb, hon⟩ := hB j oj hoj hd
          rcases hon with hon | hon
          · exact absurd hon (hnot e he hb)
          · exact absurd (hun _ hon) (hlisted e he hb)
      have hDj : D j = false := by
        cases hd : D j with
        | false => rfl
        | true => rw [hD j oj hoj hd] at hbj; cases hbj
      have h2 := wpOp_putIf hoj (hfree j oj hoj hji hjun hnot) (fun cs b => hsel i oi cs b hi) (fun cs b => hsel j oj cs b hoj) hQ hy h1
      have hun' : ∀ k, bl k = true → (listed.setIfInBounds j true).getD k true = false := fun k hk => by
        have hjk : j ≠ k := fun e => by rw [e, hk] at hbj; cases hbj
        rw [getD_set_ne true hjk]
        exact hun k hk
      have hfree' : ∀ k ok, ops[k]? = some ok → k ≠ i → (listed.setIfInBounds j true).getD k true = false →
          (∀ e ∈ ok.after, Region.binds md e = true → e.on ≠ i) → oi.apart ops ok = true := fun k ok hk hki hun hno => by
        refine hfree k ok hk hki ?_ hno
        by_cases hjk : j = k
        · subst hjk; exact hjun
        · rw [getD_set_ne true hjk] at hun; exact hun
      refine wpOp_mono (fun a' w' h3 => ⟨h3.2.1, ih (listed.setIfInBounds j true) a' w' hun' hfree' (ready_mono hr (Ne.symm hji)) h3.1 (h3.2.1 hDj) ?_⟩) h2
      rw [Array.setIfInBounds_comm _ _ hji]
      exact h3.2.2

/-- What waits for number i, by a chain. -/
def chainL (md : Region.Mode) (ops : Array Oper) (i : Nat) : List Bool :=
  (List.range ops.size).foldl (fun acc j => acc ++ [match ops[j]? with | none => false | some o => o.after.any fun e => Region.binds md e && (e.on == i || acc.getD e.on false)]) []
def chainB (md : Region.Mode) (ops : Array Oper) (i j : Nat) : Bool := decide (j < ops.size) && (chainL md ops i).getD j false
def waitsT (md : Region.Mode) (ops : Array Oper) (D : Nat → Bool) (listed : Array Bool) (i : Nat) : Bool :=
  (List.range ops.size).all fun j => (!(D j) || chainB md ops i j) && (!(chainB md ops i j) || (!(listed.getD j true) && match ops[j]? with | none => false | some o => o.after.any fun e => Region.binds md e && (e.on == i || chainB md ops i e.on)))
theorem wpAnyD_takeT (i d : Nat) {oi : Oper} {v : Value} {fuel : Nat} {listed : Array Bool} {a : Act} {w : World} (hi : ops[i]? = some oi) (hd : oi.dst = some d)
    (hs : Region.noSelect ops = true) (hf : Region.free md ops listed i = true) (hr : (Region.ready md ops listed).contains i = true) (hw : waitsT md ops D listed i = true)
    (hQ : ∀ c a w, Q (.panic c) (a.put oi.dst v) w → Q (.panic c) a w) (hy : YieldsIf P ops S oi v a) (hS : S w)
    (h : wpAnyD P md ops Q S D fuel (listed.setIfInBounds i true) (a.put (some d) v) w) : wpAnyD P md ops Q S D (fuel + 1) listed a w := by
  have hall : ∀ j, j < ops.size → (D j = true → chainB md ops i j = true) ∧ (chainB md ops i j = true → listed.getD j true = false ∧ ∀ o, ops[j]? = some o → ∃ e ∈ o.after, Region.binds md e = true ∧ (e.on = i ∨ chainB md ops i e.on = true)) := fun j hj => by
    have h1 := List.all_eq_true.1 hw j (List.mem_range.2 hj)
    simp only [Bool.and_eq_true, Bool.or_eq_true, Bool.not_eq_true'] at h1
    refine ⟨fun hd => ?_, fun hc => ?_⟩
    · rcases h1.1 with h2 | h2
      · rw [hd] at h2; cases h2
      · exact h2
    · rcases h1.2 with h2 | h2
      · rw [hc] at h2; cases h2
      · refine ⟨h2.1, fun o ho => ?_⟩
        have h3 := h2.2
        rw [ho] at h3
        simp only [Array.any_eq_true', Bool.and_eq_true, Bool.or_eq_true, beq_iff_eq] at h3
        exact h3
  have hin : ∀ j, chainB md ops i j = true → j < ops.size := fun j h => by
    unfold chainB at h
    simp only [Bool.and_eq_true, decide_eq_true_eq] at h
    exact h.1
  refine wpAnyD_firstT (chainB md ops i) hi (Region.noSelect_spec hs) hQ (fun j oj hj hdj => (hall j (Array.getElem?_eq_some_iff.1 hj).1).1 hdj)
    (fun j oj hj hb => ((hall j (Array.getElem?_eq_some_iff.1 hj).1).2 hb).2 oj hj) fuel listed a w (fun j hb => ((hall j (hin j hb)).2 hb).1) (Region.free_spec hi hf) (by simpa using hr) hy hS ?_
  rw [hd]
  exact h
end
end Go.Proofs.Ytamifpbhmecloaa

/- Each sector holds what was safe, or one of its pending writes. -/
namespace Go.Proofs.Ytamifpbhmecloaa
open Go.RowKit
set_option linter.unusedVariables false

set_option maxRecDepth 100000 in
set_option maxHeartbeats 4000000 in
theorem lwSettled_calls (d d' : DV) (K K' : DK) (w : World) (h : RDisk w d K) (h' : RDisk w d' K') (hn : K.n ≤ 1048576) (hm : K.m ≤ 1048576) (hn' : K'.n = K.n) (hm' : K'.m = 0) (hq : ∀ i, i < K.n → K'.S i = K.S i ∨ ∃ q, q < K.m ∧ K.At q = (i : Int) ∧ K.D q = K'.S i) :
    Calls Try.prog 19 #[dval d K, dval d' K'] w fun e w' => e = .returned (.bool true) ∧ Below w.heap.size w w' := by
  have q0 := below_alloc2 w (.cells #[.slice d.sa K.n d.sc, .slice d.pa K.m d.pc] 26) (.cells #[.slice d'.sa K.n d'.sc, .slice d'.pa 0 d'.pc] 26)
  have y0 : ((w.alloc (.cells #[.slice d.sa K.n d.sc, .slice d.pa K.m d.pc] 26)).alloc (.cells #[.slice d'.sa K.n d'.sc, .slice d'.pa 0 d'.pc] 26)).heap[w.heap.size]? = some (.cells #[.slice d.sa K.n d.sc, .slice d.pa K.m d.pc] 26 (0, 0)) := by
    rw [Below.heap_alloc _ _ _ (by simp)]; exact heap_alloc_new w _
  have y1 : ((w.alloc (.cells #[.slice d.sa K.n d.sc, .slice d.pa K.m d.pc] 26)).alloc (.cells #[.slice d'.sa K.n d'.sc, .slice d'.pa 0 d'.pc] 26)).heap[w.heap.size + 1]? = some (.cells #[.slice d'.sa K.n d'.sc, .slice d'.pa 0 d'.pc] 26 (0, 0)) := by
    have := heap_alloc_new (w.alloc (.cells #[.slice d.sa K.n d.sc, .slice d.pa K.m d.pc] 26)) (.cells #[.slice d'.sa K.n d'.sc, .slice d'.pa 0 d'.pc] 26)
    rw [World.size_alloc] at this
    exact this
  have zW : ((w.alloc (.cells #[.slice d.sa K.n d.sc, .slice d.pa K.m d.pc] 26)).alloc (.cells #[.slice d'.sa K.n d'.sc, .slice d'.pa 0 d'.pc] 26)).heap.size = w.heap.size + 1 + 1 := by simp
  have r0 := h.below q0
  have r1 := h'.safe.below q0
  rw [hn'] at r1
  have Q0 : Hid _ := q0
  have HQ : Hid _ := hq
  clear q0 h h' hq
  unfold dval
  rw [hn', hm']
  go_enter Try.func19, Try.ntmps19
  go_wp2
  generalize hW : (w.alloc (.cells #[.slice d.sa K.n d.sc, .slice d.pa K.m d.pc] 26)).alloc (.cells #[.slice d'.sa K.n d'.sc, .slice d'.pa 0 d'.pc] 26) = W at *
  clear hW
  have KEY : Hid (∀ v : World, Below W.heap.size W v → v.cell? ⟨w.heap.size, 0, none⟩ = some (.slice d.sa K.n d.sc) ∧ v.cell? ⟨w.heap.size, 1, none⟩ = some (.slice d.pa K.m d.pc) ∧ v.cell? ⟨w.heap.size + 1, 0, none⟩ = some (.slice d'.sa K.n d'.sc) ∧ v.cell? ⟨w.heap.size + 1, 1, none⟩ = some (.slice d'.pa 0 d'.pc) ∧ RDisk v d K ∧ RRecs 0 v d'.sa K.n d'.sc zI d'.sA d'.sN d'.sC K'.S) := fun v hv => by
    have u0 := (hv.block w.heap.size (by omega)).trans y0
    have u1 := (hv.block (w.heap.size + 1) (by omega)).trans y1
    exact ⟨cell_of_row _ _ 0 _ _ _ u0, cell_of_row _ _ 1 _ _ _ u0, cell_of_row _ _ 0 _ _ _ u1, cell_of_row _ _ 1 _ _ _ u1, r0.below hv, r1.below hv⟩
  clear y0 y1 r0 r1
  go_loopw [5, 6, 7] (fun i _ _ wr => ∃ j : Nat, j ≤ K.n ∧ i = .int .i64 j ∧ Below W.heap.size W wr) (fun i _ _ _ => K.n - (intOf i).toNat)
  case atStart => exact ⟨0, Nat.zero_le _, rfl, Below.refl _ _⟩
  case round =>
    obtain ⟨j, hj, rfl, hb⟩ := hrel
    obtain ⟨c0, c1, e0, e1, rd, rd'⟩ := KEY.out wr hb
    by_cases hlt : j < K.n
    · have dr : Below wr.heap.size wr wr.drew := ⟨rfl, rfl, rfl, Nat.le_refl _, fun _ _ => rfl⟩
      have hbd := hb.trans (dr.mono hb.size)
      obtain ⟨m0, _, m1, _, rdd, rdd'⟩ := KEY.out wr.drew hbd
      obtain ⟨b, off, ha, _, hc⟩ := rdd.safe.at_ (by omega)
      obtain ⟨b', off', ha', _, hc'⟩ := rdd'.at_ (by omega)
      have k0 : wr.drew.cell? ⟨b, off + j, none⟩ = some (.slice (d.sA j) (d.sN j) (d.sC j)) := by have := (hc j hlt).2; simpa using this
      have k1 : wr.drew.cell? ⟨b', off' + j, none⟩ = some (.slice (d'.sA j) (d'.sN j) (d'.sC j)) := by have := (hc' j hlt).2; simpa using this
      have v0 := conv_bsD (rdd.safe.data j hlt)
      have v1 := conv_bsD (rdd'.data j hlt)
      have HX : Hid (K'.S j = K.S j → ((strOfNums (K'.S j)).toList == (strOfNums (K.S j)).toList) = true) := fun e => by rw [e]; simp
      rw [ha] at m0 c0
      rw [ha'] at m1 e0
      have hi1 : (0 : Int) ≤ (j : Int) := by omega
      have hi2 : (j : Int) < (K.n : Int) := by omega
      have HB : Hid _ := hbd
      clear hc hc' rd rd' rdd rdd' hb hbd dr ha ha'
      generalize strOfNums (K'.S j) = X at *
      generalize strOfNums (K.S j) = Y at *
      go_wp2_with fail
      refine wp_regionD (fun v => v = wr.drew) (fun k => decide (13 ≤ k)) (by kernel_rfl) ?_
      generalize wr.drew = WD at *
      refine wpAnyD_takeT 0 15 (v := ?vva0) rfl rfl (by kernel_rfl) (by kernel_rfl) (by kernel_rfl) (by kernel_rfl) (fun _ _ _ h => h) (Or.inl ⟨by rfl, ?hya0⟩) rfl ?resta0
      case hya0 => (intro w hSw; (try dsimp only at hSw); rw [hSw]; go_simp; try with_reducible rfl)
      simp only [Act.put, List.setIfInBounds_toArray, List.set_cons_zero, List.set_cons_succ]
      refine wpAnyD_takeT 1 16 (v := ?vva1) rfl rfl (by kernel_rfl) (by kernel_rfl) (by kernel_rfl) (by kernel_rfl) (fun _ _ _ h => h) (Or.inl ⟨by rfl, ?hya1⟩) rfl ?resta1
      case hya1 => (intro w hSw; (try dsimp only at hSw); rw [hSw]; go_simp; try with_reducible rfl)
      simp only [Act.put, List.setIfInBounds_toArray, List.set_cons_zero, List.set_cons_succ]
      refine wpAnyD_takeT 2 17 (v := ?vva2) rfl rfl (by kernel_rfl) (by kernel_rfl) (by kernel_rfl) (by kernel_rfl) (fun _ _ _ h => h) (Or.inl ⟨by rfl, ?hya2⟩) rfl ?resta2
      case hya2 => (intro w hSw; (try dsimp only at hSw); rw [hSw]; go_simp; try with_reducible rfl)
      simp only [Act.put, List.setIfInBounds_toArray, List.set_cons_zero, List.set_cons_succ]
      refine wpAnyD_takeT 3 18 (v := ?vva3) rfl rfl (by kernel_rfl) (by kernel_rfl) (by kernel_rfl) (by kernel_rfl) (fun _ _ _ h => h) (Or.inl ⟨by rfl, ?hya3⟩) rfl ?resta3
      case hya3 => (intro w hSw; (try dsimp only at hSw); rw [hSw]; go_simp; try with_reducible rfl)
      simp only [Act.put, List.setIfInBounds_toArray, List.set_cons_zero, List.set_cons_succ]
      refine wpAnyD_takeT 4 19 (v := ?vva4) rfl rfl (by kernel_rfl) (by kernel_rfl) (by kernel_rfl) (by kernel_rfl) (fun _ _ _ h => h) (Or.inl ⟨by rfl, ?hya4⟩) rfl ?resta4
      case hya4 => (intro w hSw; (try dsimp only at hSw); rw [hSw]; go_simp; try with_reducible rfl)
      simp only [Act.put, List.setIfInBounds_toArray, List.set_cons_zero, List.set_cons_succ]
      refine wpAnyD_takeT 5 20 (v := ?vva5) rfl rfl (by kernel_rfl) (by kernel_rfl) (by kernel_rfl) (by kernel_rfl) (fun _ _ _ h => h) (Or.inl ⟨by rfl, ?hya5⟩) rfl ?resta5
      case hya5 => (intro w hSw; (try dsimp only at hSw); rw [hSw]; go_simp; try with_reducible rfl)
      simp only [Act.put, List.setIfInBounds_toArray, List.set_cons_zero, List.set_cons_succ]
      refine wpAnyD_takeT 6 21 (v := ?vva6) rfl rfl (by kernel_rfl) (by kernel_rfl) (by kernel_rfl) (by kernel_rfl) (fun _ _ _ h => h) (Or.inl ⟨by rfl, ?hya6⟩) rfl ?resta6
      case hya6 => (intro w hSw; (try dsimp only at hSw); rw [hSw]; go_simp; try with_reducible rfl)
      simp only [Act.put, List.setIfInBounds_toArray, List.set_cons_zero, List.set_cons_succ]
      refine wpAnyD_takeT 7 22 (v := ?vva7) rfl rfl (by kernel_rfl) (by kernel_rfl) (by kernel_rfl) (by kernel_rfl) (fun _ _ _ h => h) (Or.inl ⟨by rfl, ?hya7⟩) rfl ?resta7
      case hya7 => (intro w hSw; (try dsimp only at hSw); rw [hSw]; go_simp; try with_reducible rfl)
      simp only [Act.put, List.setIfInBounds_toArray, List.set_cons_zero, List.set_cons_succ]
      refine wpAnyD_takeT 8 23 (v := ?vva8) rfl rfl (by kernel_rfl) (by kernel_rfl) (by kernel_rfl) (by kernel_rfl) (fun _ _ _ h => h) (Or.inl ⟨by rfl, ?hya8⟩) rfl ?resta8
      case hya8 => (intro w hSw; (try dsimp only at hSw); rw [hSw]; go_simp; try with_reducible rfl)
      simp only [Act.put, List.setIfInBounds_toArray, List.set_cons_zero, List.set_cons_succ]
      refine wpAnyD_takeT 9 24 (v := ?vva9) rfl rfl (by kernel_rfl) (by kernel_rfl) (by kernel_rfl) (by kernel_rfl) (fun _ _ _ h => h) (Or.inl ⟨by rfl, ?hya9⟩) rfl ?resta9
      case hya9 => (intro w hSw; (try dsimp only at hSw); rw [hSw]; go_simp; try with_reducible rfl)
      simp only [Act.put, List.setIfInBounds_toArray, List.set_cons_zero, List.set_cons_succ]
      refine wpAnyD_takeT 10 25 (v := ?vva10) rfl rfl (by kernel_rfl) (by kernel_rfl) (by kernel_rfl) (by kernel_rfl) (fun _ _ _ h => h) (Or.inl ⟨by rfl, ?hya10⟩) rfl ?resta10
      case hya10 => (intro w hSw; (try dsimp only at hSw); rw [hSw]; go_simp; try with_reducible rfl)
      simp only [Act.put, List.setIfInBounds_toArray, List.set_cons_zero, List.set_cons_succ]
      refine wpAnyD_takeT 11 26 (v := ?vva11) rfl rfl (by kernel_rfl) (by kernel_rfl) (by kernel_rfl) (by kernel_rfl) (fun _ _ _ h => h) (Or.inl ⟨by rfl, ?hya11⟩) rfl ?resta11
      case hya11 => (intro w hSw; (try dsimp only at hSw); rw [hSw]; go_simp; try with_reducible rfl)
      simp only [Act.put, List.setIfInBounds_toArray, List.set_cons_zero, List.set_cons_succ]
      refine wpAnyD_takeT 12 27 (v := ?vva12) rfl rfl (by kernel_rfl) (by kernel_rfl) (by kernel_rfl) (by kernel_rfl) (fun _ _ _ h => h) (Or.inl ⟨by rfl, ?hya12⟩) rfl ?resta12
      case hya12 => (intro w hSw; (try dsimp only at hSw); rw [hSw]; go_simp; try with_reducible rfl)
      simp only [Act.put, List.setIfInBounds_toArray, List.set_cons_zero, List.set_cons_succ]
      refine wpAnyD_one 13 (by kernel_rfl) rfl (fun KK hK => ?_)
      rw [if_pos (show Region.wanted _ _ = true from rfl)]
      go_wp2_with fail
      refine hK.out _ _ (fun h => absurd h (by decide)) ?_
      clear hK KK
      refine wpAnyD_done (by kernel_rfl) ?_ _
      clear k0 k1 v0 v1 m0 m1 c0 c1 e0 e1
      have HF0 : Hid (K'.S j = K.S j → (X.toList == Y.toList) = true) := HX.out
      go_wp2
      go_loopw [6, 7] (fun f i wq => ∃ (t : Nat) (fb : Bool), t ≤ K.m ∧ i = .int .i64 t ∧ f = .bool fb ∧ (K'.S j = K.S j → fb = true) ∧ (∀ q, q < t → K.At q = (j : Int) → K.D q = K'.S j → fb = true) ∧ Below W.heap.size W wq) (fun _ i _ => K.m - (intOf i).toNat)
      case atStart => exact ⟨0, _, Nat.zero_le _, rfl, rfl, HX.out, fun q hq => absurd hq (Nat.not_lt_zero _), HB.out⟩
      case round =>
        obtain ⟨t, fb, ht, rfl, rfl, hf1, hf2, hb2⟩ := hrel
        obtain ⟨wq, hwq⟩ : ∃ wq, wq = wr := ⟨_, rfl⟩
        subst hwq
        obtain ⟨p0, p1, p2, p3, rd2, rd2'⟩ := KEY.out wq hb2
        by_cases htl : t < K.m
        · have dr2 : Below wq.heap.size wq wq.drew := ⟨rfl, rfl, rfl, Nat.le_refl _, fun _ _ => rfl⟩
          have hbd2 := hb2.trans (dr2.mono hb2.size)
          obtain ⟨_, m1, m2, _, rde, rde'⟩ := KEY.out wq.drew hbd2
          obtain ⟨b2, off2, ha2, _, hc2⟩ := rde.pend.at_ (by omega)
          obtain ⟨b3, off3, ha3, _, hc3⟩ := rde'.at_ (by omega)
          have n0 : wq.drew.cell? ⟨b2, off2 + t * 2, none⟩ = some (.int .i64 (K.At t)) := by have := (hc2 t htl).1 0 (by omega); exact this
          have n1 : wq.drew.cell? ⟨b2, off2 + t * 2 + 1, none⟩ = some (.slice (d.pA t) (d.pN t) (d.pC t)) := (hc2 t htl).2
          have n2 : wq.drew.cell? ⟨b3, off3 + j, none⟩ = some (.slice (d'.sA j) (d'.sN j) (d'.sC j)) := by have := (hc3 j hlt).2; simpa using this
          have v0 := conv_bsD (rde.pend.data t htl)
          have v1 := conv_bsD (rde'.data j hlt)
          have HZ : Hid (K.D t = K'.S j → ((strOfNums (K.D t)).toList == (strOfNums (K'.S j)).toList) = true) := fun e => by rw [e]; simp
          rw [ha2] at m1 p1
          rw [ha3] at m2 p2
          have hj1 : (0 : Int) ≤ (t : Int) := by omega
          have hj2 : (t : Int) < (K.m : Int) := by omega
          have HB2 : Hid _ := hbd2
          have HF : Hid _ := And.intro hf1 hf2
          clear hc2 hc3 rd2 rd2' rde rde' hb2 hbd2 dr2 ha2 ha3 hf1 hf2
          generalize strOfNums (K'.S j) = X2 at *
          generalize strOfNums (K.D t) = Y2 at *
          generalize hAt : K.At t = at_ at *
          cases fb with
          | true =>
            go_wp2_with fail
            refine wp_regionD (fun v => v = wq.drew) (fun k => decide (27 ≤ k)) (by kernel_rfl) ?_
            generalize wq.drew = WE at *
            refine wpAnyD_takeT 0 35 (v := ?vvb0) rfl rfl (by kernel_rfl) (by kernel_rfl) (by kernel_rfl) (by kernel_rfl) (fun _ _ _ h => h) (Or.inl ⟨by rfl, ?hyb0⟩) rfl ?restb0
            case hyb0 => (intro w hSw; (try dsimp only at hSw); rw [hSw]; go_simp; try with_reducible rfl)
            simp only [Act.put, List.setIfInBounds_toArray, List.set_cons_zero, List.set_cons_succ]
            refine wpAnyD_takeT 1 36 (v := ?vvb1) rfl rfl (by kernel_rfl) (by kernel_rfl) (by kernel_rfl) (by kernel_rfl) (fun _ _ _ h => h) (Or.inl ⟨by rfl, ?hyb1⟩) rfl ?restb1
            case hyb1 => (intro w hSw; (try dsimp only at hSw); rw [hSw]; go_simp; try with_reducible rfl)
            simp only [Act.put, List.setIfInBounds_toArray, List.set_cons_zero, List.set_cons_succ]
            refine wpAnyD_takeT 2 37 (v := undef) rfl rfl (by kernel_rfl) (by kernel_rfl) (by kernel_rfl) (by kernel_rfl) (fun _ _ _ h => h) (Or.inr ⟨by rfl, rfl⟩) rfl ?_
            simp only [Act.put, List.setIfInBounds_toArray, List.set_cons_zero, List.set_cons_succ]
            refine wpAnyD_takeT 3 38 (v := undef) rfl rfl (by kernel_rfl) (by kernel_rfl) (by kernel_rfl) (by kernel_rfl) (fun _ _ _ h => h) (Or.inr ⟨by rfl, rfl⟩) rfl ?_
            simp only [Act.put, List.setIfInBounds_toArray, List.set_cons_zero, List.set_cons_succ]
            refine wpAnyD_takeT 4 39 (v := undef) rfl rfl (by kernel_rfl) (by kernel_rfl) (by kernel_rfl) (by kernel_rfl) (fun _ _ _ h => h) (Or.inr ⟨by rfl, rfl⟩) rfl ?_
            simp only [Act.put, List.setIfInBounds_toArray, List.set_cons_zero, List.set_cons_succ]
            refine wpAnyD_takeT 5 40 (v := undef) rfl rfl (by kernel_rfl) (by kernel_rfl) (by kernel_rfl) (by kernel_rfl) (fun _ _ _ h => h) (Or.inr ⟨by rfl, rfl⟩) rfl ?_
            simp only [Act.put, List.setIfInBounds_toArray, List.set_cons_zero, List.set_cons_succ]
            refine wpAnyD_takeT 6 41 (v := undef) rfl rfl (by kernel_rfl) (by kernel_rfl) (by kernel_rfl) (by kernel_rfl) (fun _ _ _ h => h) (Or.inr ⟨by rfl, rfl⟩) rfl ?_
            simp only [Act.put, List.setIfInBounds_toArray, List.set_cons_zero, List.set_cons_succ]
            refine wpAnyD_takeT 7 42 (v := undef) rfl rfl (by kernel_rfl) (by kernel_rfl) (by kernel_rfl) (by kernel_rfl) (fun _ _ _ h => h) (Or.inr ⟨by rfl, rfl⟩) rfl ?_
            simp only [Act.put, List.setIfInBounds_toArray, List.set_cons_zero, List.set_cons_succ]
            refine wpAnyD_takeT 8 43 (v := undef) rfl rfl (by kernel_rfl) (by kernel_rfl) (by kernel_rfl) (by kernel_rfl) (fun _ _ _ h => h) (Or.inr ⟨by rfl, rfl⟩) rfl ?_
            simp only [Act.put, List.setIfInBounds_toArray, List.set_cons_zero, List.set_cons_succ]
            refine wpAnyD_takeT 9 44 (v := undef) rfl rfl (by kernel_rfl) (by kernel_rfl) (by kernel_rfl) (by kernel_rfl) (fun _ _ _ h => h) (Or.inr ⟨by rfl, rfl⟩) rfl ?_
            simp only [Act.put, List.setIfInBounds_toArray, List.set_cons_zero, List.set_cons_succ]
            refine wpAnyD_takeT 10 45 (v := undef) rfl rfl (by kernel_rfl) (by kernel_rfl) (by kernel_rfl) (by kernel_rfl) (fun _ _ _ h => h) (Or.inr ⟨by rfl, rfl⟩) rfl ?_
            simp only [Act.put, List.setIfInBounds_toArray, List.set_cons_zero, List.set_cons_succ]
            refine wpAnyD_takeT 11 46 (v := undef) rfl rfl (by kernel_rfl) (by kernel_rfl) (by kernel_rfl) (by kernel_rfl) (fun _ _ _ h => h) (Or.inr ⟨by rfl, rfl⟩) rfl ?_
            simp only [Act.put, List.setIfInBounds_toArray, List.set_cons_zero, List.set_cons_succ]
            refine wpAnyD_takeT 12 47 (v := undef) rfl rfl (by kernel_rfl) (by kernel_rfl) (by kernel_rfl) (by kernel_rfl) (fun _ _ _ h => h) (Or.inr ⟨by rfl, rfl⟩) rfl ?_
            simp only [Act.put, List.setIfInBounds_toArray, List.set_cons_zero, List.set_cons_succ]
            refine wpAnyD_takeT 13 48 (v := undef) rfl rfl (by kernel_rfl) (by kernel_rfl) (by kernel_rfl) (by kernel_rfl) (fun _ _ _ h => h) (Or.inr ⟨by rfl, rfl⟩) rfl ?_
            simp only [Act.put, List.setIfInBounds_toArray, List.set_cons_zero, List.set_cons_succ]
            refine wpAnyD_takeT 14 49 (v := undef) rfl rfl (by kernel_rfl) (by kernel_rfl) (by kernel_rfl) (by kernel_rfl) (fun _ _ _ h => h) (Or.inr ⟨by rfl, rfl⟩) rfl ?_
            simp only [Act.put, List.setIfInBounds_toArray, List.set_cons_zero, List.set_cons_succ]
            refine wpAnyD_takeT 15 50 (v := undef) rfl rfl (by kernel_rfl) (by kernel_rfl) (by kernel_rfl) (by kernel_rfl) (fun _ _ _ h => h) (Or.inr ⟨by rfl, rfl⟩) rfl ?_
            simp only [Act.put, List.setIfInBounds_toArray, List.set_cons_zero, List.set_cons_succ]
            refine wpAnyD_takeT 16 51 (v := undef) rfl rfl (by kernel_rfl) (by kernel_rfl) (by kernel_rfl) (by kernel_rfl) (fun _ _ _ h => h) (Or.inr ⟨by rfl, rfl⟩) rfl ?_
            simp only [Act.put, List.setIfInBounds_toArray, List.set_cons_zero, List.set_cons_succ]
            refine wpAnyD_takeT 17 52 (v := undef) rfl rfl (by kernel_rfl) (by kernel_rfl) (by kernel_rfl) (by kernel_rfl) (fun _ _ _ h => h) (Or.inr ⟨by rfl, rfl⟩) rfl ?_
            simp only [Act.put, List.setIfInBounds_toArray, List.set_cons_zero, List.set_cons_succ]
            refine wpAnyD_takeT 18 53 (v := undef) rfl rfl (by kernel_rfl) (by kernel_rfl) (by kernel_rfl) (by kernel_rfl) (fun _ _ _ h => h) (Or.inr ⟨by rfl, rfl⟩) rfl ?_
            simp only [Act.put, List.setIfInBounds_toArray, List.set_cons_zero, List.set_cons_succ]
            refine wpAnyD_takeT 19 54 (v := undef) rfl rfl (by kernel_rfl) (by kernel_rfl) (by kernel_rfl) (by kernel_rfl) (fun _ _ _ h => h) (Or.inr ⟨by rfl, rfl⟩) rfl ?_
            simp only [Act.put, List.setIfInBounds_toArray, List.set_cons_zero, List.set_cons_succ]
            refine wpAnyD_takeT 20 55 (v := undef) rfl rfl (by kernel_rfl) (by kernel_rfl) (by kernel_rfl) (by kernel_rfl) (fun _ _ _ h => h) (Or.inr ⟨by rfl, rfl⟩) rfl ?_
            simp only [Act.put, List.setIfInBounds_toArray, List.set_cons_zero, List.set_cons_succ]
            refine wpAnyD_takeT 21 56 (v := undef) rfl rfl (by kernel_rfl) (by kernel_rfl) (by kernel_rfl) (by kernel_rfl) (fun _ _ _ h => h) (Or.inr ⟨by rfl, rfl⟩) rfl ?_
            simp only [Act.put, List.setIfInBounds_toArray, List.set_cons_zero, List.set_cons_succ]
            refine wpAnyD_takeT 22 57 (v := undef) rfl rfl (by kernel_rfl) (by kernel_rfl) (by kernel_rfl) (by kernel_rfl) (fun _ _ _ h => h) (Or.inr ⟨by rfl, rfl⟩) rfl ?_
            simp only [Act.put, List.setIfInBounds_toArray, List.set_cons_zero, List.set_cons_succ]
            refine wpAnyD_takeT 23 58 (v := undef) rfl rfl (by kernel_rfl) (by kernel_rfl) (by kernel_rfl) (by kernel_rfl) (fun _ _ _ h => h) (Or.inr ⟨by rfl, rfl⟩) rfl ?_
            simp only [Act.put, List.setIfInBounds_toArray, List.set_cons_zero, List.set_cons_succ]
            refine wpAnyD_takeT 24 59 (v := undef) rfl rfl (by kernel_rfl) (by kernel_rfl) (by kernel_rfl) (by kernel_rfl) (fun _ _ _ h => h) (Or.inr ⟨by rfl, rfl⟩) rfl ?_
            simp only [Act.put, List.setIfInBounds_toArray, List.set_cons_zero, List.set_cons_succ]
            refine wpAnyD_takeT 25 60 (v := undef) rfl rfl (by kernel_rfl) (by kernel_rfl) (by kernel_rfl) (by kernel_rfl) (fun _ _ _ h => h) (Or.inr ⟨by rfl, rfl⟩) rfl ?_
            simp only [Act.put, List.setIfInBounds_toArray, List.set_cons_zero, List.set_cons_succ]
            refine wpAnyD_takeT 26 61 (v := ?vvc26) rfl rfl (by kernel_rfl) (by kernel_rfl) (by kernel_rfl) (by kernel_rfl) (fun _ _ _ h => h) (Or.inl ⟨by rfl, ?hyc26⟩) rfl ?restc26
            case hyc26 => (intro w hSw; (try dsimp only at hSw); rw [hSw]; go_simp; try with_reducible rfl)
            simp only [Act.put, List.setIfInBounds_toArray, List.set_cons_zero, List.set_cons_succ]
            refine wpAnyD_one 27 (by kernel_rfl) rfl (fun KK hK => ?_)
            rw [if_pos (show Region.wanted _ _ = true from rfl)]
            go_wp2_with fail
            refine hK.out _ _ (fun h => absurd h (by decide)) ?_
            clear hK KK
            refine wpAnyD_done (by kernel_rfl) ?_ _
            clear n0 n1 n2 v0 v1 m1 m2 p0 p1 p2 p3
            go_wp2
            go_roundw
            case rel => exact ⟨t + 1, true, by omega, by go_num, rfl, fun _ => rfl, fun _ _ _ _ => rfl, HB2.out⟩
            case measure => simp [intOf]; omega
          | false =>
            by_cases hat : at_ = (j : Int)
            · have hq1 : (at_ == (j : Int)) = true := by simp [hat]
              go_wp2_with fail
              refine wp_regionD (fun v => v = wq.drew) (fun k => decide (27 ≤ k)) (by kernel_rfl) ?_
              generalize wq.drew = WE at *
              refine wpAnyD_takeT 0 35 (v := ?vvd0) rfl rfl (by kernel_rfl) (by kernel_rfl) (by kernel_rfl) (by kernel_rfl) (fun _ _ _ h => h) (Or.inl ⟨by rfl, ?hyd0⟩) rfl ?restd0
              case hyd0 => (intro w hSw; (try dsimp only at hSw); rw [hSw]; go_simp; try with_reducible rfl)
              simp only [Act.put, List.setIfInBounds_toArray, List.set_cons_zero, List.set_cons_succ]
              refine wpAnyD_takeT 1 36 (v := ?vvd1) rfl rfl (by kernel_rfl) (by kernel_rfl) (by kernel_rfl) (by kernel_rfl) (fun _ _ _ h => h) (Or.inl ⟨by rfl, ?hyd1⟩) rfl ?restd1
              case hyd1 => (intro w hSw; (try dsimp only at hSw); rw [hSw]; go_simp; try with_reducible rfl)
              simp only [Act.put, List.setIfInBounds_toArray, List.set_cons_zero, List.set_cons_succ]
              refine wpAnyD_takeT 2 37 (v := ?vvd2) rfl rfl (by kernel_rfl) (by kernel_rfl) (by kernel_rfl) (by kernel_rfl) (fun _ _ _ h => h) (Or.inl ⟨by rfl, ?hyd2⟩) rfl ?restd2
              case hyd2 => (intro w hSw; (try dsimp only at hSw); rw [hSw]; go_simp; try with_reducible rfl)
              simp only [Act.put, List.setIfInBounds_toArray, List.set_cons_zero, List.set_cons_succ]
              refine wpAnyD_takeT 3 38 (v := ?vvd3) rfl rfl (by kernel_rfl) (by kernel_rfl) (by kernel_rfl) (by kernel_rfl) (fun _ _ _ h => h) (Or.inl ⟨by rfl, ?hyd3⟩) rfl ?restd3
              case hyd3 => (intro w hSw; (try dsimp only at hSw); rw [hSw]; go_simp; try with_reducible rfl)
              simp only [Act.put, List.setIfInBounds_toArray, List.set_cons_zero, List.set_cons_succ]
              refine wpAnyD_takeT 4 39 (v := ?vvd4) rfl rfl (by kernel_rfl) (by kernel_rfl) (by kernel_rfl) (by kernel_rfl) (fun _ _ _ h => h) (Or.inl ⟨by rfl, ?hyd4⟩) rfl ?restd4
              case hyd4 => (intro w hSw; (try dsimp only at hSw); rw [hSw]; go_simp; try with_reducible rfl)
              simp only [Act.put, List.setIfInBounds_toArray, List.set_cons_zero, List.set_cons_succ]
              refine wpAnyD_takeT 5 40 (v := ?vvd5) rfl rfl (by kernel_rfl) (by kernel_rfl) (by kernel_rfl) (by kernel_rfl) (fun _ _ _ h => h) (Or.inl ⟨by rfl, ?hyd5⟩) rfl ?restd5
              case hyd5 => (intro w hSw; (try dsimp only at hSw); rw [hSw]; go_simp; try with_reducible rfl)
              simp only [Act.put, List.setIfInBounds_toArray, List.set_cons_zero, List.set_cons_succ]
              refine wpAnyD_takeT 6 41 (v := ?vvd6) rfl rfl (by kernel_rfl) (by kernel_rfl) (by kernel_rfl) (by kernel_rfl) (fun _ _ _ h => h) (Or.inl ⟨by rfl, ?hyd6⟩) rfl ?restd6
              case hyd6 => (intro w hSw; (try dsimp only at hSw); rw [hSw]; go_simp; try with_reducible rfl)
              simp only [Act.put, List.setIfInBounds_toArray, List.set_cons_zero, List.set_cons_succ]
              refine wpAnyD_takeT 7 42 (v := ?vvd7) rfl rfl (by kernel_rfl) (by kernel_rfl) (by kernel_rfl) (by kernel_rfl) (fun _ _ _ h => h) (Or.inl ⟨by rfl, ?hyd7⟩) rfl ?restd7
              case hyd7 => (intro w hSw; (try dsimp only at hSw); rw [hSw]; go_simp; try with_reducible rfl)
              simp only [Act.put, List.setIfInBounds_toArray, List.set_cons_zero, List.set_cons_succ]
              refine wpAnyD_takeT 8 43 (v := ?vvd8) rfl rfl (by kernel_rfl) (by kernel_rfl) (by kernel_rfl) (by kernel_rfl) (fun _ _ _ h => h) (Or.inl ⟨by rfl, ?hyd8⟩) rfl ?restd8
              case hyd8 => (intro w hSw; (try dsimp only at hSw); rw [hSw]; go_simp; try with_reducible rfl)
              simp only [Act.put, List.setIfInBounds_toArray, List.set_cons_zero, List.set_cons_succ]
              refine wpAnyD_takeT 9 44 (v := ?vvd9) rfl rfl (by kernel_rfl) (by kernel_rfl) (by kernel_rfl) (by kernel_rfl) (fun _ _ _ h => h) (Or.inl ⟨by rfl, ?hyd9⟩) rfl ?restd9
              case hyd9 => (intro w hSw; (try dsimp only at hSw); rw [hSw]; go_simp; try with_reducible rfl)
              simp only [Act.put, List.setIfInBounds_toArray, List.set_cons_zero, List.set_cons_succ]
              refine wpAnyD_takeT 10 45 (v := ?vvd10) rfl rfl (by kernel_rfl) (by kernel_rfl) (by kernel_rfl) (by kernel_rfl) (fun _ _ _ h => h) (Or.inl ⟨by rfl, ?hyd10⟩) rfl ?restd10
              case hyd10 => (intro w hSw; (try dsimp only at hSw); rw [hSw]; go_simp; try with_reducible rfl)
              simp only [Act.put, List.setIfInBounds_toArray, List.set_cons_zero, List.set_cons_succ]
              refine wpAnyD_takeT 11 46 (v := ?vvd11) rfl rfl (by kernel_rfl) (by kernel_rfl) (by kernel_rfl) (by kernel_rfl) (fun _ _ _ h => h) (Or.inl ⟨by rfl, ?hyd11⟩) rfl ?restd11
              case hyd11 => (intro w hSw; (try dsimp only at hSw); rw [hSw]; go_simp; try with_reducible rfl)
              simp only [Act.put, List.setIfInBounds_toArray, List.set_cons_zero, List.set_cons_succ]
              refine wpAnyD_takeT 12 47 (v := ?vvd12) rfl rfl (by kernel_rfl) (by kernel_rfl) (by kernel_rfl) (by kernel_rfl) (fun _ _ _ h => h) (Or.inl ⟨by rfl, ?hyd12⟩) rfl ?restd12
              case hyd12 => (intro w hSw; (try dsimp only at hSw); rw [hSw]; go_simp; try with_reducible rfl)
              simp only [Act.put, List.setIfInBounds_toArray, List.set_cons_zero, List.set_cons_succ]
              refine wpAnyD_takeT 13 48 (v := ?vvd13) rfl rfl (by kernel_rfl) (by kernel_rfl) (by kernel_rfl) (by kernel_rfl) (fun _ _ _ h => h) (Or.inl ⟨by rfl, ?hyd13⟩) rfl ?restd13
              case hyd13 => (intro w hSw; (try dsimp only at hSw); rw [hSw]; go_simp; try with_reducible rfl)
              simp only [Act.put, List.setIfInBounds_toArray, List.set_cons_zero, List.set_cons_succ]
              refine wpAnyD_takeT 14 49 (v := ?vvd14) rfl rfl (by kernel_rfl) (by kernel_rfl) (by kernel_rfl) (by kernel_rfl) (fun _ _ _ h => h) (Or.inl ⟨by rfl, ?hyd14⟩) rfl ?restd14
              case hyd14 => (intro w hSw; (try dsimp only at hSw); rw [hSw]; go_simp; try with_reducible rfl)
              simp only [Act.put, List.setIfInBounds_toArray, List.set_cons_zero, List.set_cons_succ]
              refine wpAnyD_takeT 15 50 (v := ?vvd15) rfl rfl (by kernel_rfl) (by kernel_rfl) (by kernel_rfl) (by kernel_rfl) (fun _ _ _ h => h) (Or.inl ⟨by rfl, ?hyd15⟩) rfl ?restd15
              case hyd15 => (intro w hSw; (try dsimp only at hSw); rw [hSw]; go_simp; try with_reducible rfl)
              simp only [Act.put, List.setIfInBounds_toArray, List.set_cons_zero, List.set_cons_succ]
              refine wpAnyD_takeT 16 51 (v := ?vvd16) rfl rfl (by kernel_rfl) (by kernel_rfl) (by kernel_rfl) (by kernel_rfl) (fun _ _ _ h => h) (Or.inl ⟨by rfl, ?hyd16⟩) rfl ?restd16
              case hyd16 => (intro w hSw; (try dsimp only at hSw); rw [hSw]; go_simp; try with_reducible rfl)
              simp only [Act.put, List.setIfInBounds_toArray, List.set_cons_zero, List.set_cons_succ]
              refine wpAnyD_takeT 17 52 (v := ?vvd17) rfl rfl (by kernel_rfl) (by kernel_rfl) (by kernel_rfl) (by kernel_rfl) (fun _ _ _ h => h) (Or.inl ⟨by rfl, ?hyd17⟩) rfl ?restd17
              case hyd17 => (intro w hSw; (try dsimp only at hSw); rw [hSw]; go_simp; try with_reducible rfl)
              simp only [Act.put, List.setIfInBounds_toArray, List.set_cons_zero, List.set_cons_succ]
              refine wpAnyD_takeT 18 53 (v := ?vvd18) rfl rfl (by kernel_rfl) (by kernel_rfl) (by kernel_rfl) (by kernel_rfl) (fun _ _ _ h => h) (Or.inl ⟨by rfl, ?hyd18⟩) rfl ?restd18
              case hyd18 => (intro w hSw; (try dsimp only at hSw); rw [hSw]; go_simp; try with_reducible rfl)
              simp only [Act.put, List.setIfInBounds_toArray, List.set_cons_zero, List.set_cons_succ]
              refine wpAnyD_takeT 19 54 (v := ?vvd19) rfl rfl (by kernel_rfl) (by kernel_rfl) (by kernel_rfl) (by kernel_rfl) (fun _ _ _ h => h) (Or.inl ⟨by rfl, ?hyd19⟩) rfl ?restd19
              case hyd19 => (intro w hSw; (try dsimp only at hSw); rw [hSw]; go_simp; try with_reducible rfl)
              simp only [Act.put, List.setIfInBounds_toArray, List.set_cons_zero, List.set_cons_succ]
              refine wpAnyD_takeT 20 55 (v := ?vvd20) rfl rfl (by kernel_rfl) (by kernel_rfl) (by kernel_rfl) (by kernel_rfl) (fun _ _ _ h => h) (Or.inl ⟨by rfl, ?hyd20⟩) rfl ?restd20
              case hyd20 => (intro w hSw; (try dsimp only at hSw); rw [hSw]; go_simp; try with_reducible rfl)
              simp only [Act.put, List.setIfInBounds_toArray, List.set_cons_zero, List.set_cons_succ]
              refine wpAnyD_takeT 21 56 (v := ?vvd21) rfl rfl (by kernel_rfl) (by kernel_rfl) (by kernel_rfl) (by kernel_rfl) (fun _ _ _ h => h) (Or.inl ⟨by rfl, ?hyd21⟩) rfl ?restd21
              case hyd21 => (intro w hSw; (try dsimp only at hSw); rw [hSw]; go_simp; try with_reducible rfl)
              simp only [Act.put, List.setIfInBounds_toArray, List.set_cons_zero, List.set_cons_succ]
              refine wpAnyD_takeT 22 57 (v := ?vvd22) rfl rfl (by kernel_rfl) (by kernel_rfl) (by kernel_rfl) (by kernel_rfl) (fun _ _ _ h => h) (Or.inl ⟨by rfl, ?hyd22⟩) rfl ?restd22
              case hyd22 => (intro w hSw; (try dsimp only at hSw); rw [hSw]; go_simp; try with_reducible rfl)
              simp only [Act.put, List.setIfInBounds_toArray, List.set_cons_zero, List.set_cons_succ]
              refine wpAnyD_takeT 23 58 (v := ?vvd23) rfl rfl (by kernel_rfl) (by kernel_rfl) (by kernel_rfl) (by kernel_rfl) (fun _ _ _ h => h) (Or.inl ⟨by rfl, ?hyd23⟩) rfl ?restd23
              case hyd23 => (intro w hSw; (try dsimp only at hSw); rw [hSw]; go_simp; try with_reducible rfl)
              simp only [Act.put, List.setIfInBounds_toArray, List.set_cons_zero, List.set_cons_succ]
              refine wpAnyD_takeT 24 59 (v := ?vvd24) rfl rfl (by kernel_rfl) (by kernel_rfl) (by kernel_rfl) (by kernel_rfl) (fun _ _ _ h => h) (Or.inl ⟨by rfl, ?hyd24⟩) rfl ?restd24
              case hyd24 => (intro w hSw; (try dsimp only at hSw); rw [hSw]; go_simp; try with_reducible rfl)
              simp only [Act.put, List.setIfInBounds_toArray, List.set_cons_zero, List.set_cons_succ]
              refine wpAnyD_takeT 25 60 (v := ?vvd25) rfl rfl (by kernel_rfl) (by kernel_rfl) (by kernel_rfl) (by kernel_rfl) (fun _ _ _ h => h) (Or.inl ⟨by rfl, ?hyd25⟩) rfl ?restd25
              case hyd25 => (intro w hSw; (try dsimp only at hSw); rw [hSw]; go_simp; try with_reducible rfl)
              simp only [Act.put, List.setIfInBounds_toArray, List.set_cons_zero, List.set_cons_succ]
              refine wpAnyD_takeT 26 61 (v := ?vvd26) rfl rfl (by kernel_rfl) (by kernel_rfl) (by kernel_rfl) (by kernel_rfl) (fun _ _ _ h => h) (Or.inl ⟨by rfl, ?hyd26⟩) rfl ?restd26
              case hyd26 => (intro w hSw; (try dsimp only at hSw); rw [hSw]; go_simp; try with_reducible rfl)
              simp only [Act.put, List.setIfInBounds_toArray, List.set_cons_zero, List.set_cons_succ]
              refine wpAnyD_one 27 (by kernel_rfl) rfl (fun KK hK => ?_)
              rw [if_pos (show Region.wanted _ _ = true from rfl)]
              go_wp2_with fail
              refine hK.out _ _ (fun h => absurd h (by decide)) ?_
              clear hK KK
              refine wpAnyD_done (by kernel_rfl) ?_ _
              clear n0 n1 n2 v0 v1 m1 m2 p0 p1 p2 p3
              go_wp2
              go_roundw
              case rel => exact ⟨t + 1, Y2.toList == X2.toList, by omega, by go_num, rfl, fun e => absurd (HF.out.1 e) (by decide), fun q hq h1 h2 => (by
                              by_cases e : q = t
                              · subst e; exact HZ.out h2
                              · exact absurd (HF.out.2 q (by omega) h1 h2) (by decide)), HB2.out⟩
              case measure => simp [intOf]; omega
            · have hq1 : (at_ == (j : Int)) = false := by simp [hat]
              go_wp2_with fail
              refine wp_regionD (fun v => v = wq.drew) (fun k => decide (27 ≤ k)) (by kernel_rfl) ?_
              generalize wq.drew = WE at *
              refine wpAnyD_takeT 0 35 (v := ?vve0) rfl rfl (by kernel_rfl) (by kernel_rfl) (by kernel_rfl) (by kernel_rfl) (fun _ _ _ h => h) (Or.inl ⟨by rfl, ?hye0⟩) rfl ?reste0
              case hye0 => (intro w hSw; (try dsimp only at hSw); rw [hSw]; go_simp; try with_reducible rfl)
              simp only [Act.put, List.setIfInBounds_toArray, List.set_cons_zero, List.set_cons_succ]
              refine wpAnyD_takeT 1 36 (v := ?vve1) rfl rfl (by kernel_rfl) (by kernel_rfl) (by kernel_rfl) (by kernel_rfl) (fun _ _ _ h => h) (Or.inl ⟨by rfl, ?hye1⟩) rfl ?reste1
              case hye1 => (intro w hSw; (try dsimp only at hSw); rw [hSw]; go_simp; try with_reducible rfl)
              simp only [Act.put, List.setIfInBounds_toArray, List.set_cons_zero, List.set_cons_succ]
              refine wpAnyD_takeT 2 37 (v := ?vve2) rfl rfl (by kernel_rfl) (by kernel_rfl) (by kernel_rfl) (by kernel_rfl) (fun _ _ _ h => h) (Or.inl ⟨by rfl, ?hye2⟩) rfl ?reste2
              case hye2 => (intro w hSw; (try dsimp only at hSw); rw [hSw]; go_simp; try with_reducible rfl)
              simp only [Act.put, List.setIfInBounds_toArray, List.set_cons_zero, List.set_cons_succ]
              refine wpAnyD_takeT 3 38 (v := ?vve3) rfl rfl (by kernel_rfl) (by kernel_rfl) (by kernel_rfl) (by kernel_rfl) (fun _ _ _ h => h) (Or.inl ⟨by rfl, ?hye3⟩) rfl ?reste3
              case hye3 => (intro w hSw; (try dsimp only at hSw); rw [hSw]; go_simp; try with_reducible rfl)
              simp only [Act.put, List.setIfInBounds_toArray, List.set_cons_zero, List.set_cons_succ]
              refine wpAnyD_takeT 4 39 (v := ?vve4) rfl rfl (by kernel_rfl) (by kernel_rfl) (by kernel_rfl) (by kernel_rfl) (fun _ _ _ h => h) (Or.inl ⟨by rfl, ?hye4⟩) rfl ?reste4
              case hye4 => (intro w hSw; (try dsimp only at hSw); rw [hSw]; go_simp; try with_reducible rfl)
              simp only [Act.put, List.setIfInBounds_toArray, List.set_cons_zero, List.set_cons_succ]
              refine wpAnyD_takeT 5 40 (v := ?vve5) rfl rfl (by kernel_rfl) (by kernel_rfl) (by kernel_rfl) (by kernel_rfl) (fun _ _ _ h => h) (Or.inl ⟨by rfl, ?hye5⟩) rfl ?reste5
              case hye5 => (intro w hSw; (try dsimp only at hSw); rw [hSw]; go_simp; try with_reducible rfl)
              simp only [Act.put, List.setIfInBounds_toArray, List.set_cons_zero, List.set_cons_succ]
              refine wpAnyD_takeT 6 41 (v := ?vve6) rfl rfl (by kernel_rfl) (by kernel_rfl) (by kernel_rfl) (by kernel_rfl) (fun _ _ _ h => h) (Or.inl ⟨by rfl, ?hye6⟩) rfl ?reste6
              case hye6 => (intro w hSw; (try dsimp only at hSw); rw [hSw]; go_simp; try with_reducible rfl)
              simp only [Act.put, List.setIfInBounds_toArray, List.set_cons_zero, List.set_cons_succ]
              refine wpAnyD_takeT 7 42 (v := ?vve7) rfl rfl (by kernel_rfl) (by kernel_rfl) (by kernel_rfl) (by kernel_rfl) (fun _ _ _ h => h) (Or.inl ⟨by rfl, ?hye7⟩) rfl ?reste7
              case hye7 => (intro w hSw; (try dsimp only at hSw); rw [hSw]; go_simp; try with_reducible rfl)
              simp only [Act.put, List.setIfInBounds_toArray, List.set_cons_zero, List.set_cons_succ]
              refine wpAnyD_takeT 8 43 (v := ?vve8) rfl rfl (by kernel_rfl) (by kernel_rfl) (by kernel_rfl) (by kernel_rfl) (fun _ _ _ h => h) (Or.inl ⟨by rfl, ?hye8⟩) rfl ?reste8
              case hye8 => (intro w hSw; (try dsimp only at hSw); rw [hSw]; go_simp; try with_reducible rfl)
              simp only [Act.put, List.setIfInBounds_toArray, List.set_cons_zero, List.set_cons_succ]
              refine wpAnyD_takeT 9 44 (v := ?vve9) rfl rfl (by kernel_rfl) (by kernel_rfl) (by kernel_rfl) (by kernel_rfl) (fun _ _ _ h => h) (Or.inl ⟨by rfl, ?hye9⟩) rfl ?reste9
              case hye9 => (intro w hSw; (try dsimp only at hSw); rw [hSw]; go_simp; try with_reducible rfl)
              simp only [Act.put, List.setIfInBounds_toArray, List.set_cons_zero, List.set_cons_succ]
              refine wpAnyD_takeT 10 45 (v := ?vve10) rfl rfl (by kernel_rfl) (by kernel_rfl) (by kernel_rfl) (by kernel_rfl) (fun _ _ _ h => h) (Or.inl ⟨by rfl, ?hye10⟩) rfl ?reste10
              case hye10 => (intro w hSw; (try dsimp only at hSw); rw [hSw]; go_simp; try with_reducible rfl)
              simp only [Act.put, List.setIfInBounds_toArray, List.set_cons_zero, List.set_cons_succ]
              refine wpAnyD_takeT 11 46 (v := undef) rfl rfl (by kernel_rfl) (by kernel_rfl) (by kernel_rfl) (by kernel_rfl) (fun _ _ _ h => h) (Or.inr ⟨by rfl, rfl⟩) rfl ?_
              simp only [Act.put, List.setIfInBounds_toArray, List.set_cons_zero, List.set_cons_succ]
              refine wpAnyD_takeT 12 47 (v := undef) rfl rfl (by kernel_rfl) (by kernel_rfl) (by kernel_rfl) (by kernel_rfl) (fun _ _ _ h => h) (Or.inr ⟨by rfl, rfl⟩) rfl ?_
              simp only [Act.put, List.setIfInBounds_toArray, List.set_cons_zero, List.set_cons_succ]
              refine wpAnyD_takeT 13 48 (v := undef) rfl rfl (by kernel_rfl) (by kernel_rfl) (by kernel_rfl) (by kernel_rfl) (fun _ _ _ h => h) (Or.inr ⟨by rfl, rfl⟩) rfl ?_
              simp only [Act.put, List.setIfInBounds_toArray, List.set_cons_zero, List.set_cons_succ]
              refine wpAnyD_takeT 14 49 (v := undef) rfl rfl (by kernel_rfl) (by kernel_rfl) (by kernel_rfl) (by kernel_rfl) (fun _ _ _ h => h) (Or.inr ⟨by rfl, rfl⟩) rfl ?_
              simp only [Act.put, List.setIfInBounds_toArray, List.set_cons_zero, List.set_cons_succ]
              refine wpAnyD_takeT 15 50 (v := undef) rfl rfl (by kernel_rfl) (by kernel_rfl) (by kernel_rfl) (by kernel_rfl) (fun _ _ _ h => h) (Or.inr ⟨by rfl, rfl⟩) rfl ?_
              simp only [Act.put, List.setIfInBounds_toArray, List.set_cons_zero, List.set_cons_succ]
              refine wpAnyD_takeT 16 51 (v := undef) rfl rfl (by kernel_rfl) (by kernel_rfl) (by kernel_rfl) (by kernel_rfl) (fun _ _ _ h => h) (Or.inr ⟨by rfl, rfl⟩) rfl ?_
              simp only [Act.put, List.setIfInBounds_toArray, List.set_cons_zero, List.set_cons_succ]
              refine wpAnyD_takeT 17 52 (v := undef) rfl rfl (by kernel_rfl) (by kernel_rfl) (by kernel_rfl) (by kernel_rfl) (fun _ _ _ h => h) (Or.inr ⟨by rfl, rfl⟩) rfl ?_
              simp only [Act.put, List.setIfInBounds_toArray, List.set_cons_zero, List.set_cons_succ]
              refine wpAnyD_takeT 18 53 (v := undef) rfl rfl (by kernel_rfl) (by kernel_rfl) (by kernel_rfl) (by kernel_rfl) (fun _ _ _ h => h) (Or.inr ⟨by rfl, rfl⟩) rfl ?_
              simp only [Act.put, List.setIfInBounds_toArray, List.set_cons_zero, List.set_cons_succ]
              refine wpAnyD_takeT 19 54 (v := undef) rfl rfl (by kernel_rfl) (by kernel_rfl) (by kernel_rfl) (by kernel_rfl) (fun _ _ _ h => h) (Or.inr ⟨by rfl, rfl⟩) rfl ?_
              simp only [Act.put, List.setIfInBounds_toArray, List.set_cons_zero, List.set_cons_succ]
              refine wpAnyD_takeT 20 55 (v := undef) rfl rfl (by kernel_rfl) (by kernel_rfl) (by kernel_rfl) (by kernel_rfl) (fun _ _ _ h => h) (Or.inr ⟨by rfl, rfl⟩) rfl ?_
              simp only [Act.put, List.setIfInBounds_toArray, List.set_cons_zero, List.set_cons_succ]
              refine wpAnyD_takeT 21 56 (v := undef) rfl rfl (by kernel_rfl) (by kernel_rfl) (by kernel_rfl) (by kernel_rfl) (fun _ _ _ h => h) (Or.inr ⟨by rfl, rfl⟩) rfl ?_
              simp only [Act.put, List.setIfInBounds_toArray, List.set_cons_zero, List.set_cons_succ]
              refine wpAnyD_takeT 22 57 (v := undef) rfl rfl (by kernel_rfl) (by kernel_rfl) (by kernel_rfl) (by kernel_rfl) (fun _ _ _ h => h) (Or.inr ⟨by rfl, rfl⟩) rfl ?_
              simp only [Act.put, List.setIfInBounds_toArray, List.set_cons_zero, List.set_cons_succ]
              refine wpAnyD_takeT 23 58 (v := undef) rfl rfl (by kernel_rfl) (by kernel_rfl) (by kernel_rfl) (by kernel_rfl) (fun _ _ _ h => h) (Or.inr ⟨by rfl, rfl⟩) rfl ?_
              simp only [Act.put, List.setIfInBounds_toArray, List.set_cons_zero, List.set_cons_succ]
              refine wpAnyD_takeT 24 59 (v := undef) rfl rfl (by kernel_rfl) (by kernel_rfl) (by kernel_rfl) (by kernel_rfl) (fun _ _ _ h => h) (Or.inr ⟨by rfl, rfl⟩) rfl ?_
              simp only [Act.put, List.setIfInBounds_toArray, List.set_cons_zero, List.set_cons_succ]
              refine wpAnyD_takeT 25 60 (v := ?vvf25) rfl rfl (by kernel_rfl) (by kernel_rfl) (by kernel_rfl) (by kernel_rfl) (fun _ _ _ h => h) (Or.inl ⟨by rfl, ?hyf25⟩) rfl ?restf25
              case hyf25 => (intro w hSw; (try dsimp only at hSw); rw [hSw]; go_simp; try with_reducible rfl)
              simp only [Act.put, List.setIfInBounds_toArray, List.set_cons_zero, List.set_cons_succ]
              refine wpAnyD_takeT 26 61 (v := ?vvf26) rfl rfl (by kernel_rfl) (by kernel_rfl) (by kernel_rfl) (by kernel_rfl) (fun _ _ _ h => h) (Or.inl ⟨by rfl, ?hyf26⟩) rfl ?restf26
              case hyf26 => (intro w hSw; (try dsimp only at hSw); rw [hSw]; go_simp; try with_reducible rfl)
              simp only [Act.put, List.setIfInBounds_toArray, List.set_cons_zero, List.set_cons_succ]
              refine wpAnyD_one 27 (by kernel_rfl) rfl (fun KK hK => ?_)
              rw [if_pos (show Region.wanted _ _ = true from rfl)]
              go_wp2_with fail
              refine hK.out _ _ (fun h => absurd h (by decide)) ?_
              clear hK KK
              refine wpAnyD_done (by kernel_rfl) ?_ _
              clear n0 n1 n2 v0 v1 m1 m2 p0 p1 p2 p3
              go_wp2
              go_roundw
              case rel => exact ⟨t + 1, false, by omega, by go_num, rfl, fun e => absurd (HF.out.1 e) (by decide), fun q hq h1 h2 => (by
                              by_cases e : q = t
                              · subst e; exact absurd (hAt ▸ h1) hat
                              · exact absurd (HF.out.2 q (by omega) h1 h2) (by decide)), HB2.out⟩
              case measure => simp [intOf]; omega
        · have e : t = K.m := by omega
          subst e
          have hfb : fb = true := by
            rcases HQ.out j hlt with h1 | ⟨q, h1, h2, h3⟩
            · exact hf1 h1
            · exact hf2 q h1 h2 h3
          subst hfb
          have HB2 : Hid _ := hb2
          clear rd2 rd2' hb2 hf1 hf2
          go_wp2
          go_roundw
          case rel => exact ⟨j + 1, by omega, by go_num, HB2.out⟩
          case measure => simp [intOf]; omega
    · have FIN : Hid (Below w.heap.size w wr) := Q0.out.trans (hb.mono (by omega))
      clear hb rd rd'
      go_wp2
      go_ret
      exact ⟨rfl, FIN.out⟩
end Go.Proofs.Ytamifpbhmecloaa

