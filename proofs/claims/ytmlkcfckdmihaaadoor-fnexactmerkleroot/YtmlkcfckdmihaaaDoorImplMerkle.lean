/- The root of hashes: the program. -/
import Derived.Test.YtmlkcfckdmihaaaDoorMerkle
import Derived.Deep.DeepCutAuto
namespace Go.Proofs.YtmlkcfckdmihaaaDoor
open Go.RowKit
set_option linter.unusedVariables false

theorem wrap_fits (x : Int) (h0 : -9223372036854775808 ≤ x) (h1 : x ≤ 9223372036854775807) : IntKind.i64.wrap x = x := by
  simp [IntKind.wrap, IntKind.bits, IntKind.signed]; omega
/-- Two may come up. -/
theorem wpAnyD_two {P : Program} {ops : Array Oper} {Q : Exit → Act → World → Prop} {md : Region.Mode} {S : World → Prop} {D : Nat → Bool} (i j : Nat) {oi oj : Oper} {fuel : Nat} {listed : Array Bool} {a : Act} {w : World} (hr : Region.ready md ops listed = [i, j]) (hi : ops[i]? = some oi) (hj : ops[j]? = some oj)
    (h1 : ∀ K' : Act → World → Prop, Shut (∀ a w, (D i = false → S w) → wpAnyD P md ops Q S D fuel (listed.setIfInBounds i true) a w → K' a w) → if Region.wanted oi (yielded ops a.tmps) = true then Oper.wp P oi a w K' Q else K' (a.put oi.dst undef) w)
    (h2 : ∀ K' : Act → World → Prop, Shut (∀ a w, (D j = false → S w) → wpAnyD P md ops Q S D fuel (listed.setIfInBounds j true) a w → K' a w) → if Region.wanted oj (yielded ops a.tmps) = true then Oper.wp P oj a w K' Q else K' (a.put oj.dst undef) w) : wpAnyD P md ops Q S D (fuel + 1) listed a w :=
  ⟨fun h0 => (by rw [hr] at h0; cases h0), fun x hx => by
    rw [hr] at hx
    have hx2 : x = i ∨ x = j := by simpa using hx
    rcases hx2 with rfl | rfl
    · exact wpOp_step hi (fun K' hK => h1 K' (fun a w hS hW => hK a w ⟨hS, hW⟩))
    · exact wpOp_step hj (fun K' hK => h2 K' (fun a w hS hW => hK a w ⟨hS, hW⟩))⟩

theorem wp_store_blk {P : Program} {o : Oper} {a : Act} {w : World} {K : Act → World → Prop} {Q : Exit → Act → World → Prop} (ty : TypeId) (x y : Operand) (ho : o.op = .store ty x y)
    (g : Nat) (cs : List Value) (hx : a.eval x = .pointer (some ⟨g, 0, none⟩)) (hy : a.eval y = .agg cs.toArray) (t : TypeId) (cur : List Value) (hg : Blk w t g cur) (hi : (P.info? ty).map (·.size) = some cs.length) (hl : cs.length = cur.length) (h1 : ∀ v ∈ cs, v.oneCell' = true)
    (h : K (a.put o.dst undef) (w.setRow g cs.toArray)) : o.wp P a w K Q := by
  have e : cur.take 0 ++ cs ++ cur.drop (0 + cs.length) = cs := by rw [List.take_zero, List.nil_append, List.drop_eq_nil_of_le (by omega), List.append_nil]
  have := run_storeVar_at (P := P) w g 0 ty t cur cs hg hi (by omega) h1
  rw [e] at this
  unfold Oper.wp execOp
  simp only [ho, hx, hy, Instr.storeAt, Instr.sureAddr, Sem.run_bind, Sem.run_pure, Result.andThen_ok, this]
  exact h

/-- Two new blocks, and what is laid into them. -/
structure TwoNew (wr : World) (x y : List Int) (W : World) (p q : Nat) : Prop where
  k0 : Blk W 24 p (ob zeroH)
  k1 : Blk W 24 q (ob zeroH)
  k1f : Blk (W.setRow p (ob x).toArray) 24 q (ob zeroH)
  k0s : Blk (W.setRow q (ob x).toArray) 24 p (ob zeroH)
  bf : Below wr.heap.size wr ((W.setRow p (ob x).toArray).setRow q (ob y).toArray)
  bs : Below wr.heap.size wr ((W.setRow q (ob x).toArray).setRow p (ob y).toArray)
  x0f : Blk ((W.setRow p (ob x).toArray).setRow q (ob y).toArray) 24 p (ob x)
  y1f : Blk ((W.setRow p (ob x).toArray).setRow q (ob y).toArray) 24 q (ob y)
  x1s : Blk ((W.setRow q (ob x).toArray).setRow p (ob y).toArray) 24 q (ob x)
  y0s : Blk ((W.setRow q (ob x).toArray).setRow p (ob y).toArray) 24 p (ob y)
theorem two_stores (wr : World) (x y : List Int) (hx : x.length = 32) (hy : y.length = 32) :
    TwoNew wr x y ((wr.drew.alloc (Obj.cells (ob zeroH).toArray 24)).alloc (Obj.cells (ob zeroH).toArray 24)) wr.heap.size (wr.heap.size + 1) := by
  have b0 : Below wr.heap.size wr ((wr.drew.alloc (Obj.cells (ob zeroH).toArray 24)).alloc (Obj.cells (ob zeroH).toArray 24)) := (((Below.refl _ _).drew).alloc (by simp) _).alloc (by simp) _
  have k0 : Blk ((wr.drew.alloc (Obj.cells (ob zeroH).toArray 24)).alloc (Obj.cells (ob zeroH).toArray 24)) 24 wr.heap.size (ob zeroH) :=
    (blk_new wr.drew 24 (ob zeroH).toArray).below ((Below.refl _ _).alloc (Nat.le_refl _) _)
  have k1 : Blk ((wr.drew.alloc (Obj.cells (ob zeroH).toArray 24)).alloc (Obj.cells (ob zeroH).toArray 24)) 24 (wr.heap.size + 1) (ob zeroH) := by
    have := blk_new (wr.drew.alloc (Obj.cells (ob zeroH).toArray 24)) 24 (ob zeroH).toArray
    simpa using this
  generalize (wr.drew.alloc (Obj.cells (ob zeroH).toArray 24)).alloc (Obj.cells (ob zeroH).toArray 24) = W at *
  have o1 := fun g (z : List Int) => onlyB_setRow W g (ob z).toArray
  have k1f : Blk (W.setRow wr.heap.size (ob x).toArray) 24 (wr.heap.size + 1) (ob zeroH) := k1.only (o1 _ x) (by omega)
  have k0s : Blk (W.setRow (wr.heap.size + 1) (ob x).toArray) 24 wr.heap.size (ob zeroH) := k0.only (o1 _ x) (by omega)
  have z0 := k0.lt
  refine ⟨k0, k1, k1f, k0s, ?_, ?_, ?_, k1f.setRow _, ?_, k0s.setRow _⟩
  · exact (b0.trans ((o1 _ x).below (Nat.le_refl _) (by omega))).trans ((onlyB_setRow _ _ _).below (by omega) (by simp [World.setRow]; omega))
  · exact (b0.trans ((o1 _ x).below (by omega) (by omega))).trans ((onlyB_setRow _ _ _).below (Nat.le_refl _) (by simp [World.setRow]; omega))
  · exact (k0.setRow (ob x)).only (onlyB_setRow _ _ _) (by omega)
  · exact (k1.setRow (ob x)).only (onlyB_setRow _ _ _) (by omega)

set_option maxHeartbeats 4000000 in
set_option maxRecDepth 100000 in
theorem pairHashes_calls (a : Option Addr) (n c : Nat) (h : Nat → List Int) (w : World) (T : Tabs w) (H : RHs w a n c h) (hn : n ≤ 1000) :
    Calls Tryd.prog 30 #[.slice a n c] w fun e w' => ∃ a' c', e = .returned (.slice a' ((n + 1) / 2) c') ∧ Below w.heap.size w w' ∧ OHs w.heap.size w' a' ((n + 1) / 2) c' (nxt h n) := by
  go_enter Tryd.func30, Tryd.ntmps30
  go_wp2
  go_loopw [3, 4] (fun o i wv => ∃ k a2 c2, k ≤ (n + 1) / 2 ∧ i = .int .i64 ((2 * k : Nat) : Int) ∧ o = .slice a2 k c2 ∧ Below w.heap.size w wv ∧ OHs w.heap.size wv a2 k c2 (nxt h n)) (fun _ i _ => n + 2 - (intOf i).toNat)
  case atStart => exact ⟨0, _, 0, Nat.zero_le _, rfl, rfl, Below.refl _ _, ohs_nil _ _ _⟩
  case round =>
    obtain ⟨k, a2, c2, hk, rfl, rfl, hb, ho⟩ := hrel
    have HR := H.below hb
    have TR := T.below hb
    by_cases hlt : 2 * k < n
    · obtain ⟨b, off, rfl, hbl, hcc⟩ := HR.at_ (by omega)
      have hkn : (2 * (k : Int)) < (n : Int) := by omega
      have hk0 : (0 : Int) ≤ 2 * (k : Int) := by omega
      have hl1 := HR.ok.len (2 * k) hlt
      have hxB := HR.ok.byte (2 * k) hlt
      obtain ⟨r, hrr⟩ : ∃ r, r = if 2 * k + 1 < n then 2 * k + 1 else 2 * k := ⟨_, rfl⟩
      have hri : r < n := by rw [hrr]; split <;> omega
      have hyy : nxt h n k = dblL (h (2 * k) ++ h r) := by unfold nxt; rw [hrr]
      have hl2 := HR.ok.len r hri
      have hyB := HR.ok.byte r hri
      have HHB : Hid _ := And.intro hb (And.intro ho (And.intro hyy TR))
      clear hb ho hyy TR hcc H T
      go_upto_region 5 with fail
      go_cut [5, 6] (fun s5 s6 wx => ∃ g5 g6, s5 = .pointer (some ⟨g5, 0, none⟩) ∧ s6 = .pointer (some ⟨g6, 0, none⟩) ∧ Below wr.heap.size wr wx ∧ Blk wx 24 g5 (ob (h (2 * k))) ∧ Blk wx 24 g6 (ob (h r)))
      case first =>
        by_cases hpair : 2 * k + 1 < n
        · rw [if_pos hpair] at hrr
          subst hrr
          have hm : ¬ ((n : Int) - 1 < 2 * (k : Int) + 1) := by omega
          have hpn : 2 * (k : Int) + 1 < (n : Int) := by omega
          have hw1 : IntKind.i64.wrap (2 * (k : Int) + 1) = 2 * (k : Int) + 1 := wrap_fits _ (by omega) (by omega)
          have hw2 : IntKind.i64.wrap ((n : Int) - 1) = (n : Int) - 1 := wrap_fits _ (by omega) (by omega)
          have hw3 : (0 : Int) ≤ 2 * (k : Int) + 1 := by omega
          have hw4 : (2 * (k : Int) + 1).toNat = 2 * k + 1 := by omega
          have KEY : Hid (∀ v : World, Below wr.heap.size wr v → (Instr.loadAt 24 (.pointer (some ⟨b, off + 2 * k * 32, none⟩))).run Tryd.prog v = .ok (.agg (ob (h (2 * k))).toArray) v ∧ (Instr.loadAt 24 (.pointer (some ⟨b, off + (2 * k + 1) * 32, none⟩))).run Tryd.prog v = .ok (.agg (ob (h (2 * k + 1))).toArray) v) := fun v hv => ⟨(HR.below hv).load (2 * k) hlt, (HR.below hv).load (2 * k + 1) hri⟩
          refine wp_regionD (fun v => (Instr.loadAt 24 (.pointer (some ⟨b, off + 2 * k * 32, none⟩))).run Tryd.prog v = .ok (.agg (ob (h (2 * k))).toArray) v ∧ (Instr.loadAt 24 (.pointer (some ⟨b, off + (2 * k + 1) * 32, none⟩))).run Tryd.prog v = .ok (.agg (ob (h (2 * k + 1))).toArray) v) (fun j => decide (15 ≤ j)) (by kernel_rfl) ?_
          have hS0 := KEY.out wr.drew (Below.refl _ _).drew
          refine wpAnyD_takeT 0 13 (v := ?vvp0) rfl rfl (by kernel_rfl) (by kernel_rfl) (by kernel_rfl) (by kernel_rfl) (fun _ _ _ h => h) (Or.inl ⟨by rfl, ?hyp0⟩) hS0 ?restp0
          case hyp0 => (intro w hSw; (try dsimp only at hSw); go_simp; try with_reducible rfl)
          simp only [Act.put, List.setIfInBounds_toArray, List.set_cons_zero, List.set_cons_succ]
          refine wpAnyD_takeT 1 14 (v := ?vvp1) rfl rfl (by kernel_rfl) (by kernel_rfl) (by kernel_rfl) (by kernel_rfl) (fun _ _ _ h => h) (Or.inl ⟨by rfl, ?hyp1⟩) hS0 ?restp1
          case hyp1 => (intro w hSw; (try dsimp only at hSw); go_simp; try with_reducible rfl)
          simp only [Act.put, List.setIfInBounds_toArray, List.set_cons_zero, List.set_cons_succ]
          refine wpAnyD_takeT 2 15 (v := ?vvp2) rfl rfl (by kernel_rfl) (by kernel_rfl) (by kernel_rfl) (by kernel_rfl) (fun _ _ _ h => h) (Or.inl ⟨by rfl, ?hyp2⟩) hS0 ?restp2
          case hyp2 => (intro w hSw; (try dsimp only at hSw); go_simp; try with_reducible rfl)
          simp only [Act.put, List.setIfInBounds_toArray, List.set_cons_zero, List.set_cons_succ]
          refine wpAnyD_takeT 3 16 (v := .agg (ob (h (2 * k))).toArray) rfl rfl (by kernel_rfl) (by kernel_rfl) (by kernel_rfl) (by kernel_rfl) (fun _ _ _ h => h) (Or.inl ⟨by rfl, ?hyp3⟩) hS0 ?restp3
          case hyp3 => exact fun w hSw => yield_load (p := .pointer (some ⟨b, off + 2 * k * 32, none⟩)) rfl rfl hSw.1
          simp only [Act.put, List.setIfInBounds_toArray, List.set_cons_zero, List.set_cons_succ]
          refine wpAnyD_takeT 4 17 (v := ?vvp4) rfl rfl (by kernel_rfl) (by kernel_rfl) (by kernel_rfl) (by kernel_rfl) (fun _ _ _ h => h) (Or.inl ⟨by rfl, ?hyp4⟩) hS0 ?restp4
          case hyp4 => (intro w hSw; (try dsimp only at hSw); go_simp; try with_reducible rfl)
          simp only [Act.put, List.setIfInBounds_toArray, List.set_cons_zero, List.set_cons_succ]
          refine wpAnyD_takeT 5 18 (v := ?vvp5) rfl rfl (by kernel_rfl) (by kernel_rfl) (by kernel_rfl) (by kernel_rfl) (fun _ _ _ h => h) (Or.inl ⟨by rfl, ?hyp5⟩) hS0 ?restp5
          case hyp5 => (intro w hSw; (try dsimp only at hSw); go_simp; try with_reducible rfl)
          simp only [Act.put, List.setIfInBounds_toArray, List.set_cons_zero, List.set_cons_succ]
          refine wpAnyD_takeT 6 19 (v := ?vvp6) rfl rfl (by kernel_rfl) (by kernel_rfl) (by kernel_rfl) (by kernel_rfl) (fun _ _ _ h => h) (Or.inl ⟨by rfl, ?hyp6⟩) hS0 ?restp6
          case hyp6 => (intro w hSw; (try dsimp only at hSw); go_simp; try with_reducible rfl)
          simp only [Act.put, List.setIfInBounds_toArray, List.set_cons_zero, List.set_cons_succ]
          refine wpAnyD_takeT 7 20 (v := ?vvp7) rfl rfl (by kernel_rfl) (by kernel_rfl) (by kernel_rfl) (by kernel_rfl) (fun _ _ _ h => h) (Or.inl ⟨by rfl, ?hyp7⟩) hS0 ?restp7
          case hyp7 => (intro w hSw; (try dsimp only at hSw); go_simp; try with_reducible rfl)
          simp only [Act.put, List.setIfInBounds_toArray, List.set_cons_zero, List.set_cons_succ]
          refine wpAnyD_takeT 8 21 (v := ?vvp8) rfl rfl (by kernel_rfl) (by kernel_rfl) (by kernel_rfl) (by kernel_rfl) (fun _ _ _ h => h) (Or.inl ⟨by rfl, ?hyp8⟩) hS0 ?restp8
          case hyp8 => (intro w hSw; (try dsimp only at hSw); go_simp; try with_reducible rfl)
          simp only [Act.put, List.setIfInBounds_toArray, List.set_cons_zero, List.set_cons_succ]
          refine wpAnyD_takeT 9 22 (v := ?vvp9) rfl rfl (by kernel_rfl) (by kernel_rfl) (by kernel_rfl) (by kernel_rfl) (fun _ _ _ h => h) (Or.inl ⟨by rfl, ?hyp9⟩) hS0 ?restp9
          case hyp9 => (intro w hSw; (try dsimp only at hSw); go_simp; try with_reducible rfl)
          simp only [Act.put, List.setIfInBounds_toArray, List.set_cons_zero, List.set_cons_succ]
          refine wpAnyD_takeT 10 23 (v := ?vvp10) rfl rfl (by kernel_rfl) (by kernel_rfl) (by kernel_rfl) (by kernel_rfl) (fun _ _ _ h => h) (Or.inl ⟨by rfl, ?hyp10⟩) hS0 ?restp10
          case hyp10 => (intro w hSw; (try dsimp only at hSw); go_simp; try with_reducible rfl)
          simp only [Act.put, List.setIfInBounds_toArray, List.set_cons_zero, List.set_cons_succ]
          refine wpAnyD_takeT 11 24 (v := ?vvp11) rfl rfl (by kernel_rfl) (by kernel_rfl) (by kernel_rfl) (by kernel_rfl) (fun _ _ _ h => h) (Or.inl ⟨by rfl, ?hyp11⟩) hS0 ?restp11
          case hyp11 => (intro w hSw; (try dsimp only at hSw); go_simp; try with_reducible rfl)
          simp only [Act.put, List.setIfInBounds_toArray, List.set_cons_zero, List.set_cons_succ]
          refine wpAnyD_takeT 12 25 (v := .agg (ob (h (2 * k + 1))).toArray) rfl rfl (by kernel_rfl) (by kernel_rfl) (by kernel_rfl) (by kernel_rfl) (fun _ _ _ h => h) (Or.inl ⟨by rfl, ?hyp12⟩) hS0 ?restp12
          case hyp12 => exact fun w hSw => yield_load (p := .pointer (some ⟨b, off + (2 * k + 1) * 32, none⟩)) rfl rfl hSw.2
          simp only [Act.put, List.setIfInBounds_toArray, List.set_cons_zero, List.set_cons_succ]
          clear hS0
          refine wpAnyD_two 13 14 (by kernel_rfl) rfl rfl (fun KK hK => ?pf) (fun KK hK => ?ps)
          case pf =>
            go_simp
            refine hK.out _ _ (fun _ => KEY.out _ ((Below.refl _ _).drew.alloc (by simp) _)) ?_
            clear hK KK
            refine wpAnyD_one 14 (by kernel_rfl) rfl (fun KK hK => ?_)
            go_simp
            refine hK.out _ _ (fun _ => KEY.out _ (((Below.refl _ _).drew.alloc (by simp) _).alloc (by simp) _)) ?_
            clear hK KK
            have ST := two_stores wr (h (2 * k)) (h (2 * k + 1)) hl1 hl2
            change wpAnyD _ _ _ _ _ _ _ _ _ ((wr.drew.alloc (Obj.cells (ob zeroH).toArray 24)).alloc (Obj.cells (ob zeroH).toArray 24))
            refine wpAnyD_one 15 (by kernel_rfl) rfl (fun KK hK => ?_)
            rw [if_pos (show Region.wanted _ _ = true from rfl)]
            refine wp_store_blk 24 _ _ rfl wr.heap.size (ob (h (2 * k))) (by rfl) (by rfl) 24 _ ST.k0 (by rw [ob_length, hl1]; exact sizeH) (by rw [ob_length, ob_length, hl1]; rfl) (ob_oneCell _) ?_
            refine hK.out _ _ (fun h => by cases h) ?_
            clear hK KK
            refine wpAnyD_one 16 (by kernel_rfl) rfl (fun KK hK => ?_)
            rw [if_pos (show Region.wanted _ _ = true from rfl)]
            refine wp_store_blk 24 _ _ rfl (wr.heap.size + 1) (ob (h (2 * k + 1))) (by rfl) (by rfl) 24 _ ST.k1f (by rw [ob_length, hl2]; exact sizeH) (by rw [ob_length, ob_length, hl2]; rfl) (ob_oneCell _) ?_
            refine hK.out _ _ (fun h => by cases h) ?_
            clear hK KK
            refine wpAnyD_done (by kernel_rfl) ?_ _
            go_wp2
            go_meet
            exact ⟨wr.heap.size, (wr.heap.size + 1), rfl, rfl, ST.bf, ST.x0f, ST.y1f⟩
          case ps =>
            go_simp
            refine hK.out _ _ (fun _ => KEY.out _ ((Below.refl _ _).drew.alloc (by simp) _)) ?_
            clear hK KK
            refine wpAnyD_one 13 (by kernel_rfl) rfl (fun KK hK => ?_)
            go_simp
            refine hK.out _ _ (fun _ => KEY.out _ (((Below.refl _ _).drew.alloc (by simp) _).alloc (by simp) _)) ?_
            clear hK KK
            have ST := two_stores wr (h (2 * k)) (h (2 * k + 1)) hl1 hl2
            change wpAnyD _ _ _ _ _ _ _ _ _ ((wr.drew.alloc (Obj.cells (ob zeroH).toArray 24)).alloc (Obj.cells (ob zeroH).toArray 24))
            refine wpAnyD_one 15 (by kernel_rfl) rfl (fun KK hK => ?_)
            rw [if_pos (show Region.wanted _ _ = true from rfl)]
            refine wp_store_blk 24 _ _ rfl (wr.heap.size + 1) (ob (h (2 * k))) (by rfl) (by rfl) 24 _ ST.k1 (by rw [ob_length, hl1]; exact sizeH) (by rw [ob_length, ob_length, hl1]; rfl) (ob_oneCell _) ?_
            refine hK.out _ _ (fun h => by cases h) ?_
            clear hK KK
            refine wpAnyD_one 16 (by kernel_rfl) rfl (fun KK hK => ?_)
            rw [if_pos (show Region.wanted _ _ = true from rfl)]
            refine wp_store_blk 24 _ _ rfl wr.heap.size (ob (h (2 * k + 1))) (by rfl) (by rfl) 24 _ ST.k0s (by rw [ob_length, hl2]; exact sizeH) (by rw [ob_length, ob_length, hl2]; rfl) (ob_oneCell _) ?_
            refine hK.out _ _ (fun h => by cases h) ?_
            clear hK KK
            refine wpAnyD_done (by kernel_rfl) ?_ _
            go_wp2
            go_meet
            exact ⟨(wr.heap.size + 1), wr.heap.size, rfl, rfl, ST.bs, ST.x1s, ST.y0s⟩
        · rw [if_neg hpair] at hrr
          subst hrr
          have hw1 : IntKind.i64.wrap (2 * (k : Int) + 1) = 2 * (k : Int) + 1 := wrap_fits _ (by omega) (by omega)
          have hw2 : IntKind.i64.wrap ((n : Int) - 1) = 2 * (k : Int) := by rw [wrap_fits _ (by omega) (by omega)]; omega
          have hw3 : (2 * (k : Int)) < 2 * (k : Int) + 1 := by omega
          have KEY : Hid (∀ v : World, Below wr.heap.size wr v → (Instr.loadAt 24 (.pointer (some ⟨b, off + 2 * k * 32, none⟩))).run Tryd.prog v = .ok (.agg (ob (h (2 * k))).toArray) v ∧ (Instr.loadAt 24 (.pointer (some ⟨b, off + (2 * k) * 32, none⟩))).run Tryd.prog v = .ok (.agg (ob (h (2 * k))).toArray) v) := fun v hv => ⟨(HR.below hv).load (2 * k) hlt, (HR.below hv).load (2 * k) hri⟩
          refine wp_regionD (fun v => (Instr.loadAt 24 (.pointer (some ⟨b, off + 2 * k * 32, none⟩))).run Tryd.prog v = .ok (.agg (ob (h (2 * k))).toArray) v ∧ (Instr.loadAt 24 (.pointer (some ⟨b, off + (2 * k) * 32, none⟩))).run Tryd.prog v = .ok (.agg (ob (h (2 * k))).toArray) v) (fun j => decide (15 ≤ j)) (by kernel_rfl) ?_
          have hS0 := KEY.out wr.drew (Below.refl _ _).drew
          refine wpAnyD_takeT 0 13 (v := ?vvq0) rfl rfl (by kernel_rfl) (by kernel_rfl) (by kernel_rfl) (by kernel_rfl) (fun _ _ _ h => h) (Or.inl ⟨by rfl, ?hyq0⟩) hS0 ?restq0
          case hyq0 => (intro w hSw; (try dsimp only at hSw); go_simp; try with_reducible rfl)
          simp only [Act.put, List.setIfInBounds_toArray, List.set_cons_zero, List.set_cons_succ]
          refine wpAnyD_takeT 1 14 (v := ?vvq1) rfl rfl (by kernel_rfl) (by kernel_rfl) (by kernel_rfl) (by kernel_rfl) (fun _ _ _ h => h) (Or.inl ⟨by rfl, ?hyq1⟩) hS0 ?restq1
          case hyq1 => (intro w hSw; (try dsimp only at hSw); go_simp; try with_reducible rfl)
          simp only [Act.put, List.setIfInBounds_toArray, List.set_cons_zero, List.set_cons_succ]
          refine wpAnyD_takeT 2 15 (v := ?vvq2) rfl rfl (by kernel_rfl) (by kernel_rfl) (by kernel_rfl) (by kernel_rfl) (fun _ _ _ h => h) (Or.inl ⟨by rfl, ?hyq2⟩) hS0 ?restq2
          case hyq2 => (intro w hSw; (try dsimp only at hSw); go_simp; try with_reducible rfl)
          simp only [Act.put, List.setIfInBounds_toArray, List.set_cons_zero, List.set_cons_succ]
          refine wpAnyD_takeT 3 16 (v := .agg (ob (h (2 * k))).toArray) rfl rfl (by kernel_rfl) (by kernel_rfl) (by kernel_rfl) (by kernel_rfl) (fun _ _ _ h => h) (Or.inl ⟨by rfl, ?hyq3⟩) hS0 ?restq3
          case hyq3 => exact fun w hSw => yield_load (p := .pointer (some ⟨b, off + 2 * k * 32, none⟩)) rfl rfl hSw.1
          simp only [Act.put, List.setIfInBounds_toArray, List.set_cons_zero, List.set_cons_succ]
          refine wpAnyD_takeT 4 17 (v := ?vvq4) rfl rfl (by kernel_rfl) (by kernel_rfl) (by kernel_rfl) (by kernel_rfl) (fun _ _ _ h => h) (Or.inl ⟨by rfl, ?hyq4⟩) hS0 ?restq4
          case hyq4 => (intro w hSw; (try dsimp only at hSw); go_simp; try with_reducible rfl)
          simp only [Act.put, List.setIfInBounds_toArray, List.set_cons_zero, List.set_cons_succ]
          refine wpAnyD_takeT 5 18 (v := ?vvq5) rfl rfl (by kernel_rfl) (by kernel_rfl) (by kernel_rfl) (by kernel_rfl) (fun _ _ _ h => h) (Or.inl ⟨by rfl, ?hyq5⟩) hS0 ?restq5
          case hyq5 => (intro w hSw; (try dsimp only at hSw); go_simp; try with_reducible rfl)
          simp only [Act.put, List.setIfInBounds_toArray, List.set_cons_zero, List.set_cons_succ]
          refine wpAnyD_takeT 6 19 (v := ?vvq6) rfl rfl (by kernel_rfl) (by kernel_rfl) (by kernel_rfl) (by kernel_rfl) (fun _ _ _ h => h) (Or.inl ⟨by rfl, ?hyq6⟩) hS0 ?restq6
          case hyq6 => (intro w hSw; (try dsimp only at hSw); go_simp; try with_reducible rfl)
          simp only [Act.put, List.setIfInBounds_toArray, List.set_cons_zero, List.set_cons_succ]
          refine wpAnyD_takeT 7 20 (v := ?vvq7) rfl rfl (by kernel_rfl) (by kernel_rfl) (by kernel_rfl) (by kernel_rfl) (fun _ _ _ h => h) (Or.inl ⟨by rfl, ?hyq7⟩) hS0 ?restq7
          case hyq7 => (intro w hSw; (try dsimp only at hSw); go_simp; try with_reducible rfl)
          simp only [Act.put, List.setIfInBounds_toArray, List.set_cons_zero, List.set_cons_succ]
          refine wpAnyD_takeT 8 21 (v := ?vvq8) rfl rfl (by kernel_rfl) (by kernel_rfl) (by kernel_rfl) (by kernel_rfl) (fun _ _ _ h => h) (Or.inl ⟨by rfl, ?hyq8⟩) hS0 ?restq8
          case hyq8 => (intro w hSw; (try dsimp only at hSw); go_simp; try with_reducible rfl)
          simp only [Act.put, List.setIfInBounds_toArray, List.set_cons_zero, List.set_cons_succ]
          refine wpAnyD_takeT 9 22 (v := ?vvq9) rfl rfl (by kernel_rfl) (by kernel_rfl) (by kernel_rfl) (by kernel_rfl) (fun _ _ _ h => h) (Or.inl ⟨by rfl, ?hyq9⟩) hS0 ?restq9
          case hyq9 => (intro w hSw; (try dsimp only at hSw); go_simp; try with_reducible rfl)
          simp only [Act.put, List.setIfInBounds_toArray, List.set_cons_zero, List.set_cons_succ]
          refine wpAnyD_takeT 10 23 (v := ?vvq10) rfl rfl (by kernel_rfl) (by kernel_rfl) (by kernel_rfl) (by kernel_rfl) (fun _ _ _ h => h) (Or.inl ⟨by rfl, ?hyq10⟩) hS0 ?restq10
          case hyq10 => (intro w hSw; (try dsimp only at hSw); go_simp; try with_reducible rfl)
          simp only [Act.put, List.setIfInBounds_toArray, List.set_cons_zero, List.set_cons_succ]
          refine wpAnyD_takeT 11 24 (v := ?vvq11) rfl rfl (by kernel_rfl) (by kernel_rfl) (by kernel_rfl) (by kernel_rfl) (fun _ _ _ h => h) (Or.inl ⟨by rfl, ?hyq11⟩) hS0 ?restq11
          case hyq11 => (intro w hSw; (try dsimp only at hSw); go_simp; try with_reducible rfl)
          simp only [Act.put, List.setIfInBounds_toArray, List.set_cons_zero, List.set_cons_succ]
          refine wpAnyD_takeT 12 25 (v := .agg (ob (h (2 * k))).toArray) rfl rfl (by kernel_rfl) (by kernel_rfl) (by kernel_rfl) (by kernel_rfl) (fun _ _ _ h => h) (Or.inl ⟨by rfl, ?hyq12⟩) hS0 ?restq12
          case hyq12 => exact fun w hSw => yield_load (p := .pointer (some ⟨b, off + (2 * k) * 32, none⟩)) rfl rfl hSw.2
          simp only [Act.put, List.setIfInBounds_toArray, List.set_cons_zero, List.set_cons_succ]
          clear hS0
          refine wpAnyD_two 13 14 (by kernel_rfl) rfl rfl (fun KK hK => ?qf) (fun KK hK => ?qs)
          case qf =>
            go_simp
            refine hK.out _ _ (fun _ => KEY.out _ ((Below.refl _ _).drew.alloc (by simp) _)) ?_
            clear hK KK
            refine wpAnyD_one 14 (by kernel_rfl) rfl (fun KK hK => ?_)
            go_simp
            refine hK.out _ _ (fun _ => KEY.out _ (((Below.refl _ _).drew.alloc (by simp) _).alloc (by simp) _)) ?_
            clear hK KK
            have ST := two_stores wr (h (2 * k)) (h (2 * k)) hl1 hl2
            change wpAnyD _ _ _ _ _ _ _ _ _ ((wr.drew.alloc (Obj.cells (ob zeroH).toArray 24)).alloc (Obj.cells (ob zeroH).toArray 24))
            refine wpAnyD_one 15 (by kernel_rfl) rfl (fun KK hK => ?_)
            rw [if_pos (show Region.wanted _ _ = true from rfl)]
            refine wp_store_blk 24 _ _ rfl wr.heap.size (ob (h (2 * k))) (by rfl) (by rfl) 24 _ ST.k0 (by rw [ob_length, hl1]; exact sizeH) (by rw [ob_length, ob_length, hl1]; rfl) (ob_oneCell _) ?_
            refine hK.out _ _ (fun h => by cases h) ?_
            clear hK KK
            refine wpAnyD_one 16 (by kernel_rfl) rfl (fun KK hK => ?_)
            rw [if_pos (show Region.wanted _ _ = true from rfl)]
            refine wp_store_blk 24 _ _ rfl (wr.heap.size + 1) (ob (h (2 * k))) (by rfl) (by rfl) 24 _ ST.k1f (by rw [ob_length, hl2]; exact sizeH) (by rw [ob_length, ob_length, hl2]; rfl) (ob_oneCell _) ?_
            refine hK.out _ _ (fun h => by cases h) ?_
            clear hK KK
            refine wpAnyD_done (by kernel_rfl) ?_ _
            go_wp2
            go_meet
            exact ⟨wr.heap.size, (wr.heap.size + 1), rfl, rfl, ST.bf, ST.x0f, ST.y1f⟩
          case qs =>
            go_simp
            refine hK.out _ _ (fun _ => KEY.out _ ((Below.refl _ _).drew.alloc (by simp) _)) ?_
            clear hK KK
            refine wpAnyD_one 13 (by kernel_rfl) rfl (fun KK hK => ?_)
            go_simp
            refine hK.out _ _ (fun _ => KEY.out _ (((Below.refl _ _).drew.alloc (by simp) _).alloc (by simp) _)) ?_
            clear hK KK
            have ST := two_stores wr (h (2 * k)) (h (2 * k)) hl1 hl2
            change wpAnyD _ _ _ _ _ _ _ _ _ ((wr.drew.alloc (Obj.cells (ob zeroH).toArray 24)).alloc (Obj.cells (ob zeroH).toArray 24))
            refine wpAnyD_one 15 (by kernel_rfl) rfl (fun KK hK => ?_)
            rw [if_pos (show Region.wanted _ _ = true from rfl)]
            refine wp_store_blk 24 _ _ rfl (wr.heap.size + 1) (ob (h (2 * k))) (by rfl) (by rfl) 24 _ ST.k1 (by rw [ob_length, hl1]; exact sizeH) (by rw [ob_length, ob_length, hl1]; rfl) (ob_oneCell _) ?_
            refine hK.out _ _ (fun h => by cases h) ?_
            clear hK KK
            refine wpAnyD_one 16 (by kernel_rfl) rfl (fun KK hK => ?_)
            rw [if_pos (show Region.wanted _ _ = true from rfl)]
            refine wp_store_blk 24 _ _ rfl wr.heap.size (ob (h (2 * k))) (by rfl) (by rfl) 24 _ ST.k0s (by rw [ob_length, hl2]; exact sizeH) (by rw [ob_length, ob_length, hl2]; rfl) (ob_oneCell _) ?_
            refine hK.out _ _ (fun h => by cases h) ?_
            clear hK KK
            refine wpAnyD_done (by kernel_rfl) ?_ _
            go_wp2
            go_meet
            exact ⟨(wr.heap.size + 1), wr.heap.size, rfl, rfl, ST.bs, ST.x1s, ST.y0s⟩
      case rest =>
        obtain ⟨g5, g6, rfl, rfl, bx, kx, ky⟩ := hcut
        have hz5 := kx.lt
        have hz6 := ky.lt
        have hzc := bx.size
        have s5 := Blk.bs kx 32 hl1 (by omega) hxB
        have s6 := Blk.bs ky 32 hl2 (by omega) hyB
        have TX := HHB.out.2.2.2.below bx
        have HS : Hid _ := And.intro s5 (And.intro s6 TX)
        clear s5 s6 TX kx ky HR
        go_wp2_with fail
        refine wp_regionD (fun _ => True) (fun _ => false) (by kernel_rfl) ?_
        have hS0 : True := trivial
        refine wpAnyD_takeT 0 26 (v := ?vvr0) rfl rfl (by kernel_rfl) (by kernel_rfl) (by kernel_rfl) (by kernel_rfl) (fun _ _ _ h => h) (Or.inl ⟨by rfl, ?hyr0⟩) hS0 ?restr0
        case hyr0 => (intro w hSw; (try dsimp only at hSw); go_simp; try with_reducible rfl)
        simp only [Act.put, List.setIfInBounds_toArray, List.set_cons_zero, List.set_cons_succ]
        refine wpAnyD_takeT 1 27 (v := .slice (some ⟨g5, 0, none⟩) 32 32) rfl rfl (by kernel_rfl) (by kernel_rfl) (by kernel_rfl) (by kernel_rfl) (fun _ _ _ h => h) (Or.inl ⟨by rfl, ?hyr1⟩) hS0 ?restr1
        case hyr1 => (intro w hSw; unfold execOp; go_simp)
        simp only [Act.put, List.setIfInBounds_toArray, List.set_cons_zero, List.set_cons_succ]
        refine wpAnyD_takeT 2 28 (v := .slice (some ⟨g6, 0, none⟩) 32 32) rfl rfl (by kernel_rfl) (by kernel_rfl) (by kernel_rfl) (by kernel_rfl) (fun _ _ _ h => h) (Or.inl ⟨by rfl, ?hyr2⟩) hS0 ?restr2
        case hyr2 => (intro w hSw; unfold execOp; go_simp)
        simp only [Act.put, List.setIfInBounds_toArray, List.set_cons_zero, List.set_cons_succ]
        refine wpAnyD_one 3 (by kernel_rfl) rfl (fun KK hK => ?_)
        rw [if_pos (show Region.wanted _ _ = true from rfl)]
        go_wp2_with fail
        refine hK.out _ _ (fun _ => trivial) ?_
        clear hK KK
        have bP : Below wc.heap.size wc (wc.drew.alloc (Obj.cells #[Value.slice (some ⟨g5, 0, none⟩) 32 32, Value.slice (some ⟨g6, 0, none⟩) 32 32] 22)) := ((Below.refl _ _).drew).alloc (by simp) _
        have kP : Blk (wc.drew.alloc (Obj.cells #[Value.slice (some ⟨g5, 0, none⟩) 32 32, Value.slice (some ⟨g6, 0, none⟩) 32 32] 22)) 22 wc.heap.size [Value.slice (some ⟨g5, 0, none⟩) 32 32, Value.slice (some ⟨g6, 0, none⟩) 32 32] := blk_new wc.drew 22 _
        have DH := doubleHash_calls wc.heap.size 2 2 (fun i => if i = 0 then some ⟨g5, 0, none⟩ else some ⟨g6, 0, none⟩) (fun _ => 32) (fun _ => 32) (fun i => if i = 0 then h (2 * k) else h r) _ (HS.out.2.2.below bP) (by omega) kP.lt
          (fun i hi => by rw [kP.cell]; rcases (show i = 0 ∨ i = 1 by omega) with rfl | rfl <;> rfl) (fun i hi => by rcases (show i = 0 ∨ i = 1 by omega) with rfl | rfl; exact HS.out.1.below bP; exact HS.out.2.1.below bP) (fun _ _ => by omega)
        have eC : catL (fun i => if i = 0 then h (2 * k) else h r) 2 = h (2 * k) ++ h r := by simp [catL]
        rw [eC, ← HHB.out.2.2.1] at DH
        have hnl : (nxt h n k).length = 32 := by rw [HHB.out.2.2.1]; exact dblL_len _
        have o1 := HHB.out.2.1.below bx
        have b01 : Below w.heap.size w wc := HHB.out.1.trans (bx.mono HHB.out.1.size)
        have zw := b01.size
        have zP := bP.size
        have HO : Hid _ := And.intro (o1.below bP) (b01.trans (bP.mono zw))
        clear kP o1 b01 HS eC bP bx
        refine wpAnyD_one 4 (by kernel_rfl) rfl (fun KK hK => ?_)
        rw [if_pos (show Region.wanted _ _ = true from rfl)]
        go_wp2_with fail
        refine DH.mono ?_
        rintro e w2 ⟨rfl, b2⟩
        have o2 := HO.out.1.below b2
        have zP2 := HO.out.2.size
        have b02 : Below w.heap.size w w2 := HO.out.2.trans (b2.mono zP2)
        clear b2 HO DH
        go_wp2_with fail
        refine hK.out _ _ (fun _ => trivial) ?_
        clear hK KK
        refine wpAnyD_one 5 (by kernel_rfl) rfl (fun KK hK => ?_)
        rw [if_pos (show Region.wanted _ _ = true from rfl)]
        refine wp_buildSlice_eq _ _ _ rfl (v := .slice (some ⟨w2.heap.size, 0, none⟩) 1 1) (w' := w2.alloc (Obj.cells (ob (nxt h n k)).toArray 24)) ?bs ?_
        · simp only [List.map_toArray, List.map_cons, List.map_nil]
          refine run_bs1x _ (nxt h n k) ?_ hnl w2
          go_simp
        refine hK.out _ _ (fun _ => trivial) ?_
        clear hK KK
        refine wpAnyD_one 6 (by kernel_rfl) rfl (fun KK hK => ?_)
        rw [if_pos (show Region.wanted _ _ = true from rfl)]
        refine wp_appH _ _ rfl w.heap.size a2 k c2 (nxt h n) rfl o2 (nxt h n k) hnl rfl (by omega) b02.size ?_
        intro a7 c7 w7 o7 b7 _
        have b17 : Below w.heap.size w w7 := b02.trans b7
        replace o7 := ohs_upd o7
        clear o2 b02 b7 
        refine hK.out _ _ (fun _ => trivial) ?_
        clear hK KK
        refine wpAnyD_one 7 (by kernel_rfl) rfl (fun KK hK => ?_)
        go_simp
        refine hK.out _ _ (fun _ => trivial) ?_
        clear hK KK
        refine wpAnyD_done (by kernel_rfl) ?_ _
        clear HHB
        go_wp2
        go_roundw
        case rel => exact ⟨k + 1, a7, c7, by omega, by go_num, rfl, b17, o7⟩
        case measure => simp [intOf]; omega
    · have hk2 : k = (n + 1) / 2 := by omega
      subst hk2
      go_wp2
      go_ret
      exact ⟨a2, c2, rfl, hb, ho⟩

set_option maxHeartbeats 4000000 in
set_option maxRecDepth 100000 in
theorem implMerkle_calls (a : Option Addr) (n c : Nat) (h : Nat → List Int) (w : World) (T : Tabs w) (H : RHs w a n c h) (hn : n ≤ 1048576) :
    Calls Tryd.prog 14 #[.slice a n c] w fun e w' => e = .returned (.agg (ob (merkL h n)).toArray) ∧ Below w.heap.size w w' := by
  have k0 := blk_new w 24 (ob zeroH).toArray
  have b0 : Below w.heap.size w (w.alloc (Obj.cells (ob zeroH).toArray 24)) := (Below.refl _ _).alloc (Nat.le_refl _) _
  go_enter Tryd.func14, Tryd.ntmps14
  go_upto_region 1 with fail
  change Code.wp _ _ _ _ (w.alloc (Obj.cells (ob zeroH).toArray 24))
  generalize w.alloc (Obj.cells (ob zeroH).toArray 24) = w0 at *
  have H0 := H.below b0
  have T0 := T.below b0
  by_cases hbad : n = 0 ∨ 1000 < n
  · have HM : Hid (merkL h n = zeroH) := by show _ = _; unfold merkL; rw [if_pos hbad]
    have s1 : (Tryd.prog.info? 24).map (·.size) = some (ob zeroH).toArray.size := sizeH
    have kF := k0.setRow (ob zeroH)
    have oF := onlyB_setRow w0 w.heap.size (ob zeroH).toArray
    have bF : Below w.heap.size w (w0.setRow w.heap.size (ob zeroH).toArray) := b0.trans (oF.below (Nat.le_refl _) b0.size)
    rcases hbad with e | e
    · subst e
      go_upto_region 2 with fail
      go_wp2_with (refine wpList_store_row rfl 24 _ _ rfl w.heap.size (ob zeroH).toArray rfl rfl 24 _ k0 s1 rfl (ob_all _) ?_)
      refine bodyPost_ret (v := .agg (ob zeroH).toArray) ?_ rfl ⟨rfl, bF⟩
      exact results_cell_row Tryd.results14 _ _ w.heap.size 24 (ob zeroH).toArray (0, 0) _ rfl kF Tryd.underlying24 rfl s1
    · have e1 : ((n : Int) == 0) = false := by simp; omega
      have e2 : (1000 : Int) < (n : Int) := by omega
      go_upto_region 2 with fail
      go_wp2_with (refine wpList_store_row rfl 24 _ _ rfl w.heap.size (ob zeroH).toArray rfl rfl 24 _ k0 s1 rfl (ob_all _) ?_)
      refine bodyPost_ret (v := .agg (ob zeroH).toArray) ?_ rfl ⟨by rw [HM.out], bF⟩
      exact results_cell_row Tryd.results14 _ _ w.heap.size 24 (ob zeroH).toArray (0, 0) _ rfl kF Tryd.underlying24 rfl s1
  · have hn0 : n ≠ 0 := fun e => hbad (Or.inl e)
    have hn1 : n ≤ 1000 := by rcases Nat.lt_or_ge 1000 n with h1 | h1; exact absurd (Or.inr h1) hbad; exact h1
    have HM : Hid (merkL h n = rootF n h n) := by show _ = _; unfold merkL; rw [if_neg hbad]
    have e1 : ((n : Int) == 0) = false := by simp; omega
    have e2 : ¬ (1000 : Int) < (n : Int) := by omega
    have HK : Hid _ := And.intro k0 (And.intro b0 (And.intro H0 T0))
    clear hbad k0 b0 H0 H T T0
    go_wp2
    go_loopw [0] (fun o wr => ∃ f h' n' a' c', o = .slice a' n' c' ∧ 1 ≤ n' ∧ n' ≤ 1000 ∧ n' ≤ f + 1 ∧ rootF n h n = rootF f h' n' ∧ RHs wr a' n' c' h' ∧ Below w0.heap.size w0 wr) (fun o _ => slen o)
    case atStart => exact ⟨n, h, n, a, c, rfl, by omega, hn1, by omega, rfl, HK.out.2.2.1, Below.refl _ _⟩
    case round =>
      obtain ⟨f, h', n', a', c', rfl, hp1, hp2, hf, hroot, HR, hb⟩ := hrel
      by_cases hlt : 1 < n'
      · have h1n : (1 : Int) < (n' : Int) := by omega
        have TR := HK.out.2.2.2.below hb
        go_wp2_with fail
        refine (pairHashes_calls a' n' c' h' wr TR HR hp2).mono ?_
        rintro e w2 ⟨a2, c2, rfl, b2, o2⟩
        have HO : RHs w2 a2 ((n' + 1) / 2) c2 (nxt h' n') := o2.reads (nxt_ok h' n' _)
        obtain ⟨f', rfl⟩ : ∃ f', f = f' + 1 := ⟨f - 1, by omega⟩
        have hr := hroot
        rw [rootF_step f' h' n' hlt] at hr
        have b02 : Below w0.heap.size w0 w2 := hb.trans (b2.mono hb.size)
        obtain ⟨m, hm⟩ : ∃ m, m = (n' + 1) / 2 := ⟨_, rfl⟩
        rw [← hm] at HO hr ⊢
        have hm1 : 2 * m ≤ n' + 1 ∧ n' ≤ 2 * m := by omega
        have HF : Hid _ := And.intro HO (And.intro b02 hr)
        clear HO b02 hr o2 b2 hb HR TR hroot hm
        go_wp2
        go_roundw
        case rel => exact ⟨f', nxt h' n', m, a2, c2, rfl, by omega, by omega, by omega, HF.out.2.2, HF.out.1, HF.out.2.1⟩
        case measure => simp [slen]; omega
      · have hn1' : n' = 1 := by omega
        subst hn1'
        obtain ⟨b, off, rfl, hbl, hcc⟩ := HR.at_ (by omega)
        have hl0 := HR.ok.len 0 (by omega)
        have hcells := HR.cells 0 (by omega)
        rw [Nat.zero_mul, Nat.add_zero] at hcells
        have hres : merkL h n = h' 0 := by rw [HM.out, hroot, rootF_one]
        have s1 : (Tryd.prog.info? 24).map (·.size) = some (ob (h' 0)).length := by rw [ob_length, hl0]; exact sizeH
        have s1' : (Tryd.prog.info? 24).map (·.size) = some (ob (h' 0)).toArray.size := by rw [ob_size, hl0]; exact sizeH
        have kR := HK.out.1.below hb
        have kF := kR.setRow (ob (h' 0))
        have oF := onlyB_setRow wr w.heap.size (ob (h' 0)).toArray
        have e0 : Below w.heap.size w wr := HK.out.2.1.trans (hb.mono HK.out.2.1.size)
        have bF : Below w.heap.size w (wr.setRow w.heap.size (ob (h' 0)).toArray) := e0.trans (oF.below (Nat.le_refl _) e0.size)
        have sz : (ob zeroH).toArray.size = (ob (h' 0)).toArray.size := by rw [ob_size, ob_size, hl0]; rfl
        go_upto_region 5 with fail
        go_wp2_with (first | (refine wpList_load_at rfl 24 _ rfl b off rfl (ob (h' 0)) _ hcells Tryd.underlying24 rfl s1 ?_) | (refine wpList_store_row rfl 24 _ _ rfl w.heap.size (ob (h' 0)).toArray rfl rfl 24 _ kR s1' sz (ob_all _) ?_))
        refine bodyPost_ret (v := .agg (ob (h' 0)).toArray) ?_ rfl ⟨by rw [hres], bF⟩
        exact results_cell_row Tryd.results14 _ _ w.heap.size 24 (ob (h' 0)).toArray (0, 0) _ rfl kF Tryd.underlying24 rfl s1'
end Go.Proofs.YtmlkcfckdmihaaaDoor
