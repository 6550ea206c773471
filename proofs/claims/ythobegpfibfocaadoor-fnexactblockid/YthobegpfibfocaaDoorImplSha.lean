/- Sha256: the program. -/
import Derived.Test.YthobegpfibfocaaDoorImplSum
namespace Go.Proofs.YthobegpfibfocaaDoor
open Go.RowKit
set_option linter.unusedVariables false

def zero64L : List Int := List.replicate 64 0
theorem built_hasher : Tryd.prog.built 112 [(0, .agg (ow startR.list).toArray)] = some (hx startR zero64L 0).toArray := by kernel_rfl

set_option maxHeartbeats 1000000 in
set_option maxRecDepth 100000 in
theorem newHasher_calls (w : World) (T : Tabs w) :
    Calls Tryd.prog 37 #[] w fun e w' => e = .returned (.pointer (some ⟨w.heap.size, 0, none⟩)) ∧ Below w.heap.size w w' ∧ HSt w' w.heap.size [] ∧ w'.heap.size = w.heap.size + 1 := by
  have hc : ∀ j u, (ow startR.list)[j]? = some u → w.cell? ⟨0, 0 + j, none⟩ = some u := fun j u hu => by
    have hj : j < 8 := (List.getElem?_eq_some_iff.1 hu).1
    rw [Nat.zero_add, T.s j hj, ← hu]
    exact (ow_getElem? startR.list j hj).symm
  have hB := built_hasher
  go_enter Tryd.func37, Tryd.ntmps37
  go_wp2_with (first | (refine wpList_load_at rfl 109 _ rfl 0 0 rfl (ow startR.list) _ hc Tryd.underlying109 rfl sizeV ?_) | (refine wpList_build rfl 112 _ rfl ?hf ?_))
  go_ret
  refine ⟨rfl, (Below.refl _ _).alloc (Nat.le_refl _) _, ⟨zero64L, ⟨blk_new w 112 (hx startR zero64L 0).toArray, rfl, isB_rep 64, startR_ok, ?_, ?_⟩, rfl⟩, by simp⟩
  · have := T.lt; omega
  · have := T.lt; omega

set_option maxHeartbeats 1000000 in
set_option maxRecDepth 100000 in
theorem implSha_calls (a : Option Addr) (n c : Nat) (l : List Int) (w : World) (T : Tabs w) (h : Bs w a n c l) (hn : n ≤ 1048576) :
    Calls Tryd.prog 10 #[.slice a n c] w fun e w' => e = .returned (hA (shaL l)) ∧ Below w.heap.size w w' := by
  have k0 := blk_new w 24 (ob (List.replicate 32 0)).toArray
  have b0 : Below w.heap.size w (w.alloc (Obj.cells (ob (List.replicate 32 0)).toArray 24)) := (Below.refl _ _).alloc (Nat.le_refl _) _
  have hl := h.len_eq
  go_enter Tryd.func10, Tryd.ntmps10
  go_wp2_with fail
  change Calls _ _ _ (w.alloc (Obj.cells (ob (List.replicate 32 0)).toArray 24)) _
  generalize w.alloc (Obj.cells (ob (List.replicate 32 0)).toArray 24) = w0 at *
  refine (newHasher_calls w0 (T.below b0)).mono ?_
  rintro e w1 ⟨rfl, b1, H1, z1⟩
  have T1 := (T.below b0).below b1
  have h1 := (h.below b0).below b1
  have k1 := k0.below b1
  have hne := H1.ne
  have hlt := H1.lt
  have hk0 := k0.lt
  have hblk : 0 < n → ∀ g off, a = some ⟨g, off, none⟩ → g < w.heap.size := fun hp g off e => by
    obtain ⟨b', off', e', hlt', _⟩ := h.at_ hp
    rw [e] at e'
    cases e'
    exact hlt'
  have HB : Hid _ := And.intro b0 b1
  clear T h k0 b0 b1
  go_wp2_with fail
  refine (write_calls w0.heap.size [] a n c l w1 T1 H1 h1 ?_ (by simp; omega)).mono ?_
  · intro hp g off e
    have := hblk hp g off e
    omega
  rintro e w2 ⟨rfl, o2, H2⟩
  rw [List.nil_append] at H2
  have T2 := T1.only o2 hne.1 hne.2
  have k2 := k1.only o2 (by omega)
  go_wp2_with fail
  refine (sum_calls w0.heap.size l w2 T2 H2 (by rw [hl]; omega)).mono ?_
  rintro e w3 ⟨rfl, o3⟩
  have k3 := k2.only o3 (by omega)
  have s1 : (Tryd.prog.info? 24).map (·.size) = some (ob (shaL l)).toArray.size := by rw [ob_size, shaL_len]; exact sizeH
  have kF := k3.setRow (ob (shaL l))
  have oF := onlyB_setRow w3 w.heap.size (ob (shaL l)).toArray
  have bF : Below w.heap.size w (w3.setRow w.heap.size (ob (shaL l)).toArray) := by
    have e1 : Below w.heap.size w w1 := HB.out.1.trans (HB.out.2.mono HB.out.1.size)
    have e3 : Below w.heap.size w w3 := e1.trans (((o2.trans o3).below HB.out.1.size e1.size))
    exact e3.trans (oF.below (Nat.le_refl _) e3.size)
  unfold hA
  go_wp2_with (refine wpList_store_row rfl 24 _ _ rfl w.heap.size (ob (shaL l)).toArray rfl rfl 24 _ k3 s1 ?o1 (ob_all _) ?_)
  case o1 => rw [ob_size, ob_size, shaL_len]; rfl
  refine bodyPost_ret (v := .agg (ob (shaL l)).toArray) ?_ rfl ⟨rfl, bF⟩
  exact results_cell_row Tryd.results10 _ _ w.heap.size 24 (ob (shaL l)).toArray (0, 0) _ rfl kF Tryd.underlying24 rfl s1
end Go.Proofs.YthobegpfibfocaaDoor
