/- The double hash. -/
import Derived.Test.YthobegpfibfocaaDoorImplSha
import Derived.Test.YthobegpfibfocaaDoorSpecSha
import Derived.Test.YthobegpfibfocaaDoorHashFns
namespace Go.Proofs.YthobegpfibfocaaDoor
open Go.RowKit
set_option linter.unusedVariables false

theorem shaL_isB (l : List Int) : IsB (shaL l) := by
  intro j
  by_cases hj : j < 32
  · unfold shaL
    rw [bytes_getD _ j hj, ← bigN_4]
    exact bigN_isB _ _ _
  · have := shaL_len l
    simp [List.getD, this, hj]
/-- The double hash. -/
def dblL (l : List Int) : List Int := shaL (shaL l)
theorem dblL_len (l : List Int) : (dblL l).length = 32 := shaL_len _
theorem dblL_isB (l : List Int) : IsB (dblL l) := shaL_isB _

set_option maxHeartbeats 1000000 in
set_option maxRecDepth 100000 in
theorem l5Double_calls (a : Option Addr) (n c : Nat) (l : List Int) (w : World) (h : Bs w a n c l) (hn : n ≤ 1048576) :
    Calls Tryd.prog 40 #[.slice a n c] w fun e w' => e = .returned (.agg (ob (dblL l)).toArray) ∧ Below w.heap.size w w' := by
  have k0 := blk_new w 24 (ob (List.replicate 32 0)).toArray
  have b0 : Below w.heap.size w (w.alloc (Obj.cells (ob (List.replicate 32 0)).toArray 24)) := (Below.refl _ _).alloc (Nat.le_refl _) _
  have s1 : (Tryd.prog.info? 24).map (·.size) = some (ob (dblL l)).toArray.size := by rw [ob_size, dblL_len]; exact sizeH
  go_enter Tryd.func40, Tryd.ntmps40
  go_upto_region 1 with fail
  change Code.wp _ _ _ _ (w.alloc (Obj.cells (ob (List.replicate 32 0)).toArray 24))
  generalize w.alloc (Obj.cells (ob (List.replicate 32 0)).toArray 24) = w0 at *
  have h0 := h.below b0
  have HK : Hid _ := And.intro k0 b0
  go_wp2_with fail
  refine (specSha_calls a n c l w0 h0 hn).mono ?_
  rintro e w1 ⟨rfl, b1⟩
  have k1 := k0.below b1
  clear k0 h0 b0 h
  unfold hA
  go_wp2_with fail
  refine (l5Of_calls (shaL l) w1 (shaL_len l) (shaL_isB l)).mono ?_
  rintro e w2 ⟨a2, c2, rfl, b2, o2⟩
  have k2 := k1.below b2
  go_wp2_with fail
  refine (specSha_calls a2 32 c2 (shaL l) w2 (o2.bs (shaL_isB l)) (by omega)).mono ?_
  rintro e w3 ⟨rfl, b3⟩
  have k3 := k2.below b3
  have kF := k3.setRow (ob (dblL l))
  have oF := onlyB_setRow w3 w.heap.size (ob (dblL l)).toArray
  have e3 : Below w.heap.size w w3 := ((HK.out.2.trans (b1.mono HK.out.2.size)).trans (b2.mono (Nat.le_trans HK.out.2.size b1.size))).trans (b3.mono (Nat.le_trans HK.out.2.size (Nat.le_trans b1.size b2.size)))
  have bF : Below w.heap.size w (w3.setRow w.heap.size (ob (dblL l)).toArray) := e3.trans (oF.below (Nat.le_refl _) e3.size)
  have HE : Hid (hA (shaL (shaL l)) = .agg (ob (dblL l)).toArray) := rfl
  rw [HE.out]
  go_wp2_with (refine wpList_store_row rfl 24 _ _ rfl w.heap.size (ob (dblL l)).toArray rfl rfl 24 _ k3 s1 ?o1 (ob_all _) ?_)
  case o1 => rw [ob_size, ob_size, dblL_len]; rfl
  refine bodyPost_ret (v := .agg (ob (dblL l)).toArray) ?_ rfl ⟨rfl, bF⟩
  exact results_cell_row Tryd.results40 _ _ w.heap.size 24 (ob (dblL l)).toArray (0, 0) _ rfl kF Tryd.underlying24 rfl s1

/-- A hash in a block of its own, as bytes. -/
theorem Blk.bs {w : World} {t g : Nat} {l : List Int} (h : Blk w t g (ob l)) (n : Nat) (hl : l.length = n) (hn : n ≤ 1048576) (hB : IsB l) : Bs w (some ⟨g, 0, none⟩) n n l :=
  ⟨hl, Nat.le_refl _, by unfold maxLen; omega, fun e => (by cases e), fun hp => ⟨g, 0, rfl, h.lt, fun i hi => by rw [Nat.zero_add, h.cell]; exact ob_getElem? l i (by omega)⟩, hB⟩
theorem run_whole (g : Nat) (w : World) : (Instr.sliceAt 24 (.pointer (some ⟨g, 0, none⟩)) none none none).run Tryd.prog w = .ok (.slice (some ⟨g, 0, none⟩) 32 32) w := by
  have e1 : Tryd.prog.arrayLen 24 = 32 := by kernel_rfl
  have e2 : Tryd.prog.elem 24 = 5 := by kernel_rfl
  have hu : Tryd.prog.underlying 24 = some (.array (Tryd.prog.arrayLen 24) (Tryd.prog.elem 24)) := by rw [e1, e2]; exact Tryd.underlying24
  rw [run_sliceAt_array_all w 24 _ hu, e1, e2]
  obtain ⟨i, hi, hz0, hz1, hz2⟩ := info_parts info5
  simp [sizeOf, typeInfo, hi, hz1, slicedAt, Result.andThen, Addr.add_lit]

/-- So many pieces, one behind the other. -/
def catL (L : Nat → List Int) : Nat → List Int
  | 0 => []
  | k + 1 => catL L k ++ L k
theorem catL_len (L : Nat → List Int) (N : Nat → Nat) : ∀ k, (∀ i, i < k → (L i).length = N i ∧ N i ≤ 1048576) → (catL L k).length ≤ k * 1048576
  | 0, _ => by simp [catL]
  | k + 1, h => by
    have := catL_len L N k (fun i hi => h i (by omega))
    have := h k (by omega)
    simp [catL]
    omega

set_option maxHeartbeats 2000000 in
set_option maxRecDepth 100000 in
theorem doubleHash_calls (gp n c : Nat) (A : Nat → Option Addr) (N C : Nat → Nat) (L : Nat → List Int) (w : World) (T : Tabs w) (hn : n ≤ 2) (hgp : gp < w.heap.size)
    (hc : ∀ i, i < n → w.cell? ⟨gp, i, none⟩ = some (.slice (A i) (N i) (C i))) (hL : ∀ i, i < n → Bs w (A i) (N i) (C i) (L i)) (hN : ∀ i, i < n → N i ≤ 1000000) :
    Calls Tryd.prog 50 #[.slice (some ⟨gp, 0, none⟩) n c] w fun e w' => e = .returned (.agg (ob (dblL (catL L n))).toArray) ∧ Below w.heap.size w w' := by
  have k0 := blk_new w 24 (ob (List.replicate 32 0)).toArray
  have b0 : Below w.heap.size w (w.alloc (Obj.cells (ob (List.replicate 32 0)).toArray 24)) := (Below.refl _ _).alloc (Nat.le_refl _) _
  have s1 : (Tryd.prog.info? 24).map (·.size) = some (ob (dblL (catL L n))).toArray.size := by rw [ob_size, dblL_len]; exact sizeH
  have s2 : (Tryd.prog.info? 24).map (·.size) = some (ob (shaL (catL L n))).toArray.size := by rw [ob_size, shaL_len]; exact sizeH
  go_enter Tryd.func50, Tryd.ntmps50
  go_wp2_with fail
  change Calls _ _ _ (w.alloc (Obj.cells (ob (List.replicate 32 0)).toArray 24)) _
  generalize w.alloc (Obj.cells (ob (List.replicate 32 0)).toArray 24) = w0 at *
  refine (newHasher_calls w0 (T.below b0)).mono ?_
  rintro e w1 ⟨rfl, b1, H1, z1⟩
  have b01 : Below w.heap.size w w1 := b0.trans (b1.mono b0.size)
  have T1 := (T.below b0).below b1
  have k1 := k0.below b1
  have hne := H1.ne
  have hk0 := k0.lt
  have hblk : ∀ i, i < n → 0 < N i → ∀ g off, A i = some ⟨g, off, none⟩ → g ≠ w0.heap.size := fun i hi hp g off e => by
    obtain ⟨b', off', e', hlt', _⟩ := (hL i hi).at_ hp
    rw [e] at e'
    cases e'
    omega
  have HB : Hid _ := And.intro b01 (And.intro T1 (And.intro k1 (And.intro H1 (And.intro hblk (And.intro hc hL)))))
  clear T k0 b0 b1 T1 k1 H1 hblk hc hL b01
  go_wp2
  go_loopw [10] (fun i wr => ∃ k, k ≤ n ∧ i = .int .i64 (k : Nat) ∧ OnlyB w0.heap.size w1 wr ∧ HSt wr w0.heap.size (catL L k)) (fun i _ => n - (intOf i).toNat)
  case atStart => exact ⟨0, Nat.zero_le _, rfl, OnlyB.refl _ _, HB.out.2.2.2.1⟩
  case round =>
    obtain ⟨k, hk, rfl, ho, hs⟩ := hrel
    obtain ⟨b01, T1, k1, H1, hblk, hc, hL⟩ := HB.out
    by_cases hlt : k < n
    · have cc : wr.cell? ⟨gp, k, none⟩ = some (.slice (A k) (N k) (C k)) := by
        rw [World.cell?_of_block (a := ⟨gp, k, none⟩) (ho.block gp (Nat.lt_of_lt_of_le hgp b01.size) (by omega)), b01.cell (p := ⟨gp, k, none⟩) hgp]
        exact hc k hlt
      have hbs : Bs wr (A k) (N k) (C k) (L k) := by
        have h1 := (hL k hlt).below b01
        have h0 := hL k hlt
        exact ⟨h1.len_eq, h1.le, h1.le', h1.nil, fun hp => by
          obtain ⟨b', off', e', hlt', hcell⟩ := h1.at_ hp
          have hn' := hblk k hlt hp b' off' e'
          exact ⟨b', off', e', Nat.lt_of_lt_of_le hlt' ho.size, fun i hi => by rw [World.cell?_of_block (a := ⟨b', off' + i, none⟩) (ho.block b' hlt' hn')]; exact hcell i hi⟩, h1.byte⟩
      have hlen := catL_len L N k (fun i hi => ⟨(hL i (by omega)).len_eq, by have := hN i (by omega); omega⟩)
      have hNk := hN k hlt
      have W4 := write_calls w0.heap.size (catL L k) (A k) (N k) (C k) (L k) wr (T1.only ho hne.1 hne.2) hs hbs (hblk k hlt) (by omega)
      have hkn : (k : Int) < (n : Int) := by omega
      clear hs hbs
      go_wp2_with fail
      refine W4.mono ?_
      rintro e w3 ⟨rfl, o3, H3⟩
      have o4 := ho.trans o3
      clear W4 ho o3
      go_wp2
      go_roundw
      case rel => exact ⟨k + 1, by omega, by go_num, o4, H3⟩
      case measure => simp [intOf]; omega
    · have e : k = n := by omega
      subst e
      have hlen := catL_len L N k (fun i hi => ⟨(hL i (by omega)).len_eq, by have := hN i (by omega); omega⟩)
      have T2 := T1.only ho hne.1 hne.2
      have k2 := k1.only ho (by omega)
      have SU := sum_calls w0.heap.size (catL L k) wr T2 hs (by omega)
      unfold hA at SU
      clear hc hL hblk hs
      go_wp2_with fail
      refine SU.mono ?_
      rintro e w3 ⟨rfl, o3⟩
      have T3 := T2.only o3 hne.1 hne.2
      have k3 := k2.only o3 (by omega)
      have e3 : Below w.heap.size w w3 := b01.trans (((ho.trans o3).below (by omega) b01.size))
      clear SU T2 k2 o3 ho k1 T1
      go_wp2_with (refine wpList_storeNew rfl 24 _ _ rfl w3 _ (ob (shaL (catL L k))).toArray 24 rfl rfl s2 ?z2 (ob_all _) ?_)
      case z2 => rw [ob_size, shaL_len]; rfl
      have k4 := blk_new w3 24 (ob (shaL (catL L k))).toArray
      have q4 : Below w3.heap.size w3 (w3.alloc (Obj.cells (ob (shaL (catL L k))).toArray 24)) := (Below.refl _ _).alloc (Nat.le_refl _) _
      have IM := implSha_calls (some ⟨w3.heap.size, 0, none⟩) 32 32 (shaL (catL L k)) (w3.alloc (Obj.cells (ob (shaL (catL L k))).toArray 24)) (T3.below q4) (Blk.bs k4 32 (shaL_len _) (by omega) (shaL_isB _)) (by omega)
      refine IM.mono ?_
      rintro e w5 ⟨rfl, b5⟩
      have k5 := (k3.below q4).below b5
      have e5 : Below w.heap.size w w5 := (e3.trans (q4.mono e3.size)).trans (b5.mono (Nat.le_trans e3.size q4.size))
      have kF := k5.setRow (ob (dblL (catL L k)))
      have oF := onlyB_setRow w5 w.heap.size (ob (dblL (catL L k))).toArray
      have bF : Below w.heap.size w (w5.setRow w.heap.size (ob (dblL (catL L k))).toArray) := e5.trans (oF.below (Nat.le_refl _) e5.size)
      have HE : Hid (hA (shaL (shaL (catL L k))) = .agg (ob (dblL (catL L k))).toArray) := rfl
      rw [HE.out]
      clear IM k4 q4 b5 T3 k3
      go_wp2_with (refine wpList_store_row rfl 24 _ _ rfl w.heap.size (ob (dblL (catL L k))).toArray rfl rfl 24 _ k5 s1 ?o1 (ob_all _) ?_)
      case o1 => rw [ob_size, ob_size, dblL_len]; rfl
      refine bodyPost_ret (v := .agg (ob (dblL (catL L k))).toArray) ?_ rfl ⟨rfl, bF⟩
      exact results_cell_row Tryd.results50 _ _ w.heap.size 24 (ob (dblL (catL L k))).toArray (0, 0) _ rfl kF Tryd.underlying24 rfl s1
end Go.Proofs.YthobegpfibfocaaDoor
