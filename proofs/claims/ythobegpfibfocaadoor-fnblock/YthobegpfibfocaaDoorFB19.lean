import Derived.Test.YthobegpfibfocaaDoorFB18
import Derived.Test.YthobegpfibfocaaDoorFB15
import Derived.Laws.BitsAllLaws
import Derived.Deep.DeepCutAuto
import Derived.Test.YthobegpfibfocaaDoorFB17
/- The draw of a block's bytes. -/
namespace Go.Proofs.YthobegpfibfocaaDoor
open Go.RowKit
set_option linter.unusedVariables false

theorem ownB_pos {B : Nat} {w : World} {a : Option Addr} {n c : Nat} {l : List Int} (h : Own B w a n c l) (hp : 0 < n) : ∃ g, a = some ⟨g, 0, none⟩ ∧ B ≤ g := by
  rcases h.2 with ⟨e, h0⟩ | ⟨g, cap, cur, e, hg, _⟩
  · omega
  · cases e
    exact ⟨g, rfl, hg⟩
theorem ownB_ne {B g : Nat} {w : World} {a : Option Addr} {n c : Nat} {l : List Int} (h : Own B w a n c l) (hg : g < B) : (Value.slice a n c).ownBlock ≠ some g := fun e => by
  have := (World.ownsRow.lt h g e).1
  omega
theorem ownB_set {B g : Nat} {w : World} {n c : Nat} {l : List Int} (h : Own B w (some ⟨g, 0, none⟩) n c l) (i : Nat) (u : Int) : Own B (w.setCell ⟨g, i, none⟩ (.int .u8 u)) (some ⟨g, 0, none⟩) n c (l.set i u) := by
  have h1 := (World.ownsRow.stored h i (.int .u8 u)).1
  rw [ob_set] at h1
  exact h1
theorem isB_setB {l : List Int} (h : IsB l) (i : Nat) {u : Int} (h0 : 0 ≤ u) (h1 : u < 256) : IsB (l.set i u) := fun j => by
  rw [List.getD_eq_getElem?_getD, List.getElem?_set]
  by_cases e : i = j
  · rw [if_pos e]
    by_cases hl : i < l.length
    · rw [if_pos hl]; exact ⟨h0, h1⟩
    · rw [if_neg hl]; exact ⟨by simp, by simp⟩
  · rw [if_neg e]
    have := h j
    rwa [List.getD_eq_getElem?_getD] at this
theorem xorB {x y : Int} (h0 : 0 ≤ x) (h1 : x < 256) (h2 : 0 ≤ y) (h3 : y < 256) : 0 ≤ bits .xor .u8 x y ∧ bits .xor .u8 x y < 256 := by
  rw [u8_xor x y h0 h1 h2 h3]
  have : x.toNat ^^^ y.toNat < 2 ^ 8 := Nat.xor_lt_two_pow (by omega) (by omega)
  omega

def txtF (k k1 k2 : Int) (E : List Int) : List Int :=
  if E.length = 0 then E else if k % 4 < 3 then E
  else if k % 3 = 0 then E.take ((k1 * 256 + k2).toNat % E.length)
  else if k % 3 = 1 then E ++ [0]
  else E.set ((k1 * 256 + k2).toNat % E.length) (bits .xor .u8 (E.getD ((k1 * 256 + k2).toNat % E.length) 0) (1 + k / 12 * 6))
/-- The bytes that are drawn at p, out of a block's bytes. -/
def txtL (l : List Int) (n p : Nat) (E : List Int) : List Int := txtF (l.getD p 0) (l.getD (rdP n p) 0) (l.getD (rdP n (rdP n p)) 0) E
theorem txtF_isB {k k1 k2 : Int} {E : List Int} (hE : IsB E) (h0 : 0 ≤ k) (h1 : k < 256) : IsB (txtF k k1 k2 E) := by
  unfold txtF
  split
  · exact hE
  · split
    · exact hE
    · split
      · exact isB_take hE _
      · split
        · exact isB_append hE (isB_one (by omega) (by omega))
        · have hx := hE ((k1 * 256 + k2).toNat % E.length)
          have := xorB hx.1 hx.2 (y := 1 + k / 12 * 6) (by omega) (by omega)
          exact isB_setB hE _ this.1 this.2
theorem txtF_len {k k1 k2 : Int} {E : List Int} : (txtF k k1 k2 E).length ≤ E.length + 1 := by
  unfold txtF
  split
  · omega
  · split
    · omega
    · split
      · rw [List.length_take]; omega
      · split
        · simp
        · rw [List.length_set]; omega

set_option maxHeartbeats 3000000 in
set_option maxRecDepth 100000 in
theorem l5Bytes_calls (g : Nat) (a : Option Addr) (n c : Nat) (l : List Int) (p : Nat) (w : World) (h : IsRd w g a n c l p) (v : BlV) (K : BlK) (B : Nat) (O : OBl B w v K) (hgB : g < B) (hn : K.nt ≤ 1048576) (hN : ∀ i, i < K.nt → (K.tx i).ni ≤ 1048576 ∧ (K.tx i).no ≤ 1048576) (T : List Int) (hTT : T = txtL l n p (encBlL K)) :
    Calls Tryd.prog 64 #[.pointer (some ⟨g, 0, none⟩), blval v K] w fun e w' => ∃ a' c', e = .returned (.slice a' T.length c') ∧ OnlyB g w w' ∧ Bs w' a' T.length c' T := by
  have ok := O.ok
  have hpts : ∀ i, i < K.nt → IsPts (K.tx i).P (K.tx i).ni := fun i hi => (O.txs.each i hi).pts
  have hEB := encBlL_isB ok hpts
  have hEL := encBlL_len ok hpts
  have hIB := h.bs.byte
  have hg := h.lt
  have sB : (Tryd.prog.info? 52).map (·.size) = some (blc v K).toArray.size := by rw [blc_size v ok]; exact sizeBl
  have q0 : Below w.heap.size w (w.alloc (Obj.cells (blc v K).toArray 52)) := (Below.refl _ _).alloc (Nat.le_refl _) _
  have k0 := blk_new w 52 (blc v K).toArray
  have z0 : (w.alloc (Obj.cells (blc v K).toArray 52)).heap.size = w.heap.size + 1 := by simp
  unfold blval
  go_enter Tryd.func64, Tryd.ntmps64
  go_upto_region 1 with fail
  change Code.wp _ _ _ _ (w.alloc (Obj.cells (blc v K).toArray 52))
  generalize w.alloc (Obj.cells (blc v K).toArray 52) = W0 at *
  have NX := next_calls g a n c l p W0 (h.below q0)
  have O0 := O.below q0
  have hTX : Hid (T = txtF (l.getD p 0) (l.getD (rdP n p) 0) (l.getD (rdP n (rdP n p)) 0) (encBlL K)) := hTT
  clear hTT
  obtain ⟨hk0, hk1⟩ := hIB p
  generalize l.getD p 0 = k at *
  go_wp2_with fail
  refine Calls.mono NX ?_
  rintro e w1 ⟨rfl, o1, r1⟩
  have O1 : OBl B w1 v K := ⟨O0.ok, O0.txs.only o1 hgB⟩
  have k1 : Blk w1 52 w.heap.size (blc v K) := Blk.only k0 o1 (by omega)
  have u1 := (Below.onlyB q0 g).trans o1
  have z1 := o1.size
  have SE := specEncBl_calls v K w1 O1.reads hn hN
  unfold blval at SE
  clear NX O0 k0 o1
  generalize encBlL K = E at *
  generalize hm : E.length = m at *
  go_wp2_with (refine wpList_load_row rfl 52 _ rfl w.heap.size rfl 52 (blc v K).toArray (0, 0) _ k1 Tryd.underlying52 rfl sB ?_)
  refine Calls.mono SE ?_
  rintro e w2 ⟨a2, c2, rfl, b2, o2⟩
  have r2 := r1.below b2
  have u2 := u1.thenN b2 (by omega)
  have hg1 : g < w1.heap.size := by omega
  have hm4 : k.tmod 4 = k % 4 := Int.tmod_eq_emod_of_nonneg hk0
  have HO : Hid _ := And.intro o2 (And.intro u2 r2)
  have zz2 : w1.heap.size ≤ w2.heap.size := b2.size
  have zw1 : w.heap.size ≤ w1.heap.size := by omega
  clear SE k1 sB O1 r1 b2 u1 q0 z1 O h o2 u2 r2 hn hN hpts
  obtain ⟨m4, hm4'⟩ : ∃ x, k % 4 = x := ⟨_, rfl⟩
  rw [hm4'] at hm4
  have HM4 : Hid (k % 4 = m4) := hm4'
  clear hm4'
  by_cases h0 : m = 0
  · subst h0
    go_wp2_with fail
    go_ret
    have hT : T = E := by rw [hTX.out]; unfold txtF; rw [if_pos hm]
    exact ⟨a2, c2, by rw [hT, hm]; rfl, HO.out.2.1, by rw [hT, hm]; exact HO.out.1.bs hEB⟩
  have h0' : ¬ (m : Int) = 0 := by omega
  have h0b : ((m : Int) == 0) = false := by simp [h0]
  by_cases h4 : m4 < 3
  · go_wp2_with fail
    go_ret
    have hT : T = E := by rw [hTX.out]; unfold txtF; rw [if_neg (by omega), if_pos (by rw [HM4.out]; exact h4)]
    exact ⟨a2, c2, by rw [hT, hm]; rfl, HO.out.2.1, by rw [hT, hm]; exact HO.out.1.bs hEB⟩
  have hT4 : Hid (T = if k % 3 = 0 then E.take ((l.getD (rdP n p) 0 * 256 + l.getD (rdP n (rdP n p)) 0).toNat % m) else if k % 3 = 1 then E ++ [0] else E.set ((l.getD (rdP n p) 0 * 256 + l.getD (rdP n (rdP n p)) 0).toNat % m) (bits .xor .u8 (E.getD ((l.getD (rdP n p) 0 * 256 + l.getD (rdP n (rdP n p)) 0).toNat % m) 0) (1 + k / 12 * 6))) := by
    show T = _
    rw [hTX.out]; unfold txtF; rw [if_neg (by omega), if_neg (by rw [HM4.out]; exact h4), hm]
  clear hTX
  have NX := next_calls g a n c l _ w2 HO.out.2.2
  obtain ⟨hx0, hx1⟩ := hIB (rdP n p)
  obtain ⟨hy0, hy1⟩ := hIB (rdP n (rdP n p))
  generalize l.getD (rdP n p) 0 = x at *
  go_wp2_with fail
  refine Calls.mono NX ?_
  rintro e w3 ⟨rfl, o3, r3⟩
  have NX := next_calls g a n c l _ w3 r3
  have zz3 := o3.size
  have O3 := o3.own HO.out.1 (ownB_ne HO.out.1 hg1)
  have u3 := HO.out.2.1.trans o3
  clear HO o3 r3
  generalize l.getD (rdP n (rdP n p)) 0 = y at *
  go_wp2_with fail
  refine Calls.mono NX ?_
  rintro e w4 ⟨rfl, o4, r4⟩
  have O4 := o4.own O3 (ownB_ne O3 hg1)
  have u4 := u3.trans o4
  have zz4 := o4.size
  clear NX O3 u3 o4 r4
  have hmp : 0 < m := by omega
  obtain ⟨gb, rfl, hgb⟩ := ownB_pos O4 hmp
  have HO : Hid _ := And.intro O4 u4
  have hcap : m ≤ c2 := (O4.bs hEB).le
  have hcx := (O4.bs hEB).le'
  unfold maxLen at hcx
  clear O4 u4
  obtain ⟨V, hV⟩ : ∃ V, x * 256 + y = V := ⟨_, rfl⟩
  have hV0 : 0 ≤ V := by omega
  have hV1 : V < 65536 := by omega
  have hw1 : IntKind.i64.wrap (x * 256) = x * 256 := by simp [IntKind.wrap, IntKind.bits, IntKind.signed]; omega
  have hw2 : IntKind.i64.wrap (x * 256 + y) = V := by rw [hV]; simp [IntKind.wrap, IntKind.bits, IntKind.signed]; omega
  rw [hV] at hT4
  obtain ⟨ix, hix⟩ : ∃ ix, V.toNat % m = ix := ⟨_, rfl⟩
  have hixl : ix < m := by rw [← hix]; exact Nat.mod_lt _ hmp
  have hVm : V.tmod (m : Int) = (ix : Int) := by
    rw [Int.tmod_eq_emod_of_nonneg hV0, ← hix]
    obtain ⟨N, rfl⟩ : ∃ N : Nat, V = (N : Int) := ⟨V.toNat, by omega⟩
    rfl
  rw [hix] at hT4
  clear hV hix
  have hm3 : k.tmod 3 = k % 3 := Int.tmod_eq_emod_of_nonneg hk0
  obtain ⟨m3, hm3'⟩ : ∃ z, k % 3 = z := ⟨_, rfl⟩
  rw [hm3'] at hm3 hT4
  have hmb : 0 ≤ m3 ∧ m3 ≤ 2 := by omega
  clear hm3'
  rcases (show m3 = 0 ∨ m3 = 1 ∨ m3 = 2 by omega) with h3 | h3 | h3
  · subst h3
    go_wp2_with fail
    go_ret
    have hT : T = E.take ix := hT4.out
    have hl : T.length = ix := by rw [hT, List.length_take, hm]; omega
    have hP := (HO.out.1.bs hEB).piece 0 ix (by omega) c2 (by omega) (by unfold maxLen; omega)
    rw [Nat.add_zero, List.drop_zero, ← hT] at hP
    exact ⟨_, c2, by rw [hl]; rfl, HO.out.2, by rw [hl]; exact hP⟩
  · subst h3
    have qb := bs_lit1 w4 0 (by omega) (by omega)
    have q5 : Below w4.heap.size w4 (w4.alloc (.cells #[.int .u8 0] 5)) := (Below.refl _ _).alloc (Nat.le_refl _) _
    have o5 := HO.out.1.below q5
    have zA : w1.heap.size ≤ (w4.alloc (.cells #[.int .u8 0] 5)).heap.size := by have := q5.size; omega
    go_wp2_with (at_builtin; refine wpList_app rfl _ _ rfl w1.heap.size _ m c2 E rfl o5 _ 1 1 [0] rfl qb (by omega) zA ?_)
    intro a7 c7 w7 o7 b7 g7
    have hT : T = E ++ [0] := hT4.out
    have hl : T.length = m + 1 := by rw [hT, List.length_append, hm]; rfl
    have U7 : Hid (OnlyB g w w7) := ((HO.out.2.thenN q5 (by omega)).thenN b7 (by omega))
    have O7 : Hid _ := o7
    clear o7 b7 g7 q5 o5 qb zA
    go_wp2_with fail
    go_ret
    exact ⟨_, c7, by rw [hl]; rfl, U7.out, by rw [hl, hT]; exact Own.bs (B := w1.heap.size) O7.out (isB_append hEB (isB_one (by omega) (by omega)))⟩
  · subst h3
    have hT : T = E.set ix (bits .xor .u8 (E.getD ix 0) (1 + k / 12 * 6)) := hT4.out
    obtain ⟨x00, x01⟩ := hEB ix
    have hc : w4.cell? ⟨gb, ix, none⟩ = some (.int .u8 (E.getD ix 0)) := by rw [HO.out.1.cellAt ix (by omega), ob_getElem? _ ix (by omega)]
    have hf : w4.frozen? ⟨gb, ix, none⟩ = false := HO.out.1.frozenAt ix
    generalize E.getD ix 0 = x0 at *
    obtain ⟨q, hq⟩ : ∃ q, k / 12 = q := ⟨_, rfl⟩
    have hq0 : 0 ≤ q := by omega
    have hq1 : q ≤ 21 := by omega
    have hkq : k.tdiv 12 = q := by rw [Int.tdiv_eq_ediv_of_nonneg hk0]; exact hq
    rw [hq] at hT
    clear hq
    have hw3 : IntKind.i64.wrap (q * 6) = q * 6 := by simp [IntKind.wrap, IntKind.bits, IntKind.signed]; omega
    have hw4 : IntKind.i64.wrap (1 + q * 6) = 1 + q * 6 := by simp [IntKind.wrap, IntKind.bits, IntKind.signed]; omega
    have hw5 : IntKind.u8.wrap (1 + q * 6) = 1 + q * 6 := by simp [IntKind.wrap, IntKind.bits, IntKind.signed]; omega
    have hx := xorB x00 x01 (y := 1 + q * 6) (by omega) (by omega)
    have o7 := ownB_set HO.out.1 ix (bits .xor .u8 x0 (1 + q * 6))
    have u7 := HO.out.2.thenN (onlyB_setCell w4 gb ix (.int .u8 (bits .xor .u8 x0 (1 + q * 6))) |>.below (B := w.heap.size) (by omega) (by omega)) (Nat.le_refl _)
    have O7 : Hid _ := And.intro hT (And.intro hx (And.intro o7 u7))
    clear hT hx o7 u7
    go_wp2_with fail
    go_ret
    obtain ⟨hT, hx, o7, u7⟩ := O7.out
    have hl : T.length = m := by rw [hT, List.length_set, hm]
    exact ⟨_, c2, by rw [hl]; rfl, u7, by rw [hl, hT]; exact o7.bs (isB_setB hEB ix hx.1 hx.2)⟩

/-- The block that a text draws, and the bytes. -/
def eK (n : Nat) (l : List Int) : BlK := blD (l.take 1000) (min n 1000) 0
def dT (n : Nat) (l : List Int) : List Int := txtL (l.take 1000) (min n 1000) (blQ (l.take 1000) (min n 1000) 0) (encBlL (eK n l))
theorem eK_le {l : List Int} (hB : IsB l) (n : Nat) : (eK n l).nt ≤ 1048576 ∧ ∀ i, i < (eK n l).nt → ((eK n l).tx i).ni ≤ 1048576 ∧ ((eK n l).tx i).no ≤ 1048576 := blD_le (isB_take hB _) _ _

set_option maxHeartbeats 3000000 in
set_option maxRecDepth 100000 in
theorem drawEncBl_calls (a : Option Addr) (n c : Nat) (l : List Int) (w : World) (h : Bs w a n c l) :
    Calls Tryd.prog 23 #[.slice a n c] w fun e w' => ∃ v, e = .returned (blval v (eK n l)) ∧ Below w.heap.size w w' ∧ OBl w.heap.size w' v (eK n l) := by
  have k0 := blk_new w 52 (bl4 z32 z32 0 (.slice none 0 0)).toArray
  have q0 : Below w.heap.size w (w.alloc (Obj.cells (bl4 z32 z32 0 (.slice none 0 0)).toArray 52)) := (Below.refl _ _).alloc (Nat.le_refl _) _
  have z0 : (w.alloc (Obj.cells (bl4 z32 z32 0 (.slice none 0 0)).toArray 52)).heap.size = w.heap.size + 1 := by simp
  go_enter Tryd.func23, Tryd.ntmps23
  go_upto_region 1 with fail
  change Code.wp _ _ _ _ (w.alloc (Obj.cells (bl4 z32 z32 0 (.slice none 0 0)).toArray 52))
  generalize w.alloc (Obj.cells (bl4 z32 z32 0 (.slice none 0 0)).toArray 52) = W0 at *
  have OP := l1Open_calls a n c l W0 (h.below q0)
  go_wp2_with fail
  refine Calls.mono OP ?_
  rintro e w1 ⟨g, rfl, b1, hg, r1⟩
  have BL := l5Block_calls g a (min n 1000) c (l.take 1000) 0 w1 r1
  have k1 : Blk w1 52 w.heap.size (bl4 z32 z32 0 (.slice none 0 0)) := Blk.below k0 b1
  have u1 : Below w.heap.size w w1 := q0.trans (b1.mono q0.size)
  clear OP k0 q0
  go_wp2_with fail
  refine Calls.mono BL ?_
  rintro e w2 ⟨v, rfl, o2, r2, OB⟩
  have k2 : Blk w2 52 w.heap.size (bl4 z32 z32 0 (.slice none 0 0)) := k1.only o2 (by omega)
  have u2 : Below w.heap.size w w2 := u1.trans (o2.below (by omega) u1.size)
  have z1 := b1.size
  have z2 := o2.size
  have kF := k2.setRow (blc v (blD (l.take 1000) (min n 1000) 0))
  have oF := onlyB_setRow w2 w.heap.size (blc v (blD (l.take 1000) (min n 1000) 0)).toArray
  have FIN : Hid (Below w.heap.size w (w2.setRow w.heap.size (blc v (blD (l.take 1000) (min n 1000) 0)).toArray) ∧ OBl w.heap.size (w2.setRow w.heap.size (blc v (blD (l.take 1000) (min n 1000) 0)).toArray) v (blD (l.take 1000) (min n 1000) 0)) :=
    ⟨u2.trans (oF.below (Nat.le_refl _) u2.size), OB.ok, (OB.txs.only oF (by omega)).mono (by omega)⟩
  have s1 : (Tryd.prog.info? 52).map (·.size) = some (blc v (blD (l.take 1000) (min n 1000) 0)).toArray.size := by rw [blc_size v OB.ok]; exact sizeBl
  have so : (bl4 z32 z32 0 (.slice none 0 0)).toArray.size = (blc v (blD (l.take 1000) (min n 1000) 0)).toArray.size := by rw [blc_size v OB.ok, List.size_toArray, bl4_len _ _ z32_len z32_len]
  clear BL OB k1 u1 u2 o2 r2 b1 r1 oF z0 z1 z2 hg
  unfold blval
  generalize hKK : blD (l.take 1000) (min n 1000) 0 = K at *
  go_wp2_with (refine wpList_store_row rfl 52 _ _ rfl w.heap.size (blc v K).toArray rfl rfl 52 _ k2 s1 so (blc_all _ _) ?_)
  refine bodyPost_ret (v := .agg (blc v K).toArray) ?_ rfl (by subst hKK; exact ⟨v, rfl, FIN.out⟩)
  exact results_cell_row Tryd.results23 _ _ w.heap.size 52 (blc v K).toArray (0, 0) _ rfl kF Tryd.underlying52 rfl s1

set_option maxHeartbeats 3000000 in
set_option maxRecDepth 100000 in
theorem drawDecBl_calls (a : Option Addr) (n c : Nat) (l : List Int) (w : World) (h : Bs w a n c l) :
    Calls Tryd.prog 29 #[.slice a n c] w fun e w' => ∃ a' c', e = .returned (.slice a' (dT n l).length c') ∧ Below w.heap.size w w' ∧ Bs w' a' (dT n l).length c' (dT n l) := by
  obtain ⟨T, hT⟩ : ∃ T, T = dT n l := ⟨_, rfl⟩
  rw [← hT]
  have HT : Hid (T = dT n l) := hT
  have HB : Hid (IsB l) := h.byte
  clear hT
  have OP := l1Open_calls a n c l w h
  go_enter Tryd.func29, Tryd.ntmps29
  go_wp2_with fail
  refine Calls.mono OP ?_
  rintro e w1 ⟨g, rfl, b1, hg, r1⟩
  have BL := l5Block_calls g a (min n 1000) c (l.take 1000) 0 w1 r1
  clear OP
  go_wp2_with fail
  refine Calls.mono BL ?_
  rintro e w2 ⟨v, rfl, o2, r2, OB⟩
  have u2 : Below w.heap.size w w2 := b1.trans (o2.below hg b1.size)
  have z1 := b1.size
  have z2 := o2.size
  have glt := r1.lt
  have hle := eK_le HB.out n
  have qX : Below w2.heap.size w2 (w2.alloc (Obj.cells (blc v (blD (l.take 1000) (min n 1000) 0)).toArray 52)) := (Below.refl _ _).alloc (Nat.le_refl _) _
  have kX := blk_new w2 52 (blc v (blD (l.take 1000) (min n 1000) 0)).toArray
  have LB := l5Bytes_calls g a (min n 1000) c (l.take 1000) _ _ (r2.below qX) v _ w1.heap.size (OB.below qX) glt hle.1 hle.2 T HT.out
  have sX : (Tryd.prog.info? 52).map (·.size) = some (blc v (blD (l.take 1000) (min n 1000) 0)).toArray.size := by rw [blc_size v OB.ok]; exact sizeBl
  have soX : (bl4 z32 z32 0 (.slice none 0 0)).toArray.size = (blc v (blD (l.take 1000) (min n 1000) 0)).toArray.size := by rw [blc_size v OB.ok, List.size_toArray, bl4_len _ _ z32_len z32_len]
  have U : Hid _ := u2.trans (qX.mono u2.size)
  clear BL OB r2 o2 u2 qX b1 r1 hle HT
  unfold blval at LB ⊢
  generalize blD (l.take 1000) (min n 1000) 0 = K at *
  go_upto_region 3 with (refine wpList_storeNew rfl 52 _ _ rfl w2 (bl4 z32 z32 0 (.slice none 0 0)).toArray (blc v K).toArray 52 rfl rfl sX soX (blc_all _ _) ?_)
  change Code.wp _ _ _ _ (w2.alloc (Obj.cells (blc v K).toArray 52))
  generalize w2.alloc (Obj.cells (blc v K).toArray 52) = W3 at *
  have kX' : Blk W3 52 w2.heap.size (blc v K) := kX
  clear kX
  go_wp2_with (refine wpList_load_row rfl 52 _ rfl w2.heap.size rfl 52 (blc v K).toArray (0, 0) _ kX' Tryd.underlying52 rfl sX ?_)
  refine Calls.mono LB ?_
  rintro e w4 ⟨a4, c4, rfl, o4, b4⟩
  have FIN : Hid _ := And.intro (U.out.trans (o4.below hg U.out.size)) b4
  clear LB o4 b4 kX' sX soX
  go_wp2_with fail
  go_ret
  exact ⟨a4, c4, rfl, FIN.out⟩
end Go.Proofs.YthobegpfibfocaaDoor

/- A block that is written is the one that is read. -/
namespace Go.Proofs.YthobegpfibfocaaDoor
open Go.RowKit
set_option linter.unusedVariables false

theorem catX_piece {f : Nat → List Int} {s : Nat} : ∀ {n : Nat}, (∀ i, i < n → (f i).length = s) → ∀ {i : Nat}, i < n → ∀ t : List Int, ((catX f n ++ t).drop (s * i)).take s = f i
  | 0, _, i, hi, _ => absurd hi (Nat.not_lt_zero _)
  | n + 1, h, i, hi, t => by
    have h' : ∀ i, i < n → (f i).length = s := fun i hi => h i (by omega)
    rw [catX, List.append_assoc]
    by_cases e : i < n
    · exact catX_piece h' e (f n ++ t)
    · obtain rfl : i = n := by omega
      rw [← catX_len h', List.drop_left, List.take_append_of_le_length (by rw [h i hi]; exact Nat.le_refl _), List.take_of_length_le (by rw [h i hi]; exact Nat.le_refl _)]
/-- Two transactions that hold the same. -/
structure TxSame (K K' : TxK) : Prop where
  ni : K'.ni = K.ni
  no : K'.no = K.no
  h : K'.h = K.h
  P : ∀ i, i < K.ni → K'.P i = K.P i
  V : ∀ i, i < K.no → K'.V i = K.V i
theorem catX_congr {f g : Nat → List Int} : ∀ {n : Nat}, (∀ i, i < n → f i = g i) → catX f n = catX g n
  | 0, _ => rfl
  | n + 1, h => by rw [catX, catX, catX_congr (fun i hi => h i (by omega)), h n (by omega)]
theorem allB_congr {f g : Nat → Bool} : ∀ {n : Nat}, (∀ i, i < n → f i = g i) → allB f n = allB g n
  | 0, _ => rfl
  | n + 1, h => by rw [allB, allB, allB_congr (fun i hi => h i (by omega)), h n (by omega)]
theorem TxSame.enc {K K' : TxK} (s : TxSame K K') : encTx K' = encTx K := by
  unfold encTx encO encA
  rw [s.ni, s.no, s.h, catX_congr (f := fun i => ptB (K'.P i)) (g := fun i => ptB (K.P i)) (fun i hi => by show ptB _ = ptB _; rw [s.P i hi]), catX_congr (f := fun i => num (K'.V i) 8) (g := fun i => num (K.V i) 8) (fun i hi => by show num _ 8 = num _ 8; rw [s.V i hi])]
theorem TxSame.ok {K K' : TxK} (s : TxSame K K') : txOkB K' = txOkB K := by
  unfold txOkB txHeadB
  rw [s.ni, s.no, s.h, allB_congr (f := fun i => ptOkB (K'.P i).2) (g := fun i => ptOkB (K.P i).2) (fun i hi => by show ptOkB _ = ptOkB _; rw [s.P i hi]), allB_congr (f := fun i => outOkB (K'.V i)) (g := fun i => outOkB (K.V i)) (fun i hi => by show outOkB _ = outOkB _; rw [s.V i hi])]
theorem num8_of {v : Int} (h0 : 0 ≤ v) (h1 : v ≤ 1000000000000) : num8 (num v 8) = v := by
  have p7 : (256 : Int) ^ 7 = 72057594037927936 := by decide
  have e7 : (num v 8).getD 7 0 = 0 := by
    unfold num
    simp
    omega
  rw [(num8_is (num_isB v 8) (num_len v 8)).1 e7, show (num v 8).take 7 = num v 7 by unfold num; rw [← List.map_take, List.take_range]; rfl]
  exact low_num 7 v h0 (by omega)
theorem getD_take {l : List Int} {n i : Nat} (h : i < n) : (l.take n).getD i 0 = l.getD i 0 := by
  rw [List.getD_eq_getElem?_getD, List.getD_eq_getElem?_getD, List.getElem?_take_of_lt h]
theorem txP_enc {K : TxK} (pts : IsPts K.P K.ni) (ok : TxOkP K) (t : List Int) : TxSame K (txP (encTx K ++ t)) ∧ txLen (encTx K ++ t) = (encTx K).length := by
  have hA : ∀ i, i < K.ni → (ptB (K.P i)).length = 33 := fun i hi => by simp [ptB, pts.len i hi]
  have hO : ∀ i, i < K.no → (num (K.V i) 8).length = 8 := fun i hi => num_len _ _
  have lA := catX_len hA
  have lO := catX_len hO
  obtain ⟨A, eA⟩ : ∃ A, A = catX (fun i => ptB (K.P i)) K.ni := ⟨_, rfl⟩
  obtain ⟨O, eO⟩ : ∃ O, O = catX (fun i => num (K.V i) 8) K.no := ⟨_, rfl⟩
  rw [← eA] at lA
  rw [← eO] at lO
  have eL : encTx K ++ t = [(K.ni : Int)] ++ (A ++ ([(K.no : Int)] ++ (O ++ (num K.h 4 ++ t)))) := by
    unfold encTx encO encA
    rw [← eA, ← eO]
    simp
  have tl := encTx_len pts
  generalize encTx K ++ t = L at *
  have n1 := ok.ni
  have n2 := ok.no
  have c1 : inN L = K.ni := by unfold inN; rw [eL]; simp
  have d1 : L.drop 1 = A ++ ([(K.no : Int)] ++ (O ++ (num K.h 4 ++ t))) := by rw [eL]; rfl
  have d2 : L.drop (1 + 33 * K.ni) = [(K.no : Int)] ++ (O ++ (num K.h 4 ++ t)) := by
    rw [← List.drop_drop, d1, ← lA, List.drop_left]
  have c2 : inE L = 1 + 33 * K.ni := by unfold inE; rw [c1]
  have c3 : outN L = K.no := by
    unfold outN
    rw [c2, show 1 + 33 * K.ni = 1 + 33 * K.ni + 0 from rfl, ← drop_getD, d2]
    simp
  have d3 : L.drop (1 + 33 * K.ni + 1) = O ++ (num K.h 4 ++ t) := by rw [← List.drop_drop, d2]; rfl
  have c4 : outE L = 1 + 33 * K.ni + 1 + 8 * K.no := by unfold outE; rw [c2, c3]
  have d4 : L.drop (1 + 33 * K.ni + 1 + 8 * K.no) = num K.h 4 ++ t := by rw [← List.drop_drop, d3, ← lO, List.drop_left]
  have p4 : (256 : Int) ^ 4 = 4294967296 := by decide
  refine ⟨⟨c1, c3, ?_, fun i hi => ?_, fun i hi => ?_⟩, ?_⟩
  · show low ((L.drop (outE L)).take 4) = K.h
    rw [c4, d4, List.take_append_of_le_length (by rw [num_len]; exact Nat.le_refl _), List.take_of_length_le (by rw [num_len]; exact Nat.le_refl _)]
    exact low_num 4 _ ok.h0 (by have := ok.h1; omega)
  · show ptAt L i = K.P i
    have e : (L.drop (1 + 33 * i)).take 33 = ptB (K.P i) := by
      rw [← List.drop_drop, d1, eA]
      exact catX_piece hA hi _
    have l32 := pts.len i hi
    unfold ptAt
    rw [← drop_getD, ← getD_take (n := 33) (i := 32) (by omega), e, show (L.drop (1 + 33 * i)).take 32 = ((L.drop (1 + 33 * i)).take 33).take 32 by rw [List.take_take]; rfl, e]
    unfold ptB
    rw [List.take_append_of_le_length (by omega), List.take_of_length_le (by omega), List.getD_eq_getElem?_getD, List.getElem?_append_right (by omega), l32]
    rfl
  · show outAt L i = K.V i
    unfold outAt
    rw [c2, ← List.drop_drop, d3, eO, catX_piece hO hi _]
    exact num8_of (by have := (ok.out i hi).1; omega) (ok.out i hi).2
  · unfold txLen
    rw [c4, tl]
    omega
/-- Two blocks that hold the same. -/
structure BlSame (K K' : BlK) : Prop where
  prev : K'.prev = K.prev
  root : K'.root = K.root
  h : K'.h = K.h
  nt : K'.nt = K.nt
  tx : ∀ i, i < K.nt → TxSame (K.tx i) (K'.tx i)
theorem BlSame.head {K K' : BlK} (s : BlSame K K') : headL K' = headL K := by unfold headL; rw [s.prev, s.root, s.h]
theorem BlSame.ok {K K' : BlK} (s : BlSame K K') : blOkB K' = blOkB K := by
  unfold blOkB blHeadB
  rw [s.nt, s.h, allB_congr (f := fun i => txOkB (K'.tx i)) (g := fun i => txOkB (K.tx i)) (fun i hi => (s.tx i hi).ok)]
theorem BlSame.enc {K K' : BlK} (s : BlSame K K') : encBlL K' = encBlL K := by
  unfold encBlL encBl
  rw [s.ok, s.head, s.nt, catX_congr (f := fun i => encTx (K'.tx i)) (g := fun i => encTx (K.tx i)) (fun i hi => (s.tx i hi).enc)]
theorem encBl_split (K : BlK) : ∀ {n i : Nat}, i < n → ∃ r, encBl K n = encBl K i ++ (encTx (K.tx i) ++ r)
  | 0, i, hi => absurd hi (Nat.not_lt_zero _)
  | n + 1, i, hi => by
    by_cases e : i < n
    · obtain ⟨r, hr⟩ := encBl_split K e
      exact ⟨r ++ encTx (K.tx n), by rw [encBl_succ, hr, List.append_assoc, List.append_assoc]⟩
    · obtain rfl : i = n := by omega
      exact ⟨[], by rw [encBl_succ, List.append_nil]⟩
theorem dec_enc {K : BlK} (ok : BlOk K) (hp : ∀ i, i < K.nt → IsPts (K.tx i).P (K.tx i).ni) (h : blOkB K = true) : decOk (encBlL K) = true ∧ BlSame K (decK (encBlL K)) := by
  obtain ⟨n12, ⟨h0, h1⟩, ht⟩ := blOk_all h
  rw [encBlL_yes h]
  have hz : (encBl K 0).length = 69 := by rw [encBl_zero, List.length_append, headL_len ok]; rfl
  obtain ⟨r0, hr0⟩ : ∃ r, encBl K K.nt = encBl K 0 ++ r := by
    rcases Nat.eq_zero_or_pos K.nt with e | e
    · exact ⟨[], by rw [e, List.append_nil]⟩
    · obtain ⟨r, hr⟩ := encBl_split K e
      exact ⟨_, hr⟩
  have e0 : encBl K K.nt = K.prev ++ (K.root ++ (num K.h 4 ++ ([(K.nt : Int)] ++ r0))) := by
    rw [hr0, encBl_zero]
    unfold headL
    simp
  have hsp := fun i (hi : i < K.nt) => encBl_split K hi
  obtain ⟨L, eL⟩ : ∃ L, L = encBl K K.nt := ⟨_, rfl⟩
  rw [← eL] at e0 hsp ⊢
  have p4 : (256 : Int) ^ 4 = 4294967296 := by decide
  have a1 : L.take 32 = K.prev := by rw [e0, List.take_append_of_le_length (by rw [ok.pl]; exact Nat.le_refl _), List.take_of_length_le (by rw [ok.pl]; exact Nat.le_refl _)]
  have d1 : L.drop 32 = K.root ++ (num K.h 4 ++ ([(K.nt : Int)] ++ r0)) := by rw [e0, ← ok.pl, List.drop_left]
  have a2 : (L.drop 32).take 32 = K.root := by rw [d1, List.take_append_of_le_length (by rw [ok.rl]; exact Nat.le_refl _), List.take_of_length_le (by rw [ok.rl]; exact Nat.le_refl _)]
  have d2 : L.drop 64 = num K.h 4 ++ ([(K.nt : Int)] ++ r0) := by rw [show 64 = 32 + 32 from rfl, ← List.drop_drop, d1, ← ok.rl, List.drop_left]
  have a3 : low ((L.drop 64).take 4) = K.h := by
    rw [d2, List.take_append_of_le_length (by rw [num_len]; exact Nat.le_refl _), List.take_of_length_le (by rw [num_len]; exact Nat.le_refl _)]
    exact low_num 4 _ h0 (by omega)
  have d3 : L.drop 68 = [(K.nt : Int)] ++ r0 := by rw [show 68 = 64 + 4 from rfl, ← List.drop_drop, d2]; exact List.drop_left' (num_len _ _)
  have a4 : blN L = K.nt := by
    unfold blN
    rw [show (68 : Nat) = 68 + 0 from rfl, ← drop_getD, d3]
    simp
  have off : ∀ i, i ≤ K.nt → offT L i = (encBl K i).length := fun i => by
    induction i with
    | zero => intro _; exact hz.symm
    | succ i ih =>
      intro hi
      obtain ⟨r, hr⟩ := hsp i (by omega)
      rw [offT, ih (by omega), encBl_succ, List.length_append, hr, List.drop_left, (txP_enc (hp i (by omega)) (txOkP (ht i (by omega))) r).2]
  have sm : BlSame K (blP L) := by
    refine ⟨a1, a2, a3, a4, fun i hi => ?_⟩
    obtain ⟨r, hr⟩ := hsp i hi
    show TxSame (K.tx i) (txP (L.drop (offT L i)))
    rw [off i (by omega), hr, List.drop_left]
    exact (txP_enc (hp i hi) (txOkP (ht i hi)) r).1
  have dk : decOk L = true := by
    unfold decOk
    rw [sm.ok, h, Bool.and_true]
    refine decide_eq_true ?_
    unfold blLen
    rw [a4, off K.nt (Nat.le_refl _), eL]
  exact ⟨dk, by rw [decK_yes dk]; exact sm⟩
theorem enc_dec2 {l : List Int} (hB : IsB l) (h : decOk l = true) : blOkB (decK l) = true ∧ encBlL (decK l) = l := by
  rw [decK_yes h]
  unfold decOk at h
  rw [Bool.and_eq_true] at h
  have hl : blLen l = l.length := of_decide_eq_true h.1
  refine ⟨h.2, ?_⟩
  rw [encBlL_yes h.2]
  have h69 : 69 ≤ l.length := by rw [← hl]; exact offT_ge l _
  have ht := (blOk_all h.2).2.2
  have hle : ∀ i, i ≤ blN l → offT l i ≤ l.length := fun i hi => by rw [← hl]; exact offT_mono l hi
  have hs : ∀ i, i < blN l → spOk (l.drop (offT l i)) := fun i hi => by
    refine spOk_of (isB_drop hB _) ?_ (ht i hi)
    have := hle (i + 1) (by omega)
    rw [offT] at this
    rw [List.length_drop]
    omega
  have e := encBl_parse hB h69 (blN l) (Nat.le_refl _) (hle _ (Nat.le_refl _)) hs
  show encBl (blP l) (blN l) = l
  rw [e, List.take_of_length_le]
  show l.length ≤ blLen l
  omega
end Go.Proofs.YthobegpfibfocaaDoor

/- The hash as plain mathematics. -/
namespace Go.Proofs.YthobegpfibfocaaDoor

/-- A word turned right. -/
def rotr (r x : Nat) : Nat := x / 2 ^ r + x % 2 ^ r * 2 ^ (32 - r)

theorem rotr_lt {r x : Nat} (hr : r ≤ 32) (hx : x < 4294967296) : rotr r x < 4294967296 := by
  unfold rotr
  have e : 2 ^ r * 2 ^ (32 - r) = 4294967296 := by rw [← Nat.pow_add, show r + (32 - r) = 32 by omega]
  have h1 : x / 2 ^ r < 2 ^ (32 - r) := Nat.div_lt_of_lt_mul (by omega)
  have h2 : x % 2 ^ r + 1 ≤ 2 ^ r := Nat.mod_lt _ (Nat.two_pow_pos r)
  have h3 := Nat.mul_le_mul_right (2 ^ (32 - r)) h2
  rw [e, Nat.add_mul] at h3
  omega

/-- What the library makes of it: two shifts that are joined. -/
theorem rotr_join {r x : Nat} (hr : r ≤ 32) (hx : x < 4294967296) : (x * 2 ^ (32 - r)) % 4294967296 ||| x / 2 ^ r = rotr r x := by
  have e : 2 ^ r * 2 ^ (32 - r) = 4294967296 := by rw [← Nat.pow_add, show r + (32 - r) = 32 by omega]
  have h1 : x / 2 ^ r < 2 ^ (32 - r) := Nat.div_lt_of_lt_mul (by omega)
  have h2 : x * 2 ^ (32 - r) % 4294967296 = x % 2 ^ r * 2 ^ (32 - r) := by rw [← e, Nat.mul_mod_mul_right]
  rw [h2, nat_join (32 - r) _ _ (by rw [Nat.mul_mod_left]) h1]
  unfold rotr
  omega

def sg0 (x : Nat) : Nat := rotr 7 x ^^^ rotr 18 x ^^^ x / 8
def sg1 (x : Nat) : Nat := rotr 17 x ^^^ rotr 19 x ^^^ x / 1024
def bs0 (a : Nat) : Nat := rotr 2 a ^^^ rotr 13 a ^^^ rotr 22 a
def bs1 (e : Nat) : Nat := rotr 6 e ^^^ rotr 11 e ^^^ rotr 25 e
def chf (e f g : Nat) : Nat := (e &&& f) ^^^ ((4294967295 - e) &&& g)
def majf (a b c : Nat) : Nat := (a &&& b) ^^^ (a &&& c) ^^^ (b &&& c)

theorem xlt {a b : Nat} (ha : a < 4294967296) (hb : b < 4294967296) : a ^^^ b < 4294967296 := Nat.xor_lt_two_pow (n := 32) (by omega) (by omega)
theorem alt {a b : Nat} (ha : a < 4294967296) : a &&& b < 4294967296 := Nat.lt_of_le_of_lt Nat.and_le_left ha
theorem sg0_lt {x : Nat} (h : x < 4294967296) : sg0 x < 4294967296 := xlt (xlt (rotr_lt (by omega) h) (rotr_lt (by omega) h)) (by omega)
theorem sg1_lt {x : Nat} (h : x < 4294967296) : sg1 x < 4294967296 := xlt (xlt (rotr_lt (by omega) h) (rotr_lt (by omega) h)) (by omega)
theorem bs0_lt {x : Nat} (h : x < 4294967296) : bs0 x < 4294967296 := xlt (xlt (rotr_lt (by omega) h) (rotr_lt (by omega) h)) (rotr_lt (by omega) h)
theorem bs1_lt {x : Nat} (h : x < 4294967296) : bs1 x < 4294967296 := xlt (xlt (rotr_lt (by omega) h) (rotr_lt (by omega) h)) (rotr_lt (by omega) h)
theorem chf_lt {e f g : Nat} (h : e < 4294967296) : chf e f g < 4294967296 := xlt (alt h) (alt (by omega))
theorem majf_lt {a b c : Nat} (h : a < 4294967296) (hb : b < 4294967296) : majf a b c < 4294967296 := xlt (xlt (alt h) (alt h)) (alt hb)

/-- The constants of the rounds. -/
def kW : List Nat := [1116352408, 1899447441, 3049323471, 3921009573, 961987163, 1508970993, 2453635748, 2870763221, 3624381080, 310598401, 607225278, 1426881987, 1925078388, 2162078206, 2614888103, 3248222580, 3835390401, 4022224774, 264347078, 604807628, 770255983, 1249150122, 1555081692, 1996064986, 2554220882, 2821834349, 2952996808, 3210313671, 3336571891, 3584528711, 113926993, 338241895, 666307205, 773529912, 1294757372, 1396182291, 1695183700, 1986661051, 2177026350, 2456956037, 2730485921, 2820302411, 3259730800, 3345764771, 3516065817, 3600352804, 4094571909, 275423344, 430227734, 506948616, 659060556, 883997877, 958139571, 1322822218, 1537002063, 1747873779, 1955562222, 2024104815, 2227730452, 2361852424, 2428436474, 2756734187, 3204031479, 3329325298]

/-- The number of four bytes of a row, the greatest first. -/
def hi4 (b : List Int) (i : Nat) : Nat := (b.getD (4 * i) 0).toNat * 16777216 + (b.getD (4 * i + 1) 0).toNat * 65536 + (b.getD (4 * i + 2) 0).toNat * 256 + (b.getD (4 * i + 3) 0).toNat

/-- The next word, behind at least sixteen. -/
def wnext (l : List Nat) : Nat := (sg1 (l.getD (l.length - 2) 0) + l.getD (l.length - 7) 0 + sg0 (l.getD (l.length - 15) 0) + l.getD (l.length - 16) 0) % 4294967296
/-- The first words. -/
def wds (b : List Int) : Nat → List Nat
  | 0 => []
  | k + 1 => wds b k ++ [if k < 16 then hi4 b k else wnext (wds b k)]

theorem wds_len (b : List Int) : ∀ k, (wds b k).length = k
  | 0 => rfl
  | k + 1 => by simp [wds, wds_len b k]

def wAt (b : List Int) (k : Nat) : Nat := if k < 16 then hi4 b k else wnext (wds b k)
theorem wds_succ (b : List Int) (k : Nat) : wds b (k + 1) = wds b k ++ [wAt b k] := rfl
theorem wds_getD (b : List Int) : ∀ (k i : Nat), i < k → (wds b k).getD i 0 = wAt b i
  | 0, i, h => by omega
  | k + 1, i, h => by
    rw [wds_succ]
    by_cases hi : i < k
    · have := wds_getD b k i hi
      simp [List.getD, List.getElem?_append_left (by rw [wds_len]; exact hi : i < (wds b k).length)] at this ⊢
      exact this
    · have e : i = k := by omega
      subst e
      simp [List.getD, wds_len]
theorem wAt_lo (b : List Int) {k : Nat} (h : k < 16) : wAt b k = hi4 b k := by simp [wAt, h]
theorem wAt_hi (b : List Int) {k : Nat} (h : 16 ≤ k) : wAt b k = (sg1 (wAt b (k - 2)) + wAt b (k - 7) + sg0 (wAt b (k - 15)) + wAt b (k - 16)) % 4294967296 := by
  have h' : ¬ k < 16 := by omega
  rw [wAt, if_neg h', wnext, wds_len, wds_getD b k _ (by omega), wds_getD b k _ (by omega), wds_getD b k _ (by omega), wds_getD b k _ (by omega)]
theorem hi4_lt {b : List Int} (hb : ∀ i, 0 ≤ b.getD i 0 ∧ b.getD i 0 < 256) (i : Nat) : hi4 b i < 4294967296 := by
  unfold hi4
  have h0 := hb (4 * i); have h1 := hb (4 * i + 1); have h2 := hb (4 * i + 2); have h3 := hb (4 * i + 3)
  omega
theorem wAt_lt {b : List Int} (hb : ∀ i, 0 ≤ b.getD i 0 ∧ b.getD i 0 < 256) (k : Nat) : wAt b k < 4294967296 := by
  by_cases h : k < 16
  · rw [wAt_lo b h]; exact hi4_lt hb k
  · rw [wAt_hi b (by omega)]; exact Nat.mod_lt _ (by omega)

/-- Eight words. -/
structure R8 where
  a : Nat
  b : Nat
  c : Nat
  d : Nat
  e : Nat
  f : Nat
  g : Nat
  h : Nat

structure R8.Ok (v : R8) : Prop where
  a : v.a < 4294967296
  b : v.b < 4294967296
  c : v.c < 4294967296
  d : v.d < 4294967296
  e : v.e < 4294967296
  f : v.f < 4294967296
  g : v.g < 4294967296
  h : v.h < 4294967296

def R8.list (v : R8) : List Nat := [v.a, v.b, v.c, v.d, v.e, v.f, v.g, v.h]

def rone (v : R8) (k w : Nat) : Nat := (v.h + bs1 v.e + chf v.e v.f v.g + k + w) % 4294967296
/-- One round. -/
def rnd (v : R8) (k w : Nat) : R8 := ⟨(rone v k w + bs0 v.a + majf v.a v.b v.c) % 4294967296, v.a, v.b, v.c, (v.d + rone v k w) % 4294967296, v.e, v.f, v.g⟩
/-- The words behind so many rounds. -/
def rnds (v : R8) (b : List Int) : Nat → R8
  | 0 => v
  | i + 1 => rnd (rnds v b i) (kW.getD i 0) (wAt b i)
def R8.add (v u : R8) : R8 := ⟨(v.a + u.a) % 4294967296, (v.b + u.b) % 4294967296, (v.c + u.c) % 4294967296, (v.d + u.d) % 4294967296, (v.e + u.e) % 4294967296, (v.f + u.f) % 4294967296, (v.g + u.g) % 4294967296, (v.h + u.h) % 4294967296⟩
/-- The words behind a chunk. -/
def mixL (v : R8) (b : List Int) : R8 := (rnds v b 64).add v

theorem rnd_ok {v : R8} (h : v.Ok) (k w : Nat) : (rnd v k w).Ok :=
  ⟨Nat.mod_lt _ (by omega), h.a, h.b, h.c, Nat.mod_lt _ (by omega), h.e, h.f, h.g⟩
theorem rnds_ok {v : R8} (h : v.Ok) (b : List Int) : ∀ i, (rnds v b i).Ok
  | 0 => h
  | i + 1 => rnd_ok (rnds_ok h b i) _ _
theorem add_ok (v u : R8) : (v.add u).Ok :=
  ⟨Nat.mod_lt _ (by omega), Nat.mod_lt _ (by omega), Nat.mod_lt _ (by omega), Nat.mod_lt _ (by omega), Nat.mod_lt _ (by omega), Nat.mod_lt _ (by omega), Nat.mod_lt _ (by omega), Nat.mod_lt _ (by omega)⟩

def startR : R8 := ⟨1779033703, 3144134277, 1013904242, 2773480762, 1359893119, 2600822924, 528734635, 1541459225⟩
theorem startR_ok : startR.Ok := ⟨by decide, by decide, by decide, by decide, by decide, by decide, by decide, by decide⟩

/-- The i-th chunk. -/
def blk (m : List Int) (i : Nat) : List Int := (m.drop (64 * i)).take 64
/-- The words behind the first chunks. -/
def shaW (m : List Int) : Nat → R8
  | 0 => startR
  | k + 1 => mixL (shaW m k) (blk m k)
theorem shaW_ok (m : List Int) : ∀ k, (shaW m k).Ok
  | 0 => startR_ok
  | _ + 1 => add_ok _ _
theorem blk_append (m x : List Int) (i : Nat) (h : 64 * i + 64 ≤ m.length) : blk (m ++ x) i = blk m i := by
  unfold blk
  rw [List.drop_append_of_le_length (by omega), List.take_append_of_le_length (by rw [List.length_drop]; omega)]
theorem shaW_append (m x : List Int) : ∀ k, 64 * k ≤ m.length → shaW (m ++ x) k = shaW m k
  | 0, _ => rfl
  | k + 1, h => by rw [shaW, shaW, shaW_append m x k (by omega), blk_append m x k (by omega)]

/-- The four bytes of a word, the greatest first. -/
def big4 (n : Nat) : List Int := [((n / 16777216 % 256 : Nat) : Int), ((n / 65536 % 256 : Nat) : Int), ((n / 256 % 256 : Nat) : Int), ((n % 256 : Nat) : Int)]
def big8 (n : Nat) : List Int := big4 (n / 4294967296) ++ big4 n
def zerosFor (n : Nat) : Nat := (119 - n % 64) % 64
/-- The bytes with what fills them up. -/
def padL (l : List Int) : List Int := l ++ [128] ++ List.replicate (zerosFor l.length) 0 ++ big8 (8 * l.length)
def R8.bytes (v : R8) : List Int := v.list.flatMap big4
/-- The hash. -/
def shaL (l : List Int) : List Int := (shaW (padL l) ((padL l).length / 64)).bytes
theorem shaL_len (l : List Int) : (shaL l).length = 32 := by simp [shaL, R8.bytes, R8.list, big4]
theorem zerosFor_fits (n : Nat) : (n + 1 + zerosFor n) % 64 = 56 := by unfold zerosFor; omega
theorem padL_len (l : List Int) : (padL l).length % 64 = 0 := by
  have := zerosFor_fits l.length
  simp [padL, big8, big4]
  omega
end Go.Proofs.YthobegpfibfocaaDoor

