import Derived.Test.YthobegpfibfocaaDoorFB22
import Derived.Test.YthobegpfibfocaaDoorFB0
import Derived.Test.YthobegpfibfocaaDoorFB20
/- Numbers in bytes, the greatest first. -/
namespace Go.Proofs.YthobegpfibfocaaDoor
open Go.RowKit

/-- One byte of it. -/
def bigAt (v k j : Nat) : Int := ((v / 256 ^ (k - 1 - j) % 256 : Nat) : Int)
/-- A number in k bytes, the greatest first. -/
def bigN (v k : Nat) : List Int := (List.range k).map (bigAt v k)
theorem bigN_len (v k : Nat) : (bigN v k).length = k := by simp [bigN]
theorem bigAt_bd (v k j : Nat) : 0 ≤ bigAt v k j ∧ bigAt v k j < 256 := by unfold bigAt; omega
theorem bigN_getD (v k j : Nat) (h : j < k) : (bigN v k).getD j 0 = bigAt v k j := by simp [bigN, List.getD, h]
theorem bigN_isB (v k : Nat) : IsB (bigN v k) := fun i => by
  by_cases h : i < k
  · rw [bigN_getD v k i h]; exact bigAt_bd v k i
  · simp [bigN, List.getD, h]
theorem bigN_take (v k j : Nat) (h : j < k) : (bigN v k).take (j + 1) = (bigN v k).take j ++ [bigAt v k j] := by
  rw [List.take_succ_eq_append_getElem (by rw [bigN_len]; exact h)]
  simp [bigN]
theorem bigN_4 (v : Nat) : bigN v 4 = big4 v := by
  simp [bigN, big4, bigAt, List.range, List.range.loop]
theorem bigN_8 (v : Nat) : bigN v 8 = big8 v := by
  simp [bigN, big8, big4, bigAt, List.range, List.range.loop]
  omega

/-- What stands in the row when the bytes from m on are written. -/
def bigRow (v k m : Nat) : List Int := (List.range k).map fun j => if j < m then 0 else bigAt v k j
theorem bigRow_len (v k m : Nat) : (bigRow v k m).length = k := by simp [bigRow]
theorem bigRow_full (v k : Nat) : bigRow v k k = List.replicate k 0 := by
  apply List.ext_getElem
  · simp [bigRow]
  · intro i h1 h2
    simp [bigRow] at h1 ⊢
    omega
theorem bigRow_zero (v k : Nat) : bigRow v k 0 = bigN v k := by simp [bigRow, bigN]
theorem bigRow_set (v k m : Nat) : (bigRow v k (m + 1)).set m (bigAt v k m) = bigRow v k m := by
  apply List.ext_getElem
  · simp [bigRow]
  · intro i h1 h2
    rw [List.getElem_set]
    simp only [bigRow, List.getElem_map, List.getElem_range]
    by_cases e : m = i
    · subst e; simp
    · rw [if_neg e]
      by_cases h3 : i < m
      · rw [if_pos (by omega), if_pos h3]
      · rw [if_neg (by omega), if_neg h3]

/-- What is left of the number. -/
def leftN (v j : Nat) : Nat := v / 256 ^ j
theorem leftN_succ (v j : Nat) : leftN v j / 256 = leftN v (j + 1) := by unfold leftN; rw [Nat.div_div_eq_div_mul, Nat.pow_succ]
theorem leftN_le (v j : Nat) : leftN v j ≤ v := Nat.div_le_self _ _
theorem bigAt_left (v k j : Nat) : bigAt v k j = ((leftN v (k - 1 - j) % 256 : Nat) : Int) := rfl

set_option maxHeartbeats 400000 in
set_option maxRecDepth 100000 in
theorem l5Big_calls (v k : Nat) (w : World) (hv : v ≤ 9223372036854775807) (hk : k ≤ 8) :
    Calls Tryd.prog 35 #[.int .i64 v, .int .i64 k] w fun e w' => ∃ g, e = .returned (.slice (some ⟨g, 0, none⟩) k k) ∧ Below w.heap.size w w' ∧ Own w.heap.size w' (some ⟨g, 0, none⟩) k k (bigN v k) := by
  obtain ⟨i, hi, hz0, hz1, hz2⟩ := info_parts info5
  go_enter Tryd.func35, Tryd.ntmps35
  go_wp2_with (at_make; refine wpList_make_full _ rfl _ _ 22 rfl w.heap.size 5 i _ 1 Tryd.underlying22 hi hz0 hz1 _ _ _ _ k rfl rfl rfl rfl ?b1 ?b2 ?b3 ?_)
  case b1 => rw [hz2]; omega
  case b2 => unfold maxLen; omega
  case b3 => exact Nat.le_refl _
  clear hi hz0 hz1 hz2
  intro w1 hown hgr
  rw [made_rep] at hown
  have hbel : Below w.heap.size w w1 := (Below.refl _ _).grown hgr (Nat.le_refl _) (fun _ e => by cases e)
  have hown2 : w1.ownsRow w.heap.size 5 1 (.slice (some ⟨w.heap.size, 0, none⟩) k k) k (ob (bigRow v k k)) := by
    rw [bigRow_full]; simpa [ob] using hown
  clear hown hgr
  go_wp2
  go_loopw [0, 6] (fun x i wr => ∃ m : Nat, m ≤ k ∧ i = .int .i64 ((m : Int) - 1) ∧ x = .int .i64 (leftN v (k - m) : Nat) ∧ Below w.heap.size w wr ∧ wr.ownsRow w.heap.size 5 1 (.slice (some ⟨w.heap.size, 0, none⟩) k k) k (ob (bigRow v k m))) (fun _ i _ => (intOf i + 1).toNat)
  case atStart => exact ⟨k, Nat.le_refl _, rfl, by rw [Nat.sub_self]; simp [leftN], hbel, hown2⟩
  case round =>
    obtain ⟨m, hm, rfl, rfl, hb, ho⟩ := hrel
    clear hown2 hbel
    by_cases hlt : 0 < m
    · obtain ⟨j, rfl⟩ : ∃ j, m = j + 1 := ⟨m - 1, by omega⟩
      have hle := leftN_le v (k - (j + 1))
      have HS : Hid (leftN v (k - (j + 1)) / 256 = leftN v (k - j)) := by
        show _ = _
        rw [leftN_succ, show k - (j + 1) + 1 = k - j by omega]
      have HA : Hid (bigAt v k j = ((leftN v (k - (j + 1)) % 256 : Nat) : Int)) := by
        show _ = _
        rw [bigAt_left, show k - 1 - j = k - (j + 1) by omega]
      have hji : ((j + 1 : Nat) : Int) - 1 = (j : Int) := by omega
      rw [hji]
      have hco : wr.cell? ⟨w.heap.size, j, none⟩ = some (.int .u8 ((bigRow v k (j + 1)).getD j 0)) := by
        rw [World.ownsRow.cellAt ho j (by omega)]
        exact ob_getElem? _ j (by rw [bigRow_len]; omega)
      have hfr : wr.frozen? ⟨w.heap.size, j, none⟩ = false := World.ownsRow.frozenAt ho j
      have ho' := World.ownsRow.stored ho j (.int .u8 (bigAt v k j))
      rw [ob_set, bigRow_set v k j, HA.out] at ho'
      generalize leftN v (k - (j + 1)) = x at *
      have HO : Hid (World.ownsRow (wr.setCell ⟨w.heap.size, j, none⟩ (.int .u8 ((x % 256 : Nat) : Int))) w.heap.size 5 1 (.slice (some ⟨w.heap.size, 0, none⟩) k k) k (ob (bigRow v k j))) := ho'.1
      clear ho' ho HA
      go_wp2
      go_roundw
      case rel => exact ⟨j, by omega, by go_num, by rw [← HS.out]; rfl, hb.setCell (Nat.le_refl _) _, HO.out⟩
      case measure => simp [intOf]
    · have e : m = 0 := by omega
      subst e
      go_wp2
      go_ret
      refine ⟨w.heap.size, rfl, hb, ?_⟩
      rw [bigRow_zero] at ho
      exact ho

theorem byte_of (v j : Nat) : ((v : Int) / 2 ^ (8 * j)) % 256 = ((leftN v j % 256 : Nat) : Int) := by
  have e : (2 : Nat) ^ (8 * j) = 256 ^ j := by rw [Nat.pow_mul]
  have h : ((v / 2 ^ (8 * j) % 256 : Nat) : Int) = ((v : Int) / 2 ^ (8 * j)) % 256 := by simp
  rw [← h, e]
  rfl

set_option maxHeartbeats 400000 in
set_option maxRecDepth 100000 in
theorem greatFirst_calls (B : Nat) (a : Option Addr) (n c : Nat) (xs : List Int) (v k : Nat) (w : World) (hown : Own B w a n c xs) (hB : B ≤ w.heap.size) (hn : n ≤ 1048576) (hk : k ≤ 8) :
    Calls Tryd.prog 77 #[.slice a n c, .int .i64 v, .int .i64 k] w fun e w' => ∃ a c, e = .returned (.slice a (n + k) c) ∧ Below B w w' ∧ Own B w' a (n + k) c (xs ++ bigN v k) := by
  go_enter Tryd.func77, Tryd.ntmps77
  go_wp2
  go_loopw [0, 7] (fun o i wr => ∃ m a c, m ≤ k ∧ i = .int .i64 ((m : Int) - 1) ∧ o = .slice a (n + (k - m)) c ∧ Below B w wr ∧ Own B wr a (n + (k - m)) c (xs ++ (bigN v k).take (k - m))) (fun _ i _ => (intOf i + 1).toNat)
  case atStart => exact ⟨k, a, c, Nat.le_refl _, rfl, by rw [Nat.sub_self]; rfl, Below.refl _ _, by rw [Nat.sub_self]; simpa using hown⟩
  case round =>
    obtain ⟨m, a, c, hm, rfl, rfl, hb, ho⟩ := hrel
    by_cases hlt : 0 < m
    · obtain ⟨j, rfl⟩ : ∃ j, m = j + 1 := ⟨m - 1, by omega⟩
      have HA : Hid ((bigN v k).take (k - j) = (bigN v k).take (k - (j + 1)) ++ [((v : Int) / 2 ^ (8 * j)) % 256]) := by
        show _ = _
        rw [byte_of, show k - j = k - (j + 1) + 1 by omega, bigN_take v k _ (by omega), bigAt_left, show k - 1 - (k - (j + 1)) = j by omega]
      have HM : Hid (n + (k - (j + 1)) + 1 = n + (k - j)) := by show _ = _; omega
      have hji : ((j + 1 : Nat) : Int) - 1 = (j : Int) := by omega
      rw [hji]
      have hq0 : 0 ≤ ((v : Int) / 2 ^ (8 * j)) % 256 := Int.emod_nonneg _ (by omega)
      have hq1 : ((v : Int) / 2 ^ (8 * j)) % 256 < 256 := Int.emod_lt_of_pos _ (by omega)
      go_wp2_with (at_builtin; refine wpList_app rfl _ _ rfl B a (n + (k - (j + 1))) c (xs ++ (bigN v k).take (k - (j + 1))) rfl ?own _ 1 1 [((v : Int) / 2 ^ (8 * j)) % 256] rfl ?bs ?len ?B ?_)
      case own => exact World.ownsRow.alloc ho _
      case bs => exact bs_lit1 wr _ hq0 hq1
      case len => omega
      case B => have := hb.size; simp; omega
      intro a' c' w' ho' hb' _
      have hb2 : Below B w w' := (hb.alloc (Nat.le_trans hB hb.size) _).trans hb'
      clear ho hb hb'
      go_wp2
      go_roundw
      case rel => exact ⟨j, a', c', by omega, by go_num, by rw [HM.out], hb2, by rw [HA.out, ← HM.out]; simpa using ho'⟩
      case measure => simp [intOf]
    · have e : m = 0 := by omega
      subst e
      go_wp2
      go_ret
      refine ⟨a, c, rfl, hb, ?_⟩
      rw [Nat.sub_zero, List.take_of_length_le (by rw [bigN_len]; omega)] at ho
      exact ho

/-- The bytes, 128, and so many zeros. -/
def pads (l : List Int) (k : Nat) : List Int := l ++ [128] ++ List.replicate k 0
theorem pads_zero (l : List Int) : pads l 0 = l ++ [128] := by simp [pads]
theorem pads_succ (l : List Int) (k : Nat) : pads l k ++ [0] = pads l (k + 1) := by simp [pads, List.replicate_succ']
theorem pads_isB {l : List Int} (h : IsB l) (k : Nat) : IsB (pads l k) := isB_append (isB_append h (isB_one (by omega) (by omega))) (isB_rep k)
theorem pads_pad (l : List Int) : pads l (zerosFor l.length) ++ bigN (8 * l.length) 8 = padL l := by rw [bigN_8]; rfl
end Go.Proofs.YthobegpfibfocaaDoor

/- sum: the end of the hash; Sha256. -/
namespace Go.Proofs.YthobegpfibfocaaDoor
open Go.RowKit
set_option linter.unusedVariables false

theorem HSt.lt {w : World} {b : Nat} {m : List Int} (h : HSt w b m) : b < w.heap.size := by
  obtain ⟨ch, h1, _⟩ := h
  exact h1.blk.lt
theorem HSt.cell {w : World} {b : Nat} {m : List Int} (h : HSt w b m) : w.cell? ⟨b, 72, none⟩ = some (.int .i64 (m.length : Int)) := by
  obtain ⟨ch, h1, _⟩ := h
  rw [h1.blk.cell, hx_size _ _ _ h1.len]
theorem HSt.ne {w : World} {b : Nat} {m : List Int} (h : HSt w b m) : b ≠ 0 ∧ b ≠ 1 := by
  obtain ⟨ch, h1, _⟩ := h
  exact ⟨h1.ne1, h1.ne2⟩
/-- The size, off the world. -/
def sizeIn (b : Nat) (w : World) : Nat := (intOf ((w.cell? ⟨b, 72, none⟩).getD undef)).toNat
theorem HSt.size {w : World} {b : Nat} {m : List Int} (h : HSt w b m) : sizeIn b w = m.length := by
  unfold sizeIn
  rw [h.cell]
  simp [intOf]
/-- The bytes of the first words. -/
def bytesTo (v : R8) (j : Nat) : List Int := (v.list.take j).flatMap big4
theorem bytesTo_zero (v : R8) : bytesTo v 0 = [] := by simp [bytesTo]
theorem bytesTo_full (v : R8) : bytesTo v 8 = v.bytes := rfl
theorem bytesTo_succ (v : R8) (j : Nat) (h : j < 8) : bytesTo v j ++ bigN (v.list.getD j 0) 4 = bytesTo v (j + 1) := by
  have h' : j < v.list.length := h
  rw [bigN_4]
  unfold bytesTo
  have e : v.list.take (j + 1) = v.list.take j ++ [v.list.getD j 0] := by
    rw [List.take_succ_eq_append_getElem h']
    simp [List.getD, h']
  rw [e, List.flatMap_append]
  simp
theorem bytesTo_isB (v : R8) (j : Nat) (h : j ≤ 8) : IsB (bytesTo v j) := by
  induction j with
  | zero => rw [bytesTo_zero]; exact isB_nil
  | succ j ih => rw [← bytesTo_succ v j (by omega)]; exact isB_append (ih (by omega)) (bigN_isB _ _)

theorem run_arrayAt (a : Option Addr) (n c : Nat) (hn : 32 ≤ n) (w : World) : (Instr.arrayAt 24 (.slice a n c)).run Tryd.prog w = .ok (.pointer a) w := by
  simp [Instr.arrayAt, Sem.run_bind, run_underlying Tryd.underlying24 w, Nat.not_lt.2 hn]

set_option maxHeartbeats 4000000 in
set_option maxRecDepth 100000 in
theorem sum_calls (b : Nat) (m : List Int) (w : World) (T : Tabs w) (H : HSt w b m) (hm : m.length ≤ 549755813888) :
    Calls Tryd.prog 39 #[.pointer (some ⟨b, 0, none⟩)] w fun e w' => e = .returned (hA (shaL m)) ∧ OnlyB b w w' := by
  have hbl := H.lt
  have hn := H.ne
  have k0 := blk_new w 24 (ob (List.replicate 32 0)).toArray
  have b0 : Below w.heap.size w (w.alloc (Obj.cells (ob (List.replicate 32 0)).toArray 24)) := (Below.refl _ _).alloc (Nat.le_refl _) _
  go_enter Tryd.func39, Tryd.ntmps39
  go_upto_region 1 with fail
  change Code.wp _ _ _ _ (w.alloc (Obj.cells (ob (List.replicate 32 0)).toArray 24))
  generalize w.alloc (Obj.cells (ob (List.replicate 32 0)).toArray 24) = w0 at *
  have H0 := H.below b0
  have T0 := T.below b0
  have c0 := H0.cell
  have hz0 := k0.lt
  have G1 := greatFirst_calls w0.heap.size none 0 0 [] (8 * m.length) 8 w0 (own_nil _ _) (Nat.le_refl _) (by omega) (by omega)
  rw [show ((8 * m.length : Nat) : Int) = (m.length : Int) * 8 by omega] at G1
  generalize hS : m.length = s at *
  have HS : Hid _ := hS
  have HK : Hid _ := And.intro k0 (And.intro b0 (And.intro H0 T0))
  clear hS k0 b0 H0 T0 H T
  go_wp2_with fail
  refine G1.mono ?_
  rintro e w1 ⟨a1, c1, rfl, b1, o1⟩
  rw [Nat.zero_add, List.nil_append] at o1
  have H1 := HK.out.2.2.1.below b1
  have T1 := HK.out.2.2.2.below b1
  have hw1 := b1.size
  have HL : Hid _ := And.intro o1 b1
  clear G1 o1 b1 c0
  go_wp2_with fail
  refine (write_calls b m _ 1 1 [128] _ (T1.below ((Below.refl _ _).alloc (Nat.le_refl _) _)) (H1.below ((Below.refl _ _).alloc (Nat.le_refl _) _)) (bs_lit1 w1 128 (by omega) (by omega)) (fun _ g off e => by cases e; omega) (by rw [HS.out]; omega)).mono ?_
  rintro e w2 ⟨rfl, o2, H2⟩
  have T2 := (T1.below ((Below.refl _ _).alloc (Nat.le_refl _) (Obj.cells #[Value.int .u8 128] 5))).only o2 hn.1 hn.2
  have hs2 : w1.heap.size ≤ w2.heap.size := by have := o2.size; simp at this; omega
  have L2 : Own w0.heap.size w2 a1 8 c1 (bigN (8 * s) 8) := o2.own (World.ownsRow.alloc HL.out.1 _) (fun e => by have := (World.ownsRow.lt HL.out.1 b e).1; omega)
  have ob2 : OnlyB b w0 w2 := (Below.onlyB (HL.out.2.alloc HL.out.2.size _) b).trans o2
  rw [← pads_zero] at H2
  have H22 : Hid _ := And.intro H2 (And.intro T2 (And.intro L2 ob2))
  clear T1 H1 T2 L2 ob2 o2 H2
  go_wp2
  go_loopw [16] (fun p wr => ∃ k, k ≤ zerosFor s ∧ HSt wr b (pads m k) ∧ OnlyB b w2 wr) (fun _ wr => s + 1 + zerosFor s - sizeIn b wr)
  case atStart => exact ⟨0, Nat.zero_le _, H22.out.1, OnlyB.refl _ _⟩
  case round =>
    obtain ⟨k, hk, HP, ho⟩ := hrel
    have cP := HP.cell
    have hpl : (pads m k).length = s + 1 + k := by rw [← HS.out]; simp [pads]; omega
    rw [hpl] at cP
    have hz := zerosFor_fits s
    have hz2 : zerosFor s < 64 := Nat.mod_lt _ (by omega)
    by_cases hlt : k < zerosFor s
    · have ht : ((s : Int) + 1 + (k : Int)) % 64 != 56 := by
        have : (s + 1 + k) % 64 ≠ 56 := by unfold zerosFor at hlt; omega
        simp; omega
      have TP := H22.out.2.1.only ho hn.1 hn.2
      have hbw := HP.lt
      have HPS := HP.size
      clear hz
      go_wp2_with fail
      refine (write_calls b (pads m k) _ 1 1 [0] _ (TP.below ((Below.refl _ _).alloc (Nat.le_refl _) _)) (HP.below ((Below.refl _ _).alloc (Nat.le_refl _) _)) (bs_lit1 wr 0 (by omega) (by omega)) (fun _ g off e => by cases e; omega) (by rw [hpl]; omega)).mono ?_
      rintro e w3 ⟨rfl, o3, H3⟩
      rw [pads_succ] at H3
      have o4 : OnlyB b w2 w3 := ho.trans ((Below.onlyB ((Below.refl wr.heap.size wr).alloc (Nat.le_refl _) _) b).trans o3)
      have hM3 := H3.size
      have hpl3 : (pads m (k + 1)).length = s + 1 + (k + 1) := by rw [← HS.out]; simp [pads]; omega
      rw [hpl3] at hM3
      rw [hpl] at HPS
      clear o3 ho HP TP
      go_wp2
      go_roundw
      case rel => exact ⟨k + 1, by omega, H3, o4⟩
      case measure => rw [hM3, HPS]; omega
    · have hke : k = zerosFor s := by omega
      have ht : (((s : Int) + 1 + (k : Int)) % 64 != 56) = false := by
        have : (s + 1 + k) % 64 = 56 := by rw [hke]; exact hz
        simp; omega
      have TP := H22.out.2.1.only ho hn.1 hn.2
      have LP := ho.own H22.out.2.2.1 (fun e => by have := (World.ownsRow.lt H22.out.2.2.1 b e).1; omega)
      have HKE : Hid _ := hke
      have hk64 : k < 64 := by omega
      have op0 : OnlyB b w0 wr := H22.out.2.2.2.trans ho
      have hnb : ∀ g off, a1 = some ⟨g, off, none⟩ → g ≠ b := fun g off e1 e2 => by
        have := (World.ownsRow.lt H22.out.2.2.1 b (by rw [e1, e2]; rfl)).1
        omega
      clear hz hz2 hlt hke hk
      go_wp2_with fail
      refine (write_calls b (pads m k) a1 8 c1 (bigN (8 * s) 8) wr TP HP (LP.bs (bigN_isB _ _)) (fun _ => hnb) (by rw [hpl]; omega)).mono ?_
      rintro e w4 ⟨rfl, o4, H4⟩
      have eP : pads m k ++ bigN (8 * s) 8 = padL m := by rw [HKE.out, ← HS.out, pads_pad]
      rw [eP] at H4
      obtain ⟨ch4, I4, _⟩ := H4
      have hV : shaL m = (shaW (padL m) ((padL m).length / 64)).bytes := rfl
      have hok := I4.ok
      have hw4 : ∀ j u, (ow (shaW (padL m) ((padL m).length / 64)).list)[j]? = some u → w4.cell? ⟨b, 0 + j, none⟩ = some u := fun j u hu => by
        have hj : j < 8 := (List.getElem?_eq_some_iff.1 hu).1
        rw [Nat.zero_add, I4.blk.cell, hx_word _ _ _ j hj, ← hu]
        exact (ow_getElem? (shaW (padL m) ((padL m).length / 64)).list j hj).symm
      have op4 : OnlyB b w0 w4 := op0.trans o4
      have HV : Hid _ := And.intro hV op4
      generalize shaW (padL m) ((padL m).length / 64) = V at *
      clear hV op4 o4 op0 I4 LP HP TP ho cP
      go_upto_region 7 with fail
      go_wp2_with (refine wpList_load_at rfl 109 _ rfl b 0 rfl (ow V.list) _ hw4 Tryd.underlying109 rfl sizeV ?_)
      clear hw4
      go_loopw [4, 32] (fun o i wr => ∃ j a c, j ≤ 8 ∧ i = .int .i64 (j : Nat) ∧ o = .slice a (4 * j) c ∧ Below w4.heap.size w4 wr ∧ Own w4.heap.size wr a (4 * j) c (bytesTo V j)) (fun _ i _ => 8 - (intOf i).toNat)
      case atStart => exact ⟨0, none, 0, Nat.zero_le _, rfl, rfl, Below.refl _ _, by rw [bytesTo_zero]; exact own_nil _ _⟩
      case round =>
        obtain ⟨j, a5, c5, hj, rfl, rfl, hb, ho⟩ := hrel
        by_cases hlt : j < 8
        · have hi : ∀ w, (Instr.index 109 (.agg (ow V.list).toArray) (.int .i64 (j : Int))).run Tryd.prog w = .ok (.int .u32 (V.list.getD j 0 : Nat)) w := fun w =>
            run_index_agg w 109 108 8 (ow V.list) j _ Tryd.underlying109 _ Tryd.underlying108 rfl size32 hlt (ow_getElem? V.list j hlt)
          have hX := hok.at j
          have eb := bytesTo_succ V j hlt
          have HE : Hid _ := eb
          have G5 := greatFirst_calls w4.heap.size a5 (4 * j) c5 (bytesTo V j) (V.list.getD j 0) 4 wr ho hb.size (by omega) (by omega)
          clear eb
          generalize V.list.getD j 0 = X at *
          go_wp2_with fail
          refine G5.mono ?_
          rintro e w6 ⟨a6, c6, rfl, b6, o6⟩
          rw [HE.out] at o6
          have b7 : Below w4.heap.size w4 w6 := hb.trans b6
          clear G5 ho hb b6
          go_wp2
          go_roundw
          case rel => exact ⟨j + 1, a6, c6, by omega, by go_num, by rw [Nat.mul_add], b7, by rw [Nat.mul_add]; exact o6⟩
          case measure => simp [intOf]; omega
        · have e : j = 8 := by omega
          subst e
          have hBV := bytesTo_isB V 8 (Nat.le_refl _)
          rw [bytesTo_full] at ho hBV
          obtain ⟨g5, rfl, hg5, hl5⟩ : ∃ g, a5 = some ⟨g, 0, none⟩ ∧ w4.heap.size ≤ g ∧ g < wr.heap.size := by
            rcases ho.2 with ⟨_, h0⟩ | ⟨g, cap, cur, e, hg, hh, _⟩
            · omega
            · cases e
              exact ⟨g, rfl, hg, (Array.getElem?_eq_some_iff.1 hh).1⟩
          have hVB : V.bytes.length = 32 := by have := ho.len; omega
          have hc5 : ∀ j u, (ob V.bytes)[j]? = some u → wr.cell? ⟨g5, 0 + j, none⟩ = some u := fun j u hu => by
            have hj : j < 32 := by have := (List.getElem?_eq_some_iff.1 hu).1; rw [ob_length] at this; omega
            rw [Nat.zero_add, World.ownsRow.cellAt ho j (by omega)]
            exact hu
          have kR : Blk wr 24 w.heap.size (ob (List.replicate 32 0)) := (HK.out.1.only HV.out.2 (by omega)).below hb
          have s1 : (Tryd.prog.info? 24).map (·.size) = some (ob V.bytes).toArray.size := by rw [ob_size, hVB]; exact sizeH
          have s2 : (Tryd.prog.info? 24).map (·.size) = some (ob V.bytes).length := by rw [ob_length, hVB]; exact sizeH
          have kF := kR.setRow (ob V.bytes)
          have oF := onlyB_setRow wr w.heap.size (ob V.bytes).toArray
          have oW : OnlyB b w (wr.setRow w.heap.size (ob V.bytes).toArray) := by
            have h1 : OnlyB b w wr := ((Below.onlyB HK.out.2.1 b).trans HV.out.2).trans (Below.onlyB hb b)
            exact ⟨oF.os.trans h1.os, oF.tape.trans h1.tape, oF.output.trans h1.output, Nat.le_trans h1.size oF.size, fun q hq hn => (oF.block q (Nat.lt_of_lt_of_le hq h1.size) (by omega)).trans (h1.block q hq hn)⟩
          have hAr : ∀ w, (Instr.arrayAt 24 (.slice (some ⟨g5, 0, none⟩) 32 c5)).run Tryd.prog w = .ok (.pointer (some ⟨g5, 0, none⟩)) w := fun w => run_arrayAt _ 32 c5 (Nat.le_refl _) w
          go_upto_region 12 with fail
          go_wp2_with (first | (refine wpList_load_at rfl 24 _ rfl g5 0 rfl (ob V.bytes) _ hc5 Tryd.underlying24 rfl s2 ?_) | (refine wpList_store_row rfl 24 _ _ rfl w.heap.size (ob V.bytes).toArray rfl rfl 24 _ kR s1 ?o1 (ob_all _) ?_))
          case o1 => rw [ob_size, ob_size, hVB]; rfl
          refine bodyPost_ret (v := hA V.bytes) ?_ rfl ⟨by rw [HV.out.1], oW⟩
          exact results_cell_row Tryd.results39 _ _ w.heap.size 24 (ob V.bytes).toArray (0, 0) _ rfl kF Tryd.underlying24 rfl s1
end Go.Proofs.YthobegpfibfocaaDoor

/- Sha256: the program. -/
namespace Go.Proofs.YthobegpfibfocaaDoor
open Go.RowKit
set_option linter.unusedVariables false

def zero64L : List Int := List.replicate 64 0
theorem built_hasher : Tryd.prog.built 112 [(0, .agg (ow startR.list).toArray)] = some (hx startR zero64L 0).toArray := by kernel_rfl

set_option maxHeartbeats 1000000 in
set_option maxRecDepth 100000 in
theorem newHasher_calls (w : World) (T : Tabs w) :
    Calls Tryd.prog 37 #[] w fun e w' => e = .returned (.pointer (some ⟨w.heap.size, 0, none⟩)) ∧ Below w.heap.size w w' ∧ HSt w' w.heap.size [] ∧ w'.heap.size = w.heap.size + 1 := by
  have hc : ∀ j u, (ow startR.list)[j]? = some u → w.cell? ⟨0, 0 + j, none⟩ = some u := fun j u hu => by
    have hj : j < 8 := (List.getElem?_eq_some_iff.1 hu).1
    rw [Nat.zero_add, T.s j hj, ← hu]
    exact (ow_getElem? startR.list j hj).symm
  have hB := built_hasher
  go_enter Tryd.func37, Tryd.ntmps37
  go_wp2_with (first | (refine wpList_load_at rfl 109 _ rfl 0 0 rfl (ow startR.list) _ hc Tryd.underlying109 rfl sizeV ?_) | (refine wpList_build rfl 112 _ rfl ?hf ?_))
  go_ret
  refine ⟨rfl, (Below.refl _ _).alloc (Nat.le_refl _) _, ⟨zero64L, ⟨blk_new w 112 (hx startR zero64L 0).toArray, rfl, isB_rep 64, startR_ok, ?_, ?_⟩, rfl⟩, by simp⟩
  · have := T.lt; omega
  · have := T.lt; omega

set_option maxHeartbeats 1000000 in
set_option maxRecDepth 100000 in
theorem implSha_calls (a : Option Addr) (n c : Nat) (l : List Int) (w : World) (T : Tabs w) (h : Bs w a n c l) (hn : n ≤ 1048576) :
    Calls Tryd.prog 10 #[.slice a n c] w fun e w' => e = .returned (hA (shaL l)) ∧ Below w.heap.size w w' := by
  have k0 := blk_new w 24 (ob (List.replicate 32 0)).toArray
  have b0 : Below w.heap.size w (w.alloc (Obj.cells (ob (List.replicate 32 0)).toArray 24)) := (Below.refl _ _).alloc (Nat.le_refl _) _
  have hl := h.len_eq
  go_enter Tryd.func10, Tryd.ntmps10
  go_wp2_with fail
  change Calls _ _ _ (w.alloc (Obj.cells (ob (List.replicate 32 0)).toArray 24)) _
  generalize w.alloc (Obj.cells (ob (List.replicate 32 0)).toArray 24) = w0 at *
  refine (newHasher_calls w0 (T.below b0)).mono ?_
  rintro e w1 ⟨rfl, b1, H1, z1⟩
  have T1 := (T.below b0).below b1
  have h1 := (h.below b0).below b1
  have k1 := k0.below b1
  have hne := H1.ne
  have hlt := H1.lt
  have hk0 := k0.lt
  have hblk : 0 < n → ∀ g off, a = some ⟨g, off, none⟩ → g < w.heap.size := fun hp g off e => by
    obtain ⟨b', off', e', hlt', _⟩ := h.at_ hp
    rw [e] at e'
    cases e'
    exact hlt'
  have HB : Hid _ := And.intro b0 b1
  clear T h k0 b0 b1
  go_wp2_with fail
  refine (write_calls w0.heap.size [] a n c l w1 T1 H1 h1 ?_ (by simp; omega)).mono ?_
  · intro hp g off e
    have := hblk hp g off e
    omega
  rintro e w2 ⟨rfl, o2, H2⟩
  rw [List.nil_append] at H2
  have T2 := T1.only o2 hne.1 hne.2
  have k2 := k1.only o2 (by omega)
  go_wp2_with fail
  refine (sum_calls w0.heap.size l w2 T2 H2 (by rw [hl]; omega)).mono ?_
  rintro e w3 ⟨rfl, o3⟩
  have k3 := k2.only o3 (by omega)
  have s1 : (Tryd.prog.info? 24).map (·.size) = some (ob (shaL l)).toArray.size := by rw [ob_size, shaL_len]; exact sizeH
  have kF := k3.setRow (ob (shaL l))
  have oF := onlyB_setRow w3 w.heap.size (ob (shaL l)).toArray
  have bF : Below w.heap.size w (w3.setRow w.heap.size (ob (shaL l)).toArray) := by
    have e1 : Below w.heap.size w w1 := HB.out.1.trans (HB.out.2.mono HB.out.1.size)
    have e3 : Below w.heap.size w w3 := e1.trans (((o2.trans o3).below HB.out.1.size e1.size))
    exact e3.trans (oF.below (Nat.le_refl _) e3.size)
  unfold hA
  go_wp2_with (refine wpList_store_row rfl 24 _ _ rfl w.heap.size (ob (shaL l)).toArray rfl rfl 24 _ k3 s1 ?o1 (ob_all _) ?_)
  case o1 => rw [ob_size, ob_size, shaL_len]; rfl
  refine bodyPost_ret (v := .agg (ob (shaL l)).toArray) ?_ rfl ⟨rfl, bF⟩
  exact results_cell_row Tryd.results10 _ _ w.heap.size 24 (ob (shaL l)).toArray (0, 0) _ rfl kF Tryd.underlying24 rfl s1
end Go.Proofs.YthobegpfibfocaaDoor

