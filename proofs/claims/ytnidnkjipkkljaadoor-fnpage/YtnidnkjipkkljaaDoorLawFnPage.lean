/- The law FnPage. -/
import Derived.Test.YtnidnkjipkkljaaDoorImplDec2
import Derived.Test.YtnidnkjipkkljaaDoorLawDec
import Derived.Test.YtnidnkjipkkljaaDoorFlipMath
import Derived.Test.YtnidnkjipkkljaaDoorDraw2
import Derived.Test.YtnidnkjipkkljaaDoorHeldR
import Derived.Laws.BytesArg
import Derived.Deep.DeepCutAuto
namespace Go.Proofs.YtnidnkjipkkljaaDoor
open Go.RowKit
set_option linter.unusedVariables false

/-- The text of bytes. -/
theorem conv_bs {w : World} {a : Option Addr} {n c : Nat} {l : List Int} (h : Bs w a n c l) : (convert 22 9 (.slice a n c)).run Tryd.prog w = .ok (.string (strOfNums l)) w := by
  rcases Nat.eq_zero_or_pos n with h0 | hp
  · have hl : l = [] := List.eq_nil_of_length_eq_zero (by rw [h.len_eq]; exact h0)
    subst hl
    cases a with
    | none => exact run_convert_bytes_nil w 22 5 Tryd.underlying22 Tryd.underlying5 n c _ Tryd.underlying9
    | some ad =>
      subst h0
      rw [run_convert_bytes_string w _ _ 5 _ 0 c Tryd.underlying22 Tryd.underlying5 Tryd.underlying9, run_bytesToString w ad 0 c [] (by have := run_loadCells_list (P := Tryd.prog) w ad [] (fun j v hj => by simp at hj); simpa using this)]
      rfl
  · obtain ⟨b, off, rfl, _, hc⟩ := h.at_ hp
    exact run_convert_bytes_arg w 22 5 Tryd.underlying22 Tryd.underlying5 b off n c l h.len_eq hc _ Tryd.underlying9

set_option maxRecDepth 100000 in
set_option maxHeartbeats 8000000 in
theorem fnPage_walk (ea : Addr) (a : Option Addr) (n cap : Nat) (l : List Int) (w : World) (h : Bs w a n cap l) (hG : w.cell? ⟨0, 0, none⟩ = some (errV ea)) :
    Calls Tryd.prog 4 #[.slice a n cap] w fun e w' => e = .returned (.bool true) ∧ Below w.heap.size w w' := by
  have hmx : n ≤ maxLen := Nat.le_trans h.le h.le'
  unfold maxLen at hmx
  have HG : Hid (∀ v, Below w.heap.size w v → v.cell? ⟨0, 0, none⟩ = some (errV ea)) := fun v b => by rw [b.cell (p := ⟨0, 0, none⟩) (World.block_lt_of_cell? w ⟨0, 0, none⟩ hG)]; exact hG
  clear hG
  by_cases hbig : (1048576 : Int) < (n : Int)
  · go_enter Tryd.func4, Tryd.ntmps4
    go_wp2
    go_ret
    exact ⟨rfl, Below.refl _ _⟩
  go_enter Tryd.func4, Tryd.ntmps4
  go_wp2_with fail
  refine (drawEncode_calls a n cap l w h).mono ?_
  rintro e w1 ⟨id, kind, a1, n1, c1, l1, rfl, b1, s1, hn1⟩
  go_wp2_with fail
  refine (specEnc_calls id kind a1 n1 c1 l1 w1 s1 (by omega)).mono ?_
  rintro e w2 ⟨a2, c2, rfl, b2, o2⟩
  have s2 := s1.below b2
  have d2 : Below w.heap.size w w2 := b1.trans (b2.mono b1.size)
  clear b2 o2
  go_wp2_with fail
  refine (implEnc_calls id kind a1 n1 c1 l1 w2 s2 (by omega)).mono ?_
  rintro e w3 ⟨a3, c3, rfl, b3, o3⟩
  have d3 : Below w.heap.size w w3 := d2.trans (b3.mono d2.size)
  have s3 := s2.below b3
  have hl1 := s1.len_eq
  have z3 := d2.size
  clear s2 d2 s1 b1 b3
  have D3 : Hid _ := d3
  have hoo : (headOk id kind n1 != headOk id kind n1) = false := by simp
  generalize hok : headOk id kind n1 = ok at *
  generalize hE : (encL id kind l1).length = E at *
  go_upto_if 51 with fail
  go_cut [51] (fun _ wx => Below w.heap.size w wx)
  case first =>
    cases ok with
    | false =>
      go_wp2_with fail
      go_meet
      exact D3.out
    | true =>
      have hk : headOk id kind l1.length = true := by rw [hl1]; exact hok
      have eL : encL id kind l1 = page id kind l1 := by unfold encL; rw [if_pos hk]
      have hpl := page_len (id := id) (kind := kind) (headOk_nat hk)
      have hpB := page_isB hk s3.byte
      obtain ⟨hdP, e2, e3⟩ := enc_dec hk
      have hdB := decB_yes hdP
      have hE6 : E = 256 := by rw [← hE, eL, hpl]
      subst hE6
      rw [eL] at o3
      clear hE
      have I1 := implDecodePage_calls ea id a3 256 c3 (page id kind l1) w3 (o3.bs hpB) (HG.out _ d3)
      rw [e2, e3, hdB, hl1] at I1
      have HF : Hid (∀ i u, i < 256 → 0 ≤ u → u < 256 → u ≠ (page id kind l1).getD i 0 → ¬ decP id ((page id kind l1).set i u)) := fun i u hi h0 h1 hu => dec_flip hk s3.byte hi h0 h1 hu
      have HB1 : Hid (IsB l1) := s3.byte
      generalize page id kind l1 = L at *
      clear e2 e3 hdB hdP eL hk hok
      go_wp2_with fail
      refine I1.mono ?_
      rintro e w4 ⟨a4, c4, rfl, b4, o4⟩
      have kc1 := conv_bs (o4.bs HB1.out)
      have kc2 := conv_bs (s3.below b4)
      generalize strOfNums l1 = S at *
      have hkk : (kind != kind) = false := by simp
      have o5 := o3.below b4
      have d4 : Below w.heap.size w w4 := d3.trans (b4.mono d3.size)
      obtain ⟨bit, hbit⟩ : ∃ bit : Nat, (n : Int) * 37 % 2048 = (bit : Int) := ⟨((n : Int) * 37 % 2048).toNat, by omega⟩
      have hbl : bit < 2048 := by omega
      have hbt : ((n : Int) * 37).tmod 2048 = (bit : Int) := by rw [Int.tmod_eq_emod_of_nonneg (by omega)]; exact hbit
      have D4 : Hid _ := d4
      have O5 : Hid _ := o5
      clear I1 o3 s3 b4 o4 o5 d4 hbit d3
      go_wp2_with fail
      clear kc1 kc2 hkk
      obtain ⟨gb, rfl, hgb⟩ := own_pos2 O5.out (by omega)
      obtain ⟨ix, hix⟩ : ∃ ix : Nat, ix = bit / 8 := ⟨_, rfl⟩
      have hixl : ix < 256 := by omega
      have hi2 : (ix : Int) < 256 := by omega
      have hbq : (bit : Int).tdiv 8 = (ix : Int) := by rw [Int.tdiv_eq_ediv_of_nonneg (by omega)]; omega
      have hc : w4.cell? ⟨gb, ix, none⟩ = some (.int .u8 (L.getD ix 0)) := by rw [O5.out.cellAt ix (by omega), ob_getElem? _ ix (by omega)]
      have hf : w4.frozen? ⟨gb, ix, none⟩ = false := O5.out.frozenAt ix
      have hLx := hpB ix
      generalize hx0 : L.getD ix 0 = x0 at *
      obtain ⟨x00, x01⟩ := hLx
      obtain ⟨r, hr⟩ : ∃ r : Nat, r = bit % 8 := ⟨_, rfl⟩
      have hr8 : r < 8 := by omega
      have hbr : (bit : Int).tmod 8 = (r : Int) := by rw [Int.tmod_eq_emod_of_nonneg (by omega)]; omega
      have hw2 : IntKind.i64.wrap ((bit : Int) / 8) = (ix : Int) := by simp [IntKind.wrap, IntKind.bits, IntKind.signed]; omega
      have hw6 : IntKind.i64.wrap ((bit : Int) % 8) = (r : Int) := by simp [IntKind.wrap, IntKind.bits, IntKind.signed]; omega
      have hd2 : (bit : Int) / 8 = (ix : Int) := by omega
      have hd6 : (bit : Int) % 8 = (r : Int) := by omega
      obtain ⟨y, hy, hy1, hy2⟩ : ∃ y : Int, IntKind.u8.wrap (2 ^ r) = y ∧ 1 ≤ y ∧ y < 256 := by
        have h8 : r = 0 ∨ r = 1 ∨ r = 2 ∨ r = 3 ∨ r = 4 ∨ r = 5 ∨ r = 6 ∨ r = 7 := by omega
        refine ⟨_, rfl, ?_⟩
        clear hr hr8 hbr hw6 hd6
        rcases h8 with rfl | rfl | rfl | rfl | rfl | rfl | rfl | rfl <;> decide
      have HY : Hid (IntKind.u8.wrap (2 ^ r) = y) := hy
      clear hy
      have HW2 : Hid (IntKind.i64.wrap ((bit : Int) / 8) = (ix : Int)) := hw2
      have HW6 : Hid (IntKind.i64.wrap ((bit : Int) % 8) = (r : Int)) := hw6
      have HD2 : Hid ((bit : Int) / 8 = (ix : Int)) := hd2
      have HD6 : Hid ((bit : Int).tmod 8 = (r : Int)) := hbr
      clear hw2 hw6 hd2 hd6 hix hr hbq hbr hbt hbl
      refine wp_regionD (fun v => v.cell? ⟨gb, ix, none⟩ = some (.int .u8 x0)) (fun j => j == 10) (by kernel_rfl) ?_
      have hS0 : w4.drew.cell? ⟨gb, ix, none⟩ = some (.int .u8 x0) := hc
      refine wpAnyD_takeS 0 80 (v := ?vv0) rfl rfl (by kernel_rfl) (by kernel_rfl) (by kernel_rfl) (by kernel_rfl) (fun _ _ _ h => h) (Or.inl ⟨by rfl, ?hy0⟩) hS0 ?rest0
      case hy0 => (intro w hSw; (try dsimp only at hSw); go_simp; try with_reducible rfl)
      simp only [Act.put, List.setIfInBounds_toArray, List.set_cons_zero, List.set_cons_succ]
      refine wpAnyD_takeS 1 81 (v := ?vv1) rfl rfl (by kernel_rfl) (by kernel_rfl) (by kernel_rfl) (by kernel_rfl) (fun _ _ _ h => h) (Or.inl ⟨by rfl, ?hy1⟩) hS0 ?rest1
      case hy1 => (intro w hSw; (try dsimp only at hSw); go_simp; try with_reducible rfl)
      simp only [Act.put, List.setIfInBounds_toArray, List.set_cons_zero, List.set_cons_succ]
      refine wpAnyD_takeS 2 82 (v := ?vv2) rfl rfl (by kernel_rfl) (by kernel_rfl) (by kernel_rfl) (by kernel_rfl) (fun _ _ _ h => h) (Or.inl ⟨by rfl, ?hy2⟩) hS0 ?rest2
      case hy2 => (intro w hSw; go_simp; first | rw [HW2.out] | rw [HD2.out])
      simp only [Act.put, List.setIfInBounds_toArray, List.set_cons_zero, List.set_cons_succ]
      refine wpAnyD_takeS 3 83 (v := ?vv3) rfl rfl (by kernel_rfl) (by kernel_rfl) (by kernel_rfl) (by kernel_rfl) (fun _ _ _ h => h) (Or.inl ⟨by rfl, ?hy3⟩) hS0 ?rest3
      case hy3 => (intro w hSw; (try dsimp only at hSw); go_simp; try with_reducible rfl)
      simp only [Act.put, List.setIfInBounds_toArray, List.set_cons_zero, List.set_cons_succ]
      refine wpAnyD_takeS 4 84 (v := ?vv4) rfl rfl (by kernel_rfl) (by kernel_rfl) (by kernel_rfl) (by kernel_rfl) (fun _ _ _ h => h) (Or.inl ⟨by rfl, ?hy4⟩) hS0 ?rest4
      case hy4 => (intro w hSw; (try dsimp only at hSw); go_simp; try with_reducible rfl)
      simp only [Act.put, List.setIfInBounds_toArray, List.set_cons_zero, List.set_cons_succ]
      refine wpAnyD_takeS 5 85 (v := ?vv5) rfl rfl (by kernel_rfl) (by kernel_rfl) (by kernel_rfl) (by kernel_rfl) (fun _ _ _ h => h) (Or.inl ⟨by rfl, ?hy5⟩) hS0 ?rest5
      case hy5 => (intro w hSw; (try dsimp only at hSw); go_simp; try with_reducible rfl)
      simp only [Act.put, List.setIfInBounds_toArray, List.set_cons_zero, List.set_cons_succ]
      refine wpAnyD_takeS 6 86 (v := ?vv6) rfl rfl (by kernel_rfl) (by kernel_rfl) (by kernel_rfl) (by kernel_rfl) (fun _ _ _ h => h) (Or.inl ⟨by rfl, ?hy6⟩) hS0 ?rest6
      case hy6 => (intro w hSw; go_simp; first | rw [HW6.out] | rw [HD6.out])
      simp only [Act.put, List.setIfInBounds_toArray, List.set_cons_zero, List.set_cons_succ]
      refine wpAnyD_takeS 7 87 (v := ?vv7) rfl rfl (by kernel_rfl) (by kernel_rfl) (by kernel_rfl) (by kernel_rfl) (fun _ _ _ h => h) (Or.inl ⟨by rfl, ?hy7⟩) hS0 ?rest7
      case hy7 => (intro w hSw; go_simp; rw [HY.out])
      simp only [Act.put, List.setIfInBounds_toArray, List.set_cons_zero, List.set_cons_succ]
      refine wpAnyD_takeS 8 88 (v := ?vv8) rfl rfl (by kernel_rfl) (by kernel_rfl) (by kernel_rfl) (by kernel_rfl) (fun _ _ _ h => h) (Or.inl ⟨by rfl, ?hy8⟩) hS0 ?rest8
      case hy8 => (intro w hSw; (try dsimp only at hSw); go_simp; try with_reducible rfl)
      simp only [Act.put, List.setIfInBounds_toArray, List.set_cons_zero, List.set_cons_succ]
      refine wpAnyD_takeS 9 89 (v := ?vv9) rfl rfl (by kernel_rfl) (by kernel_rfl) (by kernel_rfl) (by kernel_rfl) (fun _ _ _ h => h) (Or.inl ⟨by rfl, ?hy9⟩) hS0 ?rest9
      case hy9 => (intro w hSw; (try dsimp only at hSw); go_simp; try with_reducible rfl)
      simp only [Act.put, List.setIfInBounds_toArray, List.set_cons_zero, List.set_cons_succ]
      refine wpAnyD_one 10 (by kernel_rfl) rfl (fun KK hK => ?_)
      go_simp
      refine hK.out _ _ (fun h => by cases h) ?_
      clear hK KK
      refine wpAnyD_done (by kernel_rfl) ?_ _
      have hu : bits .xor .u8 x0 y ≠ x0 ∧ 0 ≤ bits .xor .u8 x0 y ∧ bits .xor .u8 x0 y < 256 := by
        refine ⟨?_, xor8 x00 x01 (by omega) hy2⟩
        rw [u8_xor x0 y x00 x01 (by omega) hy2]
        intro e
        have e1 : y.toNat ^^^ x0.toNat = 0 ^^^ x0.toNat := by rw [Nat.xor_comm, Nat.zero_xor]; omega
        have := xor_cancel e1
        omega
      generalize bits .xor .u8 x0 y = u at *
      obtain ⟨hu1, hu2, hu3⟩ := hu
      have o6 := (own_set (B := w2.heap.size) O5.out ix u).below (Below.refl _ _).drew
      have d6 : Below w.heap.size w (w4.setCell ⟨gb, ix, none⟩ (.int .u8 u)).drew := (D4.out.setCell (p := ⟨gb, ix, none⟩) (by show _ ≤ gb; omega) _).drew
      have hB6 := isB_setF hpB ix hu2 hu3
      have hno := HF.out ix u hixl hu2 hu3 (by rw [hx0]; exact hu1)
      generalize (w4.setCell ⟨gb, ix, none⟩ (.int .u8 u)).drew = W6 at *
      generalize L.set ix u = L6 at *
      have I6 := implDecodePage_calls ea id _ 256 c3 L6 W6 (o6.bs hB6) (HG.out _ d6)
      rw [decK_no hno, decL_no hno, decB_no hno] at I6
      clear hS0 hc hf O5 D4 HY HW2 HW6 HD2 HD6 hx0 HF
      go_wp2_with fail
      refine I6.mono ?_
      rintro e w7 ⟨a7, c7, rfl, b7, o7⟩
      have D7 : Hid (Below w.heap.size w w7) := d6.trans (b7.mono d6.size)
      clear I6 b7 o7 o6 d6
      go_wp2_with fail
      go_meet
      exact D7.out
  case rest =>
    have h1 := h.below hcut
    clear o3 d3 s3 D3 hok hoo hE
    go_wp2_with fail
    refine (drawDecode_calls a n cap l wc h1).mono ?_
    rintro e w8 ⟨id8, a8, n8, c8, l8, rfl, b8, s8, hn8⟩
    have d8 : Below w.heap.size w w8 := hcut.trans (b8.mono hcut.size)
    clear b8 h1
    go_wp2_with fail
    refine (specDec_calls id8 a8 n8 c8 l8 w8 s8).mono ?_
    rintro e w9 ⟨a9, c9, rfl, b9, o9⟩
    have d9 : Below w.heap.size w w9 := d8.trans (b9.mono d8.size)
    have hB9 := decL_isB (id := id8) s8.byte
    have s9 := s8.below b9
    clear s8 b9 d8
    go_wp2_with fail
    refine (implDecodePage_calls ea id8 a8 n8 c8 l8 w9 s9 (HG.out _ d9)).mono ?_
    rintro e wA ⟨aA, cA, rfl, bA, oA⟩
    have kc1 := conv_bs (oA.bs hB9)
    have kc2 := conv_bs ((o9.below bA).bs hB9)
    have DA : Hid (Below w.heap.size w wA) := d9.trans (bA.mono d9.size)
    generalize decL id8 l8 = L8 at *
    generalize decB id8 l8 = ok8 at *
    generalize decK id8 l8 = k8 at *
    generalize L8.length = E8 at *
    generalize strOfNums L8 = S8 at *
    have hk8 : (k8 == k8) = true := by simp
    have ho8 : (ok8 == ok8) = true := by simp
    clear oA o9 bA d9 s9
    go_wp2
    go_ret
    exact ⟨rfl, DA.out⟩
end Go.Proofs.YtnidnkjipkkljaaDoor
