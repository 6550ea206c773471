/- The words of a chunk: the specification. -/
import Derived.Test.YthobegpfibfocaaDoorInts
import Derived.Test.YthobegpfibfocaaDoorShaTurn
import Derived.Test.YthobegpfibfocaaDoorCrcMath
import Derived.Test.YthobegpfibfocaaDoorHeldT
namespace Go.Proofs.YthobegpfibfocaaDoor
open Go.RowKit
set_option linter.unusedVariables false

/-- The words as numbers. -/
def wI (b : List Int) (k : Nat) : List Int := (wds b k).map fun n : Nat => (n : Int)
theorem wI_len (b : List Int) (k : Nat) : (wI b k).length = k := by simp [wI, wds_len]
theorem wI_succ (b : List Int) (k : Nat) : wI b (k + 1) = wI b k ++ [(wAt b k : Int)] := by simp [wI, wds_succ]
theorem wI_getD (b : List Int) (k i : Nat) (h : i < k) : (wI b k).getD i 0 = (wAt b i : Int) := by
  have := wds_getD b k i h
  rw [← this]
  simp [wI, List.getD, wds_len, h]
theorem hi4_shift (b : List Int) (i : Nat) (h : 4 * i + 4 ≤ b.length) : hi4 ((b.drop (4 * i)).take 4) 0 = hi4 b i := by
  simp [hi4, List.getD, List.getElem?_drop]

/-- A part of a row of bytes. -/
theorem Bs.part {w : World} {a : Option Addr} {n c : Nat} {l : List Int} (h : Bs w a n c l) (i j : Nat) (hij : i < j) (hj : j ≤ n) :
    ∃ b off, a = some ⟨b, off, none⟩ ∧ Bs w (some ⟨b, off + i, none⟩) (j - i) (c - i) ((l.drop i).take (j - i)) := by
  obtain ⟨b, off, e, hl, hc⟩ := h.at_ (by omega)
  have h1 := h.le
  have h2 := h.le'
  have h3 := h.len_eq
  refine ⟨b, off, e, by simp; omega, by omega, by omega, fun e => (by cases e), fun _ => ⟨b, off + i, rfl, hl, fun q hq => ?_⟩, fun q => ?_⟩
  · rw [Nat.add_assoc, hc (i + q) (by omega)]
    simp [List.getD, List.getElem?_drop, hq]
  · by_cases hq : q < j - i
    · have := h.byte (i + q)
      simpa [List.getD, List.getElem?_take, List.getElem?_drop, hq] using this
    · simp [List.getD, List.getElem?_take, hq]

theorem wrap_i64_in {n : Int} (h0 : -9223372036854775808 ≤ n) (h1 : n < 9223372036854775808) : IntKind.i64.wrap n = n := by
  simp [IntKind.wrap, IntKind.bits, IntKind.signed]
  omega
theorem sum4_num (a b c d : Nat) (ha : a < 4294967296) (hb : b < 4294967296) (hc : c < 4294967296) (hd : d < 4294967296) : (IntKind.i64.wrap (IntKind.i64.wrap ((a : Int) + (b : Int) + (c : Int)) + (d : Int))).tmod 4294967296 = (((a + b + c + d) % 4294967296 : Nat) : Int) := by
  rw [wrap_i64_in (n := (a : Int) + (b : Int) + (c : Int)) (by omega) (by omega), wrap_i64_in (by omega) (by omega), Int.tmod_eq_emod_of_nonneg (by omega)]
  omega
/-- The last word, in names. -/
theorem wAt_named (ch : List Int) (t : Nat) (h : 16 ≤ t) : ∃ x y p q, x = wAt ch (t - 15) ∧ y = wAt ch (t - 2) ∧ p = wAt ch (t - 7) ∧ q = wAt ch (t - 16) ∧ wAt ch t = (sg1 y + p + sg0 x + q) % 4294967296 :=
  ⟨_, _, _, _, rfl, rfl, rfl, rfl, wAt_hi ch h⟩

set_option maxHeartbeats 1600000 in
set_option maxRecDepth 100000 in
theorem l5Words_calls (a : Option Addr) (c : Nat) (ch : List Int) (w : World) (h : Bs w a 64 c ch) :
    Calls Tryd.prog 73 #[.slice a 64 c] w fun e w' => ∃ g c', e = .returned (.slice (some ⟨g, 0, none⟩) 64 c') ∧ Below w.heap.size w w' ∧ OwnI w.heap.size w' (some ⟨g, 0, none⟩) 64 c' (wI ch 64) := by
  go_enter Tryd.func73, Tryd.ntmps73
  go_wp2
  go_loopw [3, 4] (fun o i wr => ∃ j a c, j ≤ 16 ∧ i = .int .i64 (j : Nat) ∧ o = .slice a j c ∧ Below w.heap.size w wr ∧ OwnI w.heap.size wr a j c (wI ch j)) (fun _ i _ => 16 - (intOf i).toNat)
  case atStart =>
    refine ⟨0, _, 0, Nat.zero_le _, rfl, rfl, (Below.refl _ _).alloc (Nat.le_refl _) _, ?_⟩
    exact ownI_lit w #[] [] 0 rfl rfl (by omega) _ (Nat.le_refl _)
  case round =>
    obtain ⟨j, a2, c2, hj, rfl, rfl, hb, ho⟩ := hrel
    by_cases hlt : j < 16
    · obtain ⟨b, off, rfl, hp⟩ := h.part (4 * j) (4 * j + 4) (by omega) (by omega)
      have hcap := h.le
      have hne : ¬ c = 4 * j := by omega
      have hl := h.len_eq
      have hW : hi4 ((ch.drop (4 * j)).take 4) 0 = wAt ch j := by rw [hi4_shift ch j (by omega), wAt_lo ch hlt]
      have hlt2 := wAt_lt h.byte j
      rw [show 4 * j + 4 - 4 * j = 4 by omega] at hp
      go_wp2_with fail
      refine (l5High_calls _ 4 _ _ wr (hp.below hb) rfl).mono ?_
      rintro e w1 ⟨rfl, m1, rfl⟩
      rw [hW]
      have hb1 : Below w.heap.size w (wr.drewN m1) := below_drewN hb _
      have ho1 : OwnI w.heap.size (wr.drewN m1) a2 j c2 (wI ch j) := ho
      generalize wr.drewN m1 = w1 at *
      clear ho hb hp
      go_wp2_with (at_builtin; refine wpList_appI rfl _ _ rfl w.heap.size a2 j c2 (wI ch j) rfl ho1 _ rfl ?len ?B ?_)
      case len => omega
      case B => exact hb1.size
      intro a' c' w' ho' hb'
      have hb2 : Below w.heap.size w w' := hb1.trans hb'
      rw [← wI_succ] at ho'
      clear ho1 hb1 hb'
      go_wp2
      go_roundw
      case rel => exact ⟨j + 1, a', c', by omega, by go_num, rfl, hb2, ho'⟩
      case measure => simp [intOf]; omega
    · have hj2 : 16 ≤ j := by omega
      clear hlt
      go_wp2
      go_loopw [3, 5] (fun o i wr => ∃ t g c, 16 ≤ t ∧ t ≤ 64 ∧ i = .int .i64 (t : Nat) ∧ o = .slice (some ⟨g, 0, none⟩) t c ∧ Below w.heap.size w wr ∧ OwnI w.heap.size wr (some ⟨g, 0, none⟩) t c (wI ch t)) (fun _ i _ => 64 - (intOf i).toNat)
      case atStart =>
        obtain ⟨g, rfl, _, _⟩ := ho.addr (by omega)
        exact ⟨j, g, c2, hj2, by omega, by rw [show j = 16 by omega]; rfl, rfl, hb, ho⟩
      case round =>
        clear ho hb
        obtain ⟨t, g, c3, ht, ht2, rfl, rfl, hb, ho⟩ := hrel
        by_cases hlt : t < 64
        · have hbs := h.byte
          obtain ⟨x, y, p, q, ex, ey, ep, eq, hW⟩ := wAt_named ch t ht
          have hx : x < 4294967296 := by rw [ex]; exact wAt_lt hbs _
          have hy : y < 4294967296 := by rw [ey]; exact wAt_lt hbs _
          have hp : p < 4294967296 := by rw [ep]; exact wAt_lt hbs _
          have hq : q < 4294967296 := by rw [eq]; exact wAt_lt hbs _
          have cx : wr.cell? ⟨g, t - 15, none⟩ = some (.int .i64 (x : Nat)) := by rw [ho.cell (t - 15) (by omega), wI_getD _ _ _ (by omega), ex]
          have cy : wr.cell? ⟨g, t - 2, none⟩ = some (.int .i64 (y : Nat)) := by rw [ho.cell (t - 2) (by omega), wI_getD _ _ _ (by omega), ey]
          have cp : wr.cell? ⟨g, t - 7, none⟩ = some (.int .i64 (p : Nat)) := by rw [ho.cell (t - 7) (by omega), wI_getD _ _ _ (by omega), ep]
          have cq : wr.cell? ⟨g, t - 16, none⟩ = some (.int .i64 (q : Nat)) := by rw [ho.cell (t - 16) (by omega), wI_getD _ _ _ (by omega), eq]
          have r1 := rotr_lt (r := 7) (by omega) hx
          have r2 := rotr_lt (r := 18) (by omega) hx
          have r3 := rotr_lt (r := 17) (by omega) hy
          have r4 := rotr_lt (r := 19) (by omega) hy
          have k1 := i64_xor_nat _ _ r1 r2
          have k2 := i64_xor_nat _ _ r3 r4
          have k3 : bits .xor .i64 ((rotr 7 x ^^^ rotr 18 x : Nat) : Int) ((x : Int) / 8) = (sg0 x : Nat) := i64_xor_nat _ (x / 8) (xlt r1 r2) (by omega)
          have k4 : bits .xor .i64 ((rotr 17 y ^^^ rotr 19 y : Nat) : Int) ((y : Int) / 1024) = (sg1 y : Nat) := i64_xor_nat _ (y / 1024) (xlt r3 r4) (by omega)
          have s0 := sg0_lt hx
          have s1 := sg1_lt hy
          have T1 : ∀ w, _ := fun w => l5Turn_calls x 7 w (by omega) hx
          have T2 : ∀ w, _ := fun w => l5Turn_calls x 18 w (by omega) hx
          have T3 : ∀ w, _ := fun w => l5Turn_calls y 17 w (by omega) hy
          have T4 : ∀ w, _ := fun w => l5Turn_calls y 19 w (by omega) hy
          have HT : Hid _ := And.intro T1 (And.intro T2 (And.intro T3 T4))
          have HW : Hid _ := hW
          have HO : Hid _ := ho
          have HB : Hid _ := hb
          clear T1 T2 T3 T4 ex ey ep eq hW ho hb hbs
          generalize rotr 7 x ^^^ rotr 18 x = A at *
          generalize rotr 17 y ^^^ rotr 19 y = C at *
          generalize rotr 7 x = R1 at *
          generalize rotr 18 x = R2 at *
          generalize rotr 17 y = R3 at *
          generalize rotr 19 y = R4 at *
          generalize sg0 x = S0 at *
          generalize sg1 y = S1 at *
          go_wp2_with fail
          refine (HT.out.1 _).mono ?_
          rintro e w1 ⟨rfl, m1, rfl⟩
          go_wp2_with fail
          refine (HT.out.2.1 _).mono ?_
          rintro e w1 ⟨rfl, m2, rfl⟩
          go_wp2_with fail
          refine (HT.out.2.2.1 _).mono ?_
          rintro e w1 ⟨rfl, m3, rfl⟩
          go_wp2_with fail
          refine (HT.out.2.2.2 _).mono ?_
          rintro e w1 ⟨rfl, m4, rfl⟩
          go_wp2_with fail
          have e7 : IntKind.i64.wrap ((t : Int) - 7) = ((t - 7 : Nat) : Int) := by rw [wrap_i64_in (by omega) (by omega)]; omega
          have e16 : IntKind.i64.wrap ((t : Int) - 16) = ((t - 16 : Nat) : Int) := by rw [wrap_i64_in (by omega) (by omega)]; omega
          have l7 : ((t - 7 : Nat) : Int) < (t : Int) := by omega
          have l16 : ((t - 16 : Nat) : Int) < (t : Int) := by omega
          have n7 : 0 ≤ ((t - 7 : Nat) : Int) := by omega
          have n16 : 0 ≤ ((t - 16 : Nat) : Int) := by omega
          have z1 : IntKind.i64.wrap ((S1 : Int) + (p : Int)) = ((S1 + p : Nat) : Int) := wrap_i64_in (by omega) (by omega)
          have z2 : IntKind.i64.wrap (((S1 + p : Nat) : Int) + (S0 : Int)) = ((S1 + p + S0 : Nat) : Int) := wrap_i64_in (by omega) (by omega)
          have z3 : IntKind.i64.wrap (((S1 + p + S0 : Nat) : Int) + (q : Int)) = ((S1 + p + S0 + q : Nat) : Int) := wrap_i64_in (by omega) (by omega)
          have hgl : g < wr.heap.size := by
            obtain ⟨g', e1, _, h2⟩ := OwnI.addr HO.out (by omega)
            cases e1; exact h2
          have KEY : Hid (∀ v : World, Below wr.heap.size wr v → v.cell? ⟨g, t - 7, none⟩ = some (.int .i64 (p : Nat)) ∧ v.cell? ⟨g, t - 16, none⟩ = some (.int .i64 (q : Nat))) := fun v bv =>
            ⟨(bv.cell (p := ⟨g, t - 7, none⟩) hgl).trans cp, (bv.cell (p := ⟨g, t - 16, none⟩) hgl).trans cq⟩
          refine wp_regionD (fun v => v.cell? ⟨g, t - 7, none⟩ = some (.int .i64 (p : Nat)) ∧ v.cell? ⟨g, t - 16, none⟩ = some (.int .i64 (q : Nat))) (fun j => decide (18 ≤ j)) (by kernel_rfl) ?_
          have hS0 := And.intro cp cq
          refine wpAnyD_takeT 0 56 (v := ?vv0) rfl rfl (by kernel_rfl) (by kernel_rfl) (by kernel_rfl) (by kernel_rfl) (fun _ _ _ h => h) (Or.inl ⟨by rfl, ?hy0⟩) hS0 ?rest0
          case hy0 => (intro w hSw; (try dsimp only at hSw); go_simp; try with_reducible rfl)
          simp only [Act.put, List.setIfInBounds_toArray, List.set_cons_zero, List.set_cons_succ]
          refine wpAnyD_takeT 1 57 (v := ?vv1) rfl rfl (by kernel_rfl) (by kernel_rfl) (by kernel_rfl) (by kernel_rfl) (fun _ _ _ h => h) (Or.inl ⟨by rfl, ?hy1⟩) hS0 ?rest1
          case hy1 => (intro w hSw; (try dsimp only at hSw); go_simp; try with_reducible rfl)
          simp only [Act.put, List.setIfInBounds_toArray, List.set_cons_zero, List.set_cons_succ]
          refine wpAnyD_takeT 2 58 (v := ?vv2) rfl rfl (by kernel_rfl) (by kernel_rfl) (by kernel_rfl) (by kernel_rfl) (fun _ _ _ h => h) (Or.inl ⟨by rfl, ?hy2⟩) hS0 ?rest2
          case hy2 => (intro w hSw; (try dsimp only at hSw); go_simp; try with_reducible rfl)
          simp only [Act.put, List.setIfInBounds_toArray, List.set_cons_zero, List.set_cons_succ]
          refine wpAnyD_takeT 3 59 (v := ?vv3) rfl rfl (by kernel_rfl) (by kernel_rfl) (by kernel_rfl) (by kernel_rfl) (fun _ _ _ h => h) (Or.inl ⟨by rfl, ?hy3⟩) hS0 ?rest3
          case hy3 => (intro w hSw; (try dsimp only at hSw); go_simp; try with_reducible rfl)
          simp only [Act.put, List.setIfInBounds_toArray, List.set_cons_zero, List.set_cons_succ]
          refine wpAnyD_takeT 4 60 (v := ?vv4) rfl rfl (by kernel_rfl) (by kernel_rfl) (by kernel_rfl) (by kernel_rfl) (fun _ _ _ h => h) (Or.inl ⟨by rfl, ?hy4⟩) hS0 ?rest4
          case hy4 => (intro w hSw; (try dsimp only at hSw); go_simp; try with_reducible rfl)
          simp only [Act.put, List.setIfInBounds_toArray, List.set_cons_zero, List.set_cons_succ]
          refine wpAnyD_takeT 5 61 (v := ?vv5) rfl rfl (by kernel_rfl) (by kernel_rfl) (by kernel_rfl) (by kernel_rfl) (fun _ _ _ h => h) (Or.inl ⟨by rfl, ?hy5⟩) hS0 ?rest5
          case hy5 => (intro w hSw; (try dsimp only at hSw); go_simp; try with_reducible rfl)
          simp only [Act.put, List.setIfInBounds_toArray, List.set_cons_zero, List.set_cons_succ]
          refine wpAnyD_takeT 6 62 (v := ?vv6) rfl rfl (by kernel_rfl) (by kernel_rfl) (by kernel_rfl) (by kernel_rfl) (fun _ _ _ h => h) (Or.inl ⟨by rfl, ?hy6⟩) hS0 ?rest6
          case hy6 => (intro w hSw; (try dsimp only at hSw); go_simp; try with_reducible rfl)
          simp only [Act.put, List.setIfInBounds_toArray, List.set_cons_zero, List.set_cons_succ]
          refine wpAnyD_takeT 7 63 (v := ?vv7) rfl rfl (by kernel_rfl) (by kernel_rfl) (by kernel_rfl) (by kernel_rfl) (fun _ _ _ h => h) (Or.inl ⟨by rfl, ?hy7⟩) hS0 ?rest7
          case hy7 => (intro w hSw; (try dsimp only at hSw); go_simp; try with_reducible rfl)
          simp only [Act.put, List.setIfInBounds_toArray, List.set_cons_zero, List.set_cons_succ]
          refine wpAnyD_takeT 8 64 (v := ?vv8) rfl rfl (by kernel_rfl) (by kernel_rfl) (by kernel_rfl) (by kernel_rfl) (fun _ _ _ h => h) (Or.inl ⟨by rfl, ?hy8⟩) hS0 ?rest8
          case hy8 => (intro w hSw; (try dsimp only at hSw); go_simp; try with_reducible rfl)
          simp only [Act.put, List.setIfInBounds_toArray, List.set_cons_zero, List.set_cons_succ]
          refine wpAnyD_takeT 9 65 (v := ?vv9) rfl rfl (by kernel_rfl) (by kernel_rfl) (by kernel_rfl) (by kernel_rfl) (fun _ _ _ h => h) (Or.inl ⟨by rfl, ?hy9⟩) hS0 ?rest9
          case hy9 => (intro w hSw; (try dsimp only at hSw); go_simp; try with_reducible rfl)
          simp only [Act.put, List.setIfInBounds_toArray, List.set_cons_zero, List.set_cons_succ]
          refine wpAnyD_takeT 10 66 (v := ?vv10) rfl rfl (by kernel_rfl) (by kernel_rfl) (by kernel_rfl) (by kernel_rfl) (fun _ _ _ h => h) (Or.inl ⟨by rfl, ?hy10⟩) hS0 ?rest10
          case hy10 => (intro w hSw; (try dsimp only at hSw); go_simp; try with_reducible rfl)
          simp only [Act.put, List.setIfInBounds_toArray, List.set_cons_zero, List.set_cons_succ]
          refine wpAnyD_takeT 11 67 (v := ?vv11) rfl rfl (by kernel_rfl) (by kernel_rfl) (by kernel_rfl) (by kernel_rfl) (fun _ _ _ h => h) (Or.inl ⟨by rfl, ?hy11⟩) hS0 ?rest11
          case hy11 => (intro w hSw; (try dsimp only at hSw); go_simp; try with_reducible rfl)
          simp only [Act.put, List.setIfInBounds_toArray, List.set_cons_zero, List.set_cons_succ]
          refine wpAnyD_takeT 12 68 (v := ?vv12) rfl rfl (by kernel_rfl) (by kernel_rfl) (by kernel_rfl) (by kernel_rfl) (fun _ _ _ h => h) (Or.inl ⟨by rfl, ?hy12⟩) hS0 ?rest12
          case hy12 => (intro w hSw; (try dsimp only at hSw); go_simp; try with_reducible rfl)
          simp only [Act.put, List.setIfInBounds_toArray, List.set_cons_zero, List.set_cons_succ]
          refine wpAnyD_takeT 13 69 (v := ?vv13) rfl rfl (by kernel_rfl) (by kernel_rfl) (by kernel_rfl) (by kernel_rfl) (fun _ _ _ h => h) (Or.inl ⟨by rfl, ?hy13⟩) hS0 ?rest13
          case hy13 => (intro w hSw; (try dsimp only at hSw); go_simp; try with_reducible rfl)
          simp only [Act.put, List.setIfInBounds_toArray, List.set_cons_zero, List.set_cons_succ]
          refine wpAnyD_takeT 14 70 (v := ?vv14) rfl rfl (by kernel_rfl) (by kernel_rfl) (by kernel_rfl) (by kernel_rfl) (fun _ _ _ h => h) (Or.inl ⟨by rfl, ?hy14⟩) hS0 ?rest14
          case hy14 => (intro w hSw; (try dsimp only at hSw); go_simp; try with_reducible rfl)
          simp only [Act.put, List.setIfInBounds_toArray, List.set_cons_zero, List.set_cons_succ]
          refine wpAnyD_takeT 15 71 (v := ?vv15) rfl rfl (by kernel_rfl) (by kernel_rfl) (by kernel_rfl) (by kernel_rfl) (fun _ _ _ h => h) (Or.inl ⟨by rfl, ?hy15⟩) hS0 ?rest15
          case hy15 => (intro w hSw; (try dsimp only at hSw); go_simp; try with_reducible rfl)
          simp only [Act.put, List.setIfInBounds_toArray, List.set_cons_zero, List.set_cons_succ]
          refine wpAnyD_takeT 16 72 (v := ?vv16) rfl rfl (by kernel_rfl) (by kernel_rfl) (by kernel_rfl) (by kernel_rfl) (fun _ _ _ h => h) (Or.inl ⟨by rfl, ?hy16⟩) hS0 ?rest16
          case hy16 => (intro w hSw; (try dsimp only at hSw); go_simp; try with_reducible rfl)
          simp only [Act.put, List.setIfInBounds_toArray, List.set_cons_zero, List.set_cons_succ]
          refine wpAnyD_one 17 (by kernel_rfl) rfl (fun KK hK => ?_)
          go_simp
          refine hK.out _ _ (fun _ => KEY.out _ ((below_drewN (Below.refl _ _) _).alloc (Nat.le_refl _) _)) ?_
          clear hK KK
          refine wpAnyD_one 18 (by kernel_rfl) rfl (fun KK hK => ?_)
          refine step_appI rfl _ _ rfl w.heap.size (some ⟨g, 0, none⟩) t c3 (wI ch t) rfl ?_ _ ?_ (by omega) ?_ ?_
          · exact HO.out
          · rfl
          · exact HB.out.size
          intro a4 c4 w4 o4 b4
          refine hK.out _ _ (fun h => by cases h) ?_
          clear hK KK
          refine wpAnyD_one 19 (by kernel_rfl) rfl (fun KK hK => ?_)
          go_simp
          refine hK.out _ _ (fun h => by cases h) ?_
          clear hK KK
          refine wpAnyD_done (by kernel_rfl) ?_ _
          obtain ⟨g4, rfl, hg4, hg5⟩ := OwnI.addr o4 (by omega)
          have b5 : Below w.heap.size w w4 := (below_drewN HB.out _).trans b4
          clear HO HB b4 HT
          go_wp2
          go_roundw
          case rel =>
            refine ⟨t + 1, g4, c4, by omega, by omega, by go_num, rfl, b5, ?_⟩
            rw [wI_succ, HW.out, ← sum4_num S1 p S0 q s1 hp s0 hq]
            exact o4
          case measure => simp [intOf]; omega
        · have e : t = 64 := by omega
          subst e
          go_wp2
          go_ret
          exact ⟨g, c3, rfl, hb, ho⟩
end Go.Proofs.YthobegpfibfocaaDoor
