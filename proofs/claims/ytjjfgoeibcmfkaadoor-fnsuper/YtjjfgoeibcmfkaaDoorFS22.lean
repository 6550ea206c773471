import Derived.Test.YtjjfgoeibcmfkaaDoorFS14
import Derived.Test.YtjjfgoeibcmfkaaDoorFS19
import Derived.Test.YtjjfgoeibcmfkaaDoorFS21
import Derived.Test.YtjjfgoeibcmfkaaDoorFS18
import Derived.Test.YtjjfgoeibcmfkaaDoorFS0
import Derived.Deep.RegionHeld3
/- A superblock that is written is the one that is found. -/
namespace Go.Proofs.YtjjfgoeibcmfkaaDoor
open Go.RowKit
set_option linter.unusedVariables false

theorem lastTo_congr {A B : Nat → Int} {t : Int} : ∀ m, (∀ i, i < m → A i = B i) → lastTo A t m = lastTo B t m
  | 0, _ => rfl
  | m + 1, h => by
    simp only [lastTo]
    rw [h m (by omega), lastTo_congr m (fun i hi => h i (by omega))]
/-- Four writes of a page behind a disk. -/
structure Four (K K' : DK) (id : Nat) (P : List Int) (j : Nat) : Prop where
  n : K'.n = K.n
  m : K'.m = K.m + j
  S : K'.S = K.S
  old : ∀ i, i < K.m → K'.At i = K.At i ∧ K'.D i = K.D i
  new : ∀ i, i < j → K'.At (K.m + i) = ((4 * id + i : Nat) : Int) ∧ K'.D (K.m + i) = opL P i
theorem opL_len {P : List Int} (hP : P.length = 256) {i : Nat} (hi : i < 4) : (opL P i).length = 64 := by
  unfold opL
  rw [List.length_take, List.length_drop]
  omega
theorem four_wr {K K' : DK} {id : Nat} {P : List Int} {j : Nat} (h : Four K K' id P j) (hP : P.length = 256) (hn : 4 * id + 3 < K.n) (hm : K.m + 4 ≤ 5000) (hj : j < 4) : wrP K' 1 ((4 * id + j : Nat) : Int) (opL P j).length := by
  refine ⟨rfl, by omega, by rw [h.n]; omega, opL_len hP hj, by rw [h.m]; omega⟩
theorem four_step {K K' : DK} {id : Nat} {P : List Int} {j : Nat} (h : Four K K' id P j) (hP : P.length = 256) (hn : 4 * id + 3 < K.n) (hm : K.m + 4 ≤ 5000) (hj : j < 4) : Four K (doK K' (opI (id : Int) j 0) (opI (id : Int) j 1) (opL P j)) id P (j + 1) := by
  have e0 : opI (id : Int) j 0 = 1 := rfl
  have e1 : opI (id : Int) j 1 = ((4 * id + j : Nat) : Int) := by show 4 * (id : Int) + (j : Int) = _; omega
  rw [e0, e1, doK_wr (four_wr h hP hn hm hj)]
  refine ⟨h.n, by show K'.m + 1 = _; rw [h.m]; omega, h.S, fun i hi => ?_, fun i hi => ?_⟩
  · show upd K'.At K'.m _ i = K.At i ∧ upd K'.D K'.m _ i = K.D i
    have hne : i ≠ K'.m := by rw [h.m]; omega
    rw [upd_ne _ _ _ hne, upd_ne _ _ _ hne]
    exact h.old i hi
  · show upd K'.At K'.m _ (K.m + i) = _ ∧ upd K'.D K'.m _ (K.m + i) = _
    by_cases e : i = j
    · subst e
      rw [← h.m, upd_same, upd_same]
      exact ⟨rfl, rfl⟩
    · have hne : K.m + i ≠ K'.m := by rw [h.m]; omega
      rw [upd_ne _ _ _ hne, upd_ne _ _ _ hne]
      exact h.new i (by omega)
theorem four_pl {K : DK} {id : Nat} {P : List Int} (hP : P.length = 256) (hn : 4 * id + 3 < K.n) (hm : K.m + 4 ≤ 5000) : ∀ j, j ≤ 4 → Four K (plK K (opI (id : Int)) (opL P) j) id P j
  | 0, _ => ⟨rfl, rfl, rfl, fun _ _ => ⟨rfl, rfl⟩, fun i hi => absurd hi (Nat.not_lt_zero _)⟩
  | j + 1, h => four_step (four_pl hP hn hm j (by omega)) hP hn hm (by omega)
theorem four_pp {K : DK} {id : Nat} {P : List Int} {N : Nat → Nat} (hok : dOk K) (hP : P.length = 256) (hn : 4 * id + 3 < K.n) (hm : K.m + 4 ≤ 5000) (hN : ∀ i, i < 4 → N i = 64) : Four K (ppK K (opI (id : Int)) N (opL P) 4 4) id P 4 ∧ dOk (ppK K (opI (id : Int)) N (opL P) 4 4) := by
  have hb : ∀ j, j < 4 → plB K (opI (id : Int)) N (opL P) j = true := fun j hj => by
    unfold plB
    have e1 : opI (id : Int) j 1 = ((4 * id + j : Nat) : Int) := by show 4 * (id : Int) + (j : Int) = _; omega
    rw [show opI (id : Int) j 0 = 1 from rfl, e1]
    refine doB_wr ?_
    have := four_wr (four_pl hP hn hm j (by omega)) hP hn hm hj
    rw [opL_len hP hj] at this
    rw [hN j hj]
    exact this
  have e : plN K (opI (id : Int)) N (opL P) 4 4 = 4 := by
    show plGo _ (limOf 4 4) 0 = 4
    rw [show limOf 4 4 = 4 from rfl]
    simp only [plGo, hb 0 (by omega), hb 1 (by omega), hb 2 (by omega), hb 3 (by omega)]
  rw [ppK_yes hok (by omega), e]
  exact ⟨four_pl hP hn hm 4 (by omega), plK_ok _ _ hok 4⟩
theorem four_last {K K' : DK} {id : Nat} {P : List Int} (h : Four K K' id P 4) (t : Int) : lastTo K'.At t K'.m = if ((4 * id + 3 : Nat) : Int) = t then some (K.m + 3) else if ((4 * id + 2 : Nat) : Int) = t then some (K.m + 2) else if ((4 * id + 1 : Nat) : Int) = t then some (K.m + 1) else if ((4 * id : Nat) : Int) = t then some K.m else lastTo K.At t K.m := by
  rw [h.m]
  simp only [lastTo, show K.m + 3 = K.m + 2 + 1 from rfl, show K.m + 2 = K.m + 1 + 1 from rfl]
  have n0 := (h.new 0 (by omega)).1
  have n1 := (h.new 1 (by omega)).1
  have n2 := (h.new 2 (by omega)).1
  have n3 := (h.new 3 (by omega)).1
  simp only [Nat.add_zero] at n0
  rw [show K.m + 1 + 1 + 1 = K.m + 3 from rfl, show K.m + 1 + 1 = K.m + 2 from rfl, n3, n2, n1, n0, lastTo_congr K.m (fun i hi => (h.old i hi).1)]
theorem four_now {K K' : DK} {id : Nat} {P : List Int} (h : Four K K' id P 4) : (∀ q, q < 4 → nowL K' (4 * id + q) = opL P q) ∧ ∀ T, T < 4 * id ∨ 4 * id + 4 ≤ T → nowL K' T = nowL K T := by
  refine ⟨fun q hq => ?_, fun T hT => ?_⟩
  · unfold nowL pick
    rw [four_last h]
    rcases (show q = 0 ∨ q = 1 ∨ q = 2 ∨ q = 3 by omega) with e | e | e | e <;> subst e
    · rw [if_neg (by omega), if_neg (by omega), if_neg (by omega), if_pos (by omega)]
      have := (h.new 0 (by omega)).2
      exact this
    · rw [if_neg (by omega), if_neg (by omega), if_pos (by omega)]
      exact (h.new 1 (by omega)).2
    · rw [if_neg (by omega), if_pos (by omega)]
      exact (h.new 2 (by omega)).2
    · rw [if_pos (by omega)]
      exact (h.new 3 (by omega)).2
  · unfold nowL pick
    rw [four_last h, if_neg (by omega), if_neg (by omega), if_neg (by omega), if_neg (by omega)]
    cases hl : lastTo K.At (T : Int) K.m with
    | none => show K'.S T = K.S T; rw [h.S]
    | some i => exact (h.old i (lastTo_lt hl)).2
theorem pg_join {P : List Int} (hP : P.length = 256) : opL P 0 ++ opL P 1 ++ opL P 2 ++ opL P 3 = P := by
  unfold opL
  have e0 : P = P.take 64 ++ P.drop 64 := (List.take_append_drop 64 P).symm
  have e1 : P.drop 64 = (P.drop 64).take 64 ++ P.drop 128 := by
    have := (List.take_append_drop 64 (P.drop 64)).symm
    rw [List.drop_drop] at this
    exact this
  have e2 : P.drop 128 = (P.drop 128).take 64 ++ P.drop 192 := by
    have := (List.take_append_drop 64 (P.drop 128)).symm
    rw [List.drop_drop] at this
    exact this
  have e3 : P.drop 192 = (P.drop 192).take 64 := (List.take_of_length_le (by rw [List.length_drop]; omega)).symm
  show (P.drop 0).take 64 ++ (P.drop 64).take 64 ++ (P.drop 128).take 64 ++ (P.drop 192).take 64 = P
  rw [← e3, List.append_assoc, ← e2, List.append_assoc, ← e1, List.drop_zero, ← e0]
theorem four_pg {K K' : DK} {id : Nat} {P : List Int} (h : Four K K' id P 4) (hP : P.length = 256) : pgL K' id = P ∧ ∀ T, T ≠ id → pgL K' T = pgL K T := by
  obtain ⟨h1, h2⟩ := four_now h
  refine ⟨?_, fun T hT => ?_⟩
  · show ((([] ++ nowL K' (4 * id + 0)) ++ nowL K' (4 * id + 1)) ++ nowL K' (4 * id + 2)) ++ nowL K' (4 * id + 3) = P
    rw [h1 0 (by omega), h1 1 (by omega), h1 2 (by omega), h1 3 (by omega), List.nil_append]
    exact pg_join hP
  · show ((([] ++ nowL K' (4 * T + 0)) ++ nowL K' (4 * T + 1)) ++ nowL K' (4 * T + 2)) ++ nowL K' (4 * T + 3) = ((([] ++ nowL K (4 * T + 0)) ++ nowL K (4 * T + 1)) ++ nowL K (4 * T + 2)) ++ nowL K (4 * T + 3)
    rw [h2 (4 * T + 0) (by omega), h2 (4 * T + 1) (by omega), h2 (4 * T + 2) (by omega), h2 (4 * T + 3) (by omega)]

theorem num_take (v : Int) (a b : Nat) : (num v (a + b)).take a = num v a := by
  unfold num
  rw [← List.map_take, List.take_range, Nat.min_eq_left (by omega)]
theorem sup_take7 (gen root used free : Int) : (supBody gen root used free).take 7 = num gen 7 := by
  unfold supBody
  rw [List.append_assoc, List.take_append_of_le_length (by rw [num_len]; omega)]
  exact num_take gen 7 1
theorem sup_at7 {gen : Int} (root used free : Int) (h0 : 0 ≤ gen) (h1 : gen ≤ 1000000000000) : (supBody gen root used free).getD 7 0 = 0 := by
  unfold supBody
  rw [List.append_assoc, List.getD_eq_getElem?_getD, List.getElem?_append_left (by rw [num_len]; omega)]
  show ((num gen 8)[7]?).getD 0 = 0
  unfold num
  simp
  have : (256 : Int) ^ 7 = 72057594037927936 := by decide
  omega
theorem cut_app {A B : List Int} (i m : Nat) (h : A.length = i) : cutL (A ++ B) i m = B.take m := by
  unfold cutL
  rw [← h, List.drop_left]
theorem sup_cuts (gen root used free : Int) : cutL (supBody gen root used free) 8 4 = num root 4 ∧ cutL (supBody gen root used free) 12 4 = num used 4 ∧ cutL (supBody gen root used free) 16 4 = num free 4 := by
  unfold supBody
  refine ⟨?_, ?_, ?_⟩
  · rw [List.append_assoc, cut_app 8 4 (num_len _ _), List.take_append_of_le_length (by rw [num_len]; omega), List.take_of_length_le (by rw [num_len]; omega)]
  · rw [cut_app 12 4 (by rw [List.length_append, num_len, num_len]), List.take_append_of_le_length (by rw [num_len]; omega), List.take_of_length_le (by rw [num_len]; omega)]
  · rw [← List.append_assoc, cut_app 16 4 (by rw [List.length_append, List.length_append, num_len, num_len, num_len]), List.take_of_length_le (by rw [num_len]; omega)]
theorem sup_is {gen root used free : Int} (h : supOk gen root used free = true) : sG (supBody gen root used free) = gen ∧ sR (supBody gen root used free) = root ∧ sU (supBody gen root used free) = used ∧ sF (supBody gen root used free) = free := by
  obtain ⟨⟨g0, g1, u0, u1⟩, ⟨r0, r1⟩, f0, f1⟩ := supOk_rng h
  obtain ⟨c1, c2, c3⟩ := sup_cuts gen root used free
  have p7 : (256 : Int) ^ 7 = 72057594037927936 := by decide
  have p4 : (256 : Int) ^ 4 = 4294967296 := by decide
  refine ⟨?_, ?_, ?_, ?_⟩
  · unfold sG; rw [sup_take7]; exact low_num 7 _ (by omega) (by omega)
  · unfold sR; rw [c1]; exact low_num 4 _ (by omega) (by omega)
  · unfold sU; rw [c2]; exact low_num 4 _ (by omega) (by omega)
  · unfold sF; rw [c3]; exact low_num 4 _ (by omega) (by omega)
/-- A superblock's page is one that stands there. -/
theorem sa_page {K : DK} {id : Nat} {gen root used free : Int} (hid : (id : Int) = gen % 2) (hk : supOk gen root used free = true) (hu : used ≤ (K.n : Int) / 4) (hn : 8 ≤ K.n) (hp : pgL K id = supPage gen root used free) : saP K (id : Int) ∧ vL K (id : Int) = supBody gen root used free := by
  have hin : pgIn K (id : Int) := by unfold pgIn; omega
  have hh : headOk (gen % 2) 1 (supBody gen root used free).length = true := by rw [supBody_len]; exact sup_head gen
  obtain ⟨e1, e2, e3⟩ := enc_dec hh
  have vl : vL K (id : Int) = supBody gen root used free := by
    unfold vL
    rw [vIn_yes hin]
    show decL (id : Int) (pgL K (id : Int).toNat) = _
    rw [Int.toNat_natCast, hp, hid]
    exact e3
  have vk : vK K (id : Int) = 1 := by
    unfold vK
    rw [vIn_yes hin]
    show decK (id : Int) (pgL K (id : Int).toNat) = _
    rw [Int.toNat_natCast, hp, hid]
    exact e2
  have vb : vB K (id : Int) = true := by
    unfold vB
    rw [vIn_yes hin]
    show decB (id : Int) (pgL K (id : Int).toNat) = _
    rw [Int.toNat_natCast, hp, hid]
    exact decB_yes e1
  obtain ⟨s1, s2, s3, s4⟩ := sup_is hk
  obtain ⟨⟨g0, g1, u0, u1⟩, _⟩ := supOk_rng hk
  refine ⟨⟨vb, vk, by rw [vl, supBody_len], by rw [vl]; exact sup_at7 root used free (by omega) g1, ?_, by rw [vl, s1, hid], by rw [vl, s3]; exact hu⟩, vl⟩
  rw [vl]
  unfold sOk
  rw [s1, s2, s3, s4]
  exact hk
theorem sa_zero {K : DK} {id : Nat} (hp : pgL K id = List.replicate 256 0) : ¬ saP K (id : Int) := by
  rintro ⟨hb, _⟩
  unfold vB at hb
  cases hin : vIn K (id : Int) with
  | false => rw [hin] at hb; cases hb
  | true =>
    rw [hin] at hb
    have hb' : decB (id : Int) (pgL K (id : Int).toNat) = true := hb
    rw [Int.toNat_natCast, hp] at hb'
    have hd : decP (id : Int) (List.replicate 256 0) := @of_decide_eq_true _ (Classical.propDecidable _) hb'
    have h2 := hd.2.1
    have hk : kd (List.replicate 256 0) = 0 := by decide
    rw [hk] at h2
    have := (of_decide_eq_true h2).2.2.1
    omega
theorem new_now (n T : Nat) : nowL (newK n) T = zeros64 := rfl
theorem new_pg (n T : Nat) : pgL (newK n) T = List.replicate 256 0 := by
  show ((([] ++ zeros64) ++ zeros64) ++ zeros64) ++ zeros64 = _
  unfold zeros64
  rw [List.nil_append]
  simp only [List.replicate_append_replicate]
theorem supPage_len (gen root used free : Int) : (supPage gen root used free).length = 256 := page_len (by rw [supBody_len]; omega)
theorem newK_ok : dOk (newK 128) := ⟨⟨by show 1 ≤ 128; omega, by show 128 ≤ 4096; omega, Nat.zero_le _⟩, fun i _ => zeros64_len, fun j hj => absurd hj (Nat.not_lt_zero _)⟩
/-- The value that BestSuper gives. -/
theorem best_is {K : DK} {id : Nat} {gen root used free : Int} (hok : dOk K) (hb : bestId K = (id : Int)) (hs : saP K (id : Int)) (hv : vL K (id : Int) = supBody gen root used free) (hk : supOk gen root used free = true) : bsB K = true ∧ bsN sG K = gen ∧ bsN sR K = root ∧ bsN sU K = used ∧ bsN sF K = free := by
  obtain ⟨s1, s2, s3, s4⟩ := sup_is hk
  unfold bsB bsN
  rw [dOk_true hok, hb, saN_yes hs, saN_yes hs, saN_yes hs, saN_yes hs, hv]
  exact ⟨saB_yes hs, s1, s2, s3, s4⟩
/-- The first superblock on a fresh disk. -/
theorem first_is {gen root used free : Int} {N : Nat → Nat} (hk : supOk gen root used free = true) (hu : used ≤ 32) (hN : ∀ i, i < 4 → N i = 64) :
    dOk (ppK (newK 128) (opI (gen % 2)) N (opL (supPage gen root used free)) 4 4) ∧ bsB (ppK (newK 128) (opI (gen % 2)) N (opL (supPage gen root used free)) 4 4) = true ∧ bsN sG (ppK (newK 128) (opI (gen % 2)) N (opL (supPage gen root used free)) 4 4) = gen ∧ bsN sR (ppK (newK 128) (opI (gen % 2)) N (opL (supPage gen root used free)) 4 4) = root ∧ bsN sU (ppK (newK 128) (opI (gen % 2)) N (opL (supPage gen root used free)) 4 4) = used ∧ bsN sF (ppK (newK 128) (opI (gen % 2)) N (opL (supPage gen root used free)) 4 4) = free
      ∧ ∃ id : Nat, (id : Int) = gen % 2 ∧ Four (newK 128) (ppK (newK 128) (opI (gen % 2)) N (opL (supPage gen root used free)) 4 4) id (supPage gen root used free) 4 := by
  obtain ⟨id, hid⟩ : ∃ id : Nat, (id : Int) = gen % 2 := ⟨(gen % 2).toNat, by omega⟩
  have hn : 4 * id + 3 < (newK 128).n := by show _ < 128; omega
  obtain ⟨F, ok⟩ := four_pp (id := id) (N := N) newK_ok (supPage_len gen root used free) hn (by show 0 + 4 ≤ 5000; omega) hN
  rw [hid] at F ok
  generalize ppK (newK 128) (opI (gen % 2)) N (opL (supPage gen root used free)) 4 4 = K at *
  have hKn : K.n = 128 := F.n
  obtain ⟨p1, p2⟩ := four_pg F (supPage_len gen root used free)
  obtain ⟨sa, vl⟩ := sa_page hid hk (by omega) (by omega) p1
  have sz : ∀ T : Nat, T ≠ id → ¬ saP K (T : Int) := fun T hT => sa_zero (by rw [p2 T hT, new_pg])
  have hb : bestId K = (id : Int) := by
    rcases (show id = 0 ∨ id = 1 by omega) with e | e <;> subst e
    · exact best0 ⟨saB_yes sa, Or.inl (saB_no (sz 1 (by omega)))⟩
    · refine best1 (fun h => ?_)
      have := saB_no (sz 0 (by omega))
      rw [show ((0 : Nat) : Int) = 0 from rfl] at this
      rw [this] at h
      exact absurd h.1 (by decide)
  exact ⟨ok, (best_is ok hb sa vl hk).1, (best_is ok hb sa vl hk).2.1, (best_is ok hb sa vl hk).2.2.1, (best_is ok hb sa vl hk).2.2.2.1, (best_is ok hb sa vl hk).2.2.2.2, id, hid, F⟩
/-- The next one behind it. -/
theorem second_is {gen root used free : Int} {N N' : Nat → Nat} (hk : supOk gen root used free = true) (hg : gen < 1000000000000) (hu : used ≤ 32) (hN : ∀ i, i < 4 → N i = 64) (hN' : ∀ i, i < 4 → N' i = 64) :
    supOk (gen + 1) root used free = true ∧ bsB (ppK (ppK (newK 128) (opI (gen % 2)) N (opL (supPage gen root used free)) 4 4) (opI ((gen + 1) % 2)) N' (opL (supPage (gen + 1) root used free)) 4 4) = true ∧ bsN sG (ppK (ppK (newK 128) (opI (gen % 2)) N (opL (supPage gen root used free)) 4 4) (opI ((gen + 1) % 2)) N' (opL (supPage (gen + 1) root used free)) 4 4) = gen + 1 ∧ bsN sR (ppK (ppK (newK 128) (opI (gen % 2)) N (opL (supPage gen root used free)) 4 4) (opI ((gen + 1) % 2)) N' (opL (supPage (gen + 1) root used free)) 4 4) = root ∧ bsN sU (ppK (ppK (newK 128) (opI (gen % 2)) N (opL (supPage gen root used free)) 4 4) (opI ((gen + 1) % 2)) N' (opL (supPage (gen + 1) root used free)) 4 4) = used ∧ bsN sF (ppK (ppK (newK 128) (opI (gen % 2)) N (opL (supPage gen root used free)) 4 4) (opI ((gen + 1) % 2)) N' (opL (supPage (gen + 1) root used free)) 4 4) = free := by
  obtain ⟨ok1, _, _, _, _, _, id, hid, F1⟩ := first_is hk hu hN
  obtain ⟨⟨g0, g1, u0, u1⟩, _⟩ := supOk_rng hk
  have hk' : supOk (gen + 1) root used free = true := by
    unfold supOk rngB at hk ⊢
    rw [Bool.and_eq_true] at hk ⊢
    exact ⟨decide_eq_true (by omega), hk.2⟩
  generalize ppK (newK 128) (opI (gen % 2)) N (opL (supPage gen root used free)) 4 4 = K1 at *
  obtain ⟨id', hid'⟩ : ∃ id : Nat, (id : Int) = (gen + 1) % 2 := ⟨((gen + 1) % 2).toNat, by omega⟩
  have n1 : K1.n = 128 := F1.n
  have m1 : K1.m = 4 := F1.m
  obtain ⟨F, ok⟩ := four_pp (id := id') (N := N') ok1 (supPage_len (gen + 1) root used free) (by omega) (by omega) hN'
  rw [hid'] at F ok
  generalize ppK K1 (opI ((gen + 1) % 2)) N' (opL (supPage (gen + 1) root used free)) 4 4 = K at *
  have hKn : K.n = 128 := F.n.trans n1
  obtain ⟨p1, p2⟩ := four_pg F1 (supPage_len gen root used free)
  obtain ⟨q1, q2⟩ := four_pg F (supPage_len (gen + 1) root used free)
  obtain ⟨sa', vl'⟩ := sa_page hid' hk' (by omega) (by omega) q1
  obtain ⟨sa, vl⟩ := sa_page (K := K) hid hk (by omega) (by omega) (by rw [q2 id (by omega), p1])
  have e1 : saN sG K (id : Int) = gen := by rw [saN_yes sa, vl]; exact (sup_is hk).1
  have e2 : saN sG K (id' : Int) = gen + 1 := by rw [saN_yes sa', vl']; exact (sup_is hk').1
  have hb : bestId K = (id' : Int) := by
    rcases (show (id = 0 ∧ id' = 1) ∨ (id = 1 ∧ id' = 0) by omega) with ⟨e, e'⟩ | ⟨e, e'⟩ <;> subst e <;> subst e'
    · refine best1 (fun h => ?_)
      have h1 : saB K 1 = true := saB_yes sa'
      have a1 : saN sG K 0 = gen := e1
      have a2 : saN sG K 1 = gen + 1 := e2
      rcases h.2 with h2 | h2
      · rw [h1] at h2; cases h2
      · omega
    · have a1 : saN sG K 1 = gen := e1
      have a2 : saN sG K 0 = gen + 1 := e2
      exact best0 ⟨saB_yes sa', Or.inr (by omega)⟩
  exact ⟨hk', best_is ok hb sa' vl' hk'⟩
end Go.Proofs.YtjjfgoeibcmfkaaDoor

/- One block alone has turned. -/
namespace Go.Proofs.YtjjfgoeibcmfkaaDoor
open Go.RowKit
set_option linter.unusedVariables false

/-- Nothing has turned but block g; new blocks may have come. -/
structure OnlyB (g : Nat) (w w' : World) : Prop where
  os : w'.os = w.os
  tape : w'.tape = w.tape
  output : w'.output = w.output
  size : w.heap.size ≤ w'.heap.size
  block : ∀ k, k < w.heap.size → k ≠ g → w'.heap[k]? = w.heap[k]?
theorem OnlyB.refl (g : Nat) (w : World) : OnlyB g w w := ⟨rfl, rfl, rfl, Nat.le_refl _, fun _ _ _ => rfl⟩
theorem OnlyB.trans {g : Nat} {a b c : World} (h : OnlyB g a b) (k : OnlyB g b c) : OnlyB g a c :=
  ⟨k.os.trans h.os, k.tape.trans h.tape, k.output.trans h.output, Nat.le_trans h.size k.size, fun i hi hn => (k.block i (Nat.lt_of_lt_of_le hi h.size) hn).trans (h.block i hi hn)⟩
theorem Below.onlyB {w w' : World} (h : Below w.heap.size w w') (g : Nat) : OnlyB g w w' := ⟨h.os, h.tape, h.output, h.size, fun k hk _ => h.block k hk⟩
theorem OnlyB.below {g B : Nat} {w w' : World} (h : OnlyB g w w') (hg : B ≤ g) (hz : B ≤ w.heap.size) : Below B w w' := ⟨h.os, h.tape, h.output, h.size, fun k hk => h.block k (Nat.lt_of_lt_of_le hk hz) (by omega)⟩
theorem OnlyB.own {g B : Nat} {w w' : World} {a : Option Addr} {n c : Nat} {l : List Int} (h : OnlyB g w w') (ho : Own B w a n c l) (hn : (Value.slice a n c).ownBlock ≠ some g) : Own B w' a n c l := by
  refine ⟨ho.1, ?_⟩
  rcases ho.2 with h2 | ⟨k, cap, cur, hv, hg, hh, r⟩
  · exact Or.inl h2
  · exact Or.inr ⟨k, cap, cur, hv, hg, by rw [h.block k (Array.getElem?_eq_some_iff.1 hh).1 (fun e => hn (by rw [hv, e]; rfl))]; exact hh, r⟩

theorem OnlyB.drew {g : Nat} {w w' : World} (h : OnlyB g w w') : OnlyB g w w'.drew := ⟨h.os, h.tape, h.output, h.size, h.block⟩
end Go.Proofs.YtjjfgoeibcmfkaaDoor

/- The reader of the draws: l1Open, next. -/
namespace Go.Proofs.YtjjfgoeibcmfkaaDoor
open Go.RowKit
set_option linter.unusedVariables false

/-- Block g is a reader of the bytes l, at p. -/
structure IsRd (w : World) (g : Nat) (a : Option Addr) (n c : Nat) (l : List Int) (p : Nat) : Prop where
  box : w.heap[g]? = some (.cells #[.slice a n c, .int .i64 (p : Nat)] 107 (0, 0))
  bs : Bs w a n c l
  le : n ≤ 1000
  at_ : p ≤ n
theorem IsRd.lt {w : World} {g : Nat} {a : Option Addr} {n c : Nat} {l : List Int} {p : Nat} (h : IsRd w g a n c l p) : g < w.heap.size := (Array.getElem?_eq_some_iff.1 h.box).1
/-- The bytes lie in no reader. -/
theorem IsRd.ne {w : World} {g : Nat} {a : Option Addr} {n c : Nat} {l : List Int} {p : Nat} (h : IsRd w g a n c l p) (hn : 0 < n) {b off : Nat} (e : a = some ⟨b, off, none⟩) : b ≠ g := by
  intro hb
  obtain ⟨b', off', e', hl, hc⟩ := h.bs.at_ hn
  rw [e] at e'
  simp at e'
  obtain ⟨rfl, rfl⟩ := e'
  subst hb
  have h0 := hc 0 hn
  rw [cell_of_row w b _ _ _ _ h.box] at h0
  rcases off with _ | _ | off <;> simp at h0
theorem IsRd.only {w w' : World} {g : Nat} {a : Option Addr} {n c : Nat} {l : List Int} {p p' : Nat} (h : IsRd w g a n c l p) (ho : OnlyB g w w') (hb : w'.heap[g]? = some (.cells #[.slice a n c, .int .i64 (p' : Nat)] 107 (0, 0))) (hp : p' ≤ n) : IsRd w' g a n c l p' :=
  ⟨hb, ⟨h.bs.len_eq, h.bs.le, h.bs.le', h.bs.nil, fun hn => by
    obtain ⟨b, off, e, hl, hc⟩ := h.bs.at_ hn
    refine ⟨b, off, e, Nat.lt_of_lt_of_le hl ho.size, fun i hi => ?_⟩
    rw [← hc i hi]
    exact World.cell?_of_block (ho.block b hl (h.ne hn e)), h.bs.byte⟩, h.le, hp⟩
theorem IsRd.below {w w' : World} {g : Nat} {a : Option Addr} {n c : Nat} {l : List Int} {p : Nat} (h : IsRd w g a n c l p) (hb : Below w.heap.size w w') : IsRd w' g a n c l p :=
  ⟨by rw [hb.block g h.lt]; exact h.box, h.bs.below hb, h.le, h.at_⟩

theorem IsRd.drew {w : World} {g : Nat} {a : Option Addr} {n c : Nat} {l : List Int} {p : Nat} (h : IsRd w g a n c l p) : IsRd w.drew g a n c l p := h.below (Below.refl _ _).drew

def rdP (n p : Nat) : Nat := if p < n then p + 1 else p
theorem rdP_le {n p : Nat} (h : p ≤ n) : rdP n p ≤ n := by unfold rdP; split <;> omega

set_option maxRecDepth 100000 in
set_option maxHeartbeats 1000000 in
theorem next_calls (g : Nat) (a : Option Addr) (n c : Nat) (l : List Int) (p : Nat) (w : World) (h : IsRd w g a n c l p) :
    Calls Tryd.prog 36 #[.pointer (some ⟨g, 0, none⟩)] w fun e w' => e = .returned (.int .i64 (l.getD p 0)) ∧ OnlyB g w w' ∧ IsRd w' g a n c l (rdP n p) := by
  have c0 : w.cell? ⟨g, 0, none⟩ = some (.slice a n c) := by rw [cell_of_row w g _ _ _ _ h.box]; rfl
  have c1 : w.cell? ⟨g, 1, none⟩ = some (.int .i64 (p : Nat)) := by rw [cell_of_row w g _ _ _ _ h.box]; rfl
  have f1 := frozen_of_row w g 1 _ _ h.box
  have hle := h.le
  have hB := h.bs.byte p
  by_cases hp : p < n
  · obtain ⟨b, off, rfl, hl, hc⟩ := h.bs.at_ (by omega)
    have hcp := hc p hp
    have hi1 : (0 : Int) ≤ (p : Int) := by omega
    have hi2 : (p : Int) < (n : Int) := by omega
    have x6 := heap_setCell_same w g 1 _ _ (.int .i64 ((p + 1 : Nat) : Int)) h.box
    have FIN : Hid (OnlyB g w (w.setCell ⟨g, 1, none⟩ (.int .i64 ((p + 1 : Nat) : Int))) ∧ IsRd (w.setCell ⟨g, 1, none⟩ (.int .i64 ((p + 1 : Nat) : Int))) g (some ⟨b, off, none⟩) n c l (rdP n p)) := by
      have o : OnlyB g w (w.setCell ⟨g, 1, none⟩ (.int .i64 ((p + 1 : Nat) : Int))) := ⟨rfl, rfl, rfl, by simp, fun k hk hn => Below.heap_setCell _ _ _ _ hn⟩
      refine ⟨o, ?_⟩
      have e : rdP n p = p + 1 := by unfold rdP; rw [if_pos hp]
      rw [e]
      exact h.only o x6 (by omega)
    generalize l.getD p 0 = x at *
    obtain ⟨hB0, hB1⟩ := hB
    clear h hc x6
    go_enter Tryd.func36, Tryd.ntmps36
    go_wp2_with fail
    go_region
    go_wp2_with fail
    go_region
    go_wp2
    go_ret
    exact ⟨rfl, FIN.out.1.drew.drew, FIN.out.2.drew.drew⟩
  · have FIN : Hid (OnlyB g w w ∧ IsRd w g a n c l (rdP n p)) := by
      have e : rdP n p = p := by unfold rdP; rw [if_neg hp]
      rw [e]
      exact ⟨OnlyB.refl _ _, h⟩
    have e0 : l.getD p 0 = 0 := by
      have := h.bs.len_eq
      rw [List.getD_eq_getElem?_getD, List.getElem?_eq_none (by omega)]; rfl
    rw [e0]
    have hp' : ¬ (p : Int) < (n : Int) := by omega
    clear h hB e0
    go_enter Tryd.func36, Tryd.ntmps36
    go_wp2_with fail
    go_region
    go_wp2
    go_ret
    exact ⟨rfl, FIN.out.1.drew, FIN.out.2.drew⟩

set_option maxRecDepth 100000 in
set_option maxHeartbeats 1000000 in
theorem l1Open_calls (a : Option Addr) (n c : Nat) (l : List Int) (w : World) (h : Bs w a n c l) :
    Calls Tryd.prog 35 #[.slice a n c] w fun e w' => ∃ g, e = .returned (.pointer (some ⟨g, 0, none⟩)) ∧ Below w.heap.size w w' ∧ w.heap.size ≤ g ∧ IsRd w' g a (min n 1000) c (l.take 1000) 0 := by
  have hmx : n ≤ maxLen := Nat.le_trans h.le h.le'
  unfold maxLen at hmx
  by_cases hn : (1000 : Int) < (n : Int)
  · have e : min n 1000 = 1000 := by omega
    rw [e]
    obtain ⟨b, off, rfl, hl, hc⟩ := h.at_ (by omega)
    have hcn : 1000 ≤ c := by have := h.le; omega
    have b1 : Bs w (some ⟨b, off, none⟩) 1000 c (l.take 1000) := by
      refine ⟨by rw [List.length_take, h.len_eq]; omega, hcn, h.le', h.nil, fun _ => ⟨b, off, rfl, hl, fun i hi => ?_⟩, isB_take h.byte 1000⟩
      rw [hc i (by omega), List.getD_eq_getElem?_getD, List.getD_eq_getElem?_getD, List.getElem?_take_of_lt hi]
    have y := heap_alloc_new w (.cells #[.slice (some ⟨b, off, none⟩) 1000 c, .int .i64 0] 107)
    have q := (Below.refl w.heap.size w).alloc (Nat.le_refl _) (.cells #[.slice (some ⟨b, off, none⟩) 1000 c, .int .i64 0] 107)
    have FIN : Hid (Below w.heap.size w (w.alloc (.cells #[.slice (some ⟨b, off, none⟩) 1000 c, .int .i64 0] 107)) ∧ w.heap.size ≤ w.heap.size ∧ IsRd (w.alloc (.cells #[.slice (some ⟨b, off, none⟩) 1000 c, .int .i64 0] 107)) w.heap.size (some ⟨b, off, none⟩) 1000 c (l.take 1000) 0) := ⟨q, Nat.le_refl _, y, b1.below q, Nat.le_refl _, Nat.zero_le _⟩
    have hlen := h.len_eq
    have hcm := h.le'
    unfold maxLen at hcm
    clear h hc b1 y q
    go_enter Tryd.func35, Tryd.ntmps35
    go_wp2
    go_ret
    exact ⟨w.heap.size, rfl, FIN.out⟩
  · have e : min n 1000 = n := by omega
    have e2 : l.take 1000 = l := List.take_of_length_le (by rw [h.len_eq]; omega)
    rw [e, e2]
    have y := heap_alloc_new w (.cells #[.slice a n c, .int .i64 0] 107)
    have q := (Below.refl w.heap.size w).alloc (Nat.le_refl _) (.cells #[.slice a n c, .int .i64 0] 107)
    have FIN : Hid (Below w.heap.size w (w.alloc (.cells #[.slice a n c, .int .i64 0] 107)) ∧ w.heap.size ≤ w.heap.size ∧ IsRd (w.alloc (.cells #[.slice a n c, .int .i64 0] 107)) w.heap.size a n c l 0) := ⟨q, Nat.le_refl _, y, h.below q, by omega, Nat.zero_le _⟩
    clear h y q e2
    go_enter Tryd.func35, Tryd.ntmps35
    go_wp2
    go_ret
    exact ⟨w.heap.size, rfl, FIN.out⟩
end Go.Proofs.YtjjfgoeibcmfkaaDoor

