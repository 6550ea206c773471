import Derived.Test.YtamifpbhmecloaaFmt18
/- The device syncs. -/
namespace Go.Proofs.Ytamifpbhmecloaa
open Go.RowKit
set_option linter.unusedVariables false

set_option maxRecDepth 100000 in
set_option maxHeartbeats 2000000 in
theorem flush_yes (B g gs sc : Nat) (st : Int) (pa : Option Addr) (pc : Nat) (sA pA : Nat → Option Addr) (sN sC pN pC : Nat → Nat) (K : DK) (oa : Option Addr) (oc : Nat) (w : World)
    (hx : w.heap[g]? = some (.cells #[.int .i32 st, .int .u32 0, .slice (some ⟨gs, 0, none⟩) K.n sc, .slice pa K.m pc] 117 (0, 0)))
    (h : ODisk B w ⟨some ⟨gs, 0, none⟩, sc, sA, sN, sC, pa, pc, pA, pN, pC⟩ K) (hok : dOk K) (hB : B ≤ g) :
    Calls Try.prog 82 #[.pointer (some ⟨g, 0, none⟩), .int .i64 0, .slice oa 0 oc] w fun e w' => e = .returned (.bool true) ∧ Below B w w' ∧ ∃ d', IsDev w' g st d' (syK K) ∧ ODisk B w' d' (syK K) := by
  obtain ⟨⟨hn1, hn2, hm1⟩, _, hP⟩ := hok
  have hgl : g < w.heap.size := (Array.getElem?_eq_some_iff.1 hx).1
  have hgs : gs ≠ g := fun e => row_not_box h.safe.row hx (by decide) rfl e.symm
  have hBs : B ≤ gs := (row_blk h.safe.row rfl).1
  have HP : Hid _ := hP
  have c3 : w.cell? ⟨g, 3, none⟩ = some (.slice pa K.m pc) := by rw [cell_of_row _ _ 3 _ _ _ hx]; rfl
  have key : ∀ v : World, w.grownBy v (some gs) → v.heap[g]? = some (.cells #[.int .i32 st, .int .u32 0, .slice (some ⟨gs, 0, none⟩) K.n sc, .slice pa K.m pc] 117 (0, 0)) := fun v hv => by
    rw [hv.block g (by omega) (fun e => hgs (by cases e; rfl))]; exact hx
  have KEY : Hid _ := key
  have H1 : Hid _ := h
  clear key h hP hx
  go_enter Try.func82, Try.ntmps82
  go_wp2_with fail
  go_loopw [8, 22] (fun _ i wr => ∃ j : Nat, j ≤ K.m ∧ i = .int .i64 j ∧ w.grownBy wr (some gs) ∧ wr.ownsRow B 22 1 (.slice (some ⟨gs, 0, none⟩) K.n sc) K.n (rowV K.At pA sA pN sN pC sC K.n j)) (fun _ i _ => K.m - (intOf i).toNat)
  case atStart => exact ⟨0, Nat.zero_le _, rfl, gB_refl _ _, by have := H1.out.safe.row; rw [flat0_map] at this; exact this⟩
  case round =>
    obtain ⟨j, hj, rfl, hb, ho⟩ := hrel
    have xr := KEY.out wr hb
    by_cases hlt : j < K.m
    · obtain ⟨gp, hpa, _⟩ := orecs_pos H1.out.pend (by omega)
      have hpa' : pa = some ⟨gp, 0, none⟩ := hpa
      subst hpa'
      have hp := H1.out.pend
      have hgp : gp ≠ gs := fun e => types_ne hp.row H1.out.safe.row (by decide) gp rfl (by rw [e]; rfl)
      have hPj := HP.out j hlt
      obtain ⟨T, hT⟩ := Int.eq_ofNat_of_zero_le hPj.1
      have HT : Hid (K.At j = (T : Int)) := hT
      have hTn : T < K.n := by have := hPj.2.1; omega
      have k0 : wr.cell? ⟨gp, j * 2, none⟩ = some (.int .i64 (T : Int)) := hb.cell (a := ⟨gp, j * 2, none⟩) (by have := hp.cellInt j 0 hlt (by omega); rw [show aI K j 0 = (T : Int) from hT] at this; exact this) (fun e => hgp (by cases e; rfl))
      have k1 : wr.cell? ⟨gp, j * 2 + 1, none⟩ = some (.slice (pA j) (pN j) (pC j)) := hb.cell (a := ⟨gp, j * 2 + 1, none⟩) (hp.cellData j hlt) (fun e => hgp (by cases e; rfl))
      have hi1 : (0 : Int) ≤ (j : Int) := by omega
      have hi2 : (j : Int) < (K.m : Int) := by omega
      have hi3 : (0 : Int) ≤ (T : Int) := by omega
      have hi4 : (T : Int) < (K.n : Int) := by omega
      have hba := gB_alloc hb (.cells #[.int .i64 (T : Int), .slice (pA j) (pN j) (pC j)] 82)
      have hoa := World.ownsRow.alloc ho (.cells #[.int .i64 (T : Int), .slice (pA j) (pN j) (pC j)] 82)
      have xa := KEY.out _ hba
      have c2 : (wr.alloc (.cells #[.int .i64 (T : Int), .slice (pA j) (pN j) (pC j)] 82)).cell? ⟨g, 2, none⟩ = some (.slice (some ⟨gs, 0, none⟩) K.n sc) := by rw [cell_of_row _ _ 2 _ _ _ xa]; rfl
      have zb := heap_alloc_new wr (.cells #[.int .i64 (T : Int), .slice (pA j) (pN j) (pC j)] 82)
      have l0 := cell_of_row _ _ 0 _ _ _ zb
      have l1 := cell_of_row _ _ 1 _ _ _ zb
      go_wp2_with fail
      generalize hWA : wr.alloc (.cells #[.int .i64 (T : Int), .slice (pA j) (pN j) (pC j)] 82) = WA at *
      clear hWA
      have ko : WA.cell? ⟨gs, T, none⟩ = some (.slice (pick K.At pA sA j T) (pick K.At pN sN j T) (pick K.At pC sC j T)) := by rw [hoa.cellAt T (by omega), rowV_get _ _ _ _ _ _ _ _ _ _ hTn]
      have fo : WA.frozen? ⟨gs, T, none⟩ = false := hoa.frozenAt T
      have st' := (hoa.stored T (.slice (pA j) (pN j) (pC j))).1
      rw [rowV_set _ _ _ _ _ _ _ _ _ _ hT] at st'
      have ST : Hid (World.ownsRow (WA.setCell ⟨gs, T, none⟩ (.slice (pA j) (pN j) (pC j))) B 22 1 (.slice (some ⟨gs, 0, none⟩) K.n sc) K.n (rowV K.At pA sA pN sN pC sC K.n (j + 1))) := st'
      have BS : Hid _ := gB_set hba T (.slice (pA j) (pN j) (pC j))
      generalize pick K.At pA sA j T = xA at ko
      generalize pick K.At pN sN j T = xN at ko
      generalize pick K.At pC sC j T = xC at ko
      clear st' ho hb hp hT hPj xr k0 k1 hba hoa xa zb c3
      go_region
      all_goals
        go_wp2
        go_roundw
        case rel => exact ⟨j + 1, by omega, by go_num, gB_drew BS.out, ST.out⟩
        case measure => simp [intOf]; omega
    · have e : j = K.m := by omega
      subst e
      have HO : Hid _ := ho
      have HG : Hid _ := hb
      have gw : g < wr.heap.size := (Array.getElem?_eq_some_iff.1 xr).1
      have a1 : wr.cell? ⟨g, 3, none⟩ = some (.slice pa K.m pc) := by rw [cell_of_row _ _ 3 _ _ _ xr]; rfl
      have af : wr.frozen? ⟨g, 3, none⟩ = false := frozen_of_row _ _ 3 _ _ xr
      clear ho hb
      go_wp2
      go_ret
      refine ⟨rfl, ?_, ⟨some ⟨gs, 0, none⟩, sc, pick K.At pA sA K.m, pick K.At pN sN K.m, pick K.At pC sC K.m, none, 0, pA, pN, pC⟩, ?_, ?_, ?_, ?_⟩
      · have b1 : Below B w wr := (Below.refl B w).grown HG.out (by omega) (fun k hk => by cases hk; exact hBs)
        exact b1.setCell (p := ⟨g, 3, none⟩) hB _
      · exact heap_setCell_same _ _ 3 _ _ (.slice none 0 0) xr
      · have s1 := synced (w := wr) H1.out rfl HG.out HO.out
        exact s1.setOther xr (by decide) (by decide) 3 (.slice none 0 0)
      · exact orecs_nil _ _ _ _ _ _ _ _ _
      · exact fun i j hi hj => absurd hj (Nat.not_lt_zero _)

set_option maxHeartbeats 1000000 in
theorem flush_no (g : Nat) (t : Int) (oa : Option Addr) (on oc : Nat) (w : World) (h1 : ¬ syP 2 t on) :
    Calls Try.prog 82 #[.pointer (some ⟨g, 0, none⟩), .int .i64 t, .slice oa on oc] w fun e w' => e = .returned (.bool false) ∧ w' = w := by
  by_cases ht : t = 0
  · subst ht
    have h2 : on ≠ 0 := fun e => h1 ⟨rfl, rfl, e⟩
    have hon : ((on : Int) != 0) = true := by simp; omega
    clear h1
    go_enter Try.func82, Try.ntmps82
    go_wp2
    go_ret
    exact ⟨rfl, rfl⟩
  · have ht' : (t != 0) = true := by simp [ht]
    clear h1
    go_enter Try.func82, Try.ntmps82
    go_wp2
    go_ret
    exact ⟨rfl, rfl⟩
end Go.Proofs.Ytamifpbhmecloaa

/- One op on a device; Do. -/
namespace Go.Proofs.Ytamifpbhmecloaa
open Go.RowKit Go.MuLone
set_option linter.unusedVariables false

/-- The lock of a device is turned. -/
theorem IsDev.lock {w : World} {g : Nat} {st : Int} {d : DV} {K : DK} (h : IsDev w g st d K) (st' : Int) : IsDev (w.setCell ⟨g, 0, none⟩ (.int .i32 st')) g st' d K := heap_setCell_same w g 0 _ _ (.int .i32 st') h
theorem ODisk.lock {B : Nat} {w : World} {g : Nat} {st : Int} {d d' : DV} {K K' : DK} (h : ODisk B w d K) (hx : IsDev w g st d' K') (i : Nat) (v : Value) : ODisk B (w.setCell ⟨g, i, none⟩ v) d K :=
  ⟨h.safe.setOther hx (by decide) (by decide) i v, h.pend.setOther hx (by decide) (by decide) i v, h.sepX⟩

theorem write_calls (B g : Nat) (st : Int) (d : DV) (K : DK) (t : Int) (oa : Option Addr) (on oc : Nat) (ol : List Int) (w : World) (hx : IsDev w g st d K) (h : ODisk B w d K) (hok : dOk K) (hop : Bs w oa on oc ol) (hB : B ≤ g) :
    Calls Try.prog 81 #[.pointer (some ⟨g, 0, none⟩), .int .i64 t, .slice oa on oc] w fun e w' => e = .returned (.bool (doB K 1 t on)) ∧ Below B w w' ∧ ∃ d', IsDev w' g st d' (doK K 1 t ol) ∧ ODisk B w' d' (doK K 1 t ol) := by
  have hl := hop.len_eq
  have h2 : ¬ syP 1 t on := fun h => by have := h.1; omega
  by_cases h1 : wrP K 1 t on
  · rw [doB_wr h1, doK_wr (by rw [hl]; exact h1)]
    obtain ⟨_, h3, h4, rfl, h5⟩ := h1
    obtain ⟨T, rfl⟩ := Int.eq_ofNat_of_zero_le h3
    exact write_yes B g st d.sa d.pa d.sc d.pc d.sA d.pA d.sN d.sC d.pN d.pC K T oa oc ol w hx h (by omega) hok.1.2.1 h5 hop hB
  · rw [doB_no h1 h2, doK_no (by rw [hl]; exact h1) (by rw [hl]; exact h2)]
    refine (write_no g st d.sa d.pa d.sc d.pc K t oa on oc w hx hok.1.2.1 hok.1.2.2 (Nat.le_trans hop.le hop.le') h1).mono ?_
    rintro e w' ⟨rfl, b⟩
    exact ⟨rfl, b.mono (by have := hx.lt; omega), d, hx.below b, h.below b⟩
theorem flush_calls (B g : Nat) (st : Int) (d : DV) (K : DK) (t : Int) (oa : Option Addr) (on oc : Nat) (ol : List Int) (w : World) (hx : IsDev w g st d K) (h : ODisk B w d K) (hok : dOk K) (hop : Bs w oa on oc ol) (hB : B ≤ g) :
    Calls Try.prog 82 #[.pointer (some ⟨g, 0, none⟩), .int .i64 t, .slice oa on oc] w fun e w' => e = .returned (.bool (doB K 2 t on)) ∧ Below B w w' ∧ ∃ d', IsDev w' g st d' (doK K 2 t ol) ∧ ODisk B w' d' (doK K 2 t ol) := by
  have hl := hop.len_eq
  have h1 : ¬ wrP K 2 t on := fun h => by have := h.1; omega
  by_cases h2 : syP 2 t on
  · rw [doB_sy h2, doK_sy (by rw [hl]; exact h2)]
    obtain ⟨_, rfl, rfl⟩ := h2
    obtain ⟨gs, hsa, _⟩ := orecs_pos h.safe (by have := hok.1.1; omega)
    obtain ⟨sa, sc, sA, sN, sC, pa, pc, pA, pN, pC⟩ := d
    have hsa' : sa = some ⟨gs, 0, none⟩ := hsa
    subst hsa'
    exact flush_yes B g gs sc st pa pc sA pA sN sC pN pC K oa oc w hx h hok hB
  · rw [doB_no h1 h2, doK_no (by rw [hl]; exact h1) (by rw [hl]; exact h2)]
    refine (flush_no g t oa on oc w h2).mono ?_
    rintro e w' ⟨rfl, rfl⟩
    exact ⟨rfl, Below.refl _ _, d, hx, h⟩

set_option maxRecDepth 100000 in
set_option maxHeartbeats 1000000 in
theorem do_calls (B g : Nat) (d : DV) (K : DK) (k t : Int) (oa : Option Addr) (on oc : Nat) (ol : List Int) (w0 w : World) (hx : IsDev w g 0 d K) (h : ODisk B w d K) (hok : dOk K) (hop : Bs w0 oa on oc ol) (h0 : Below w0.heap.size w0 w) (hB0 : w0.heap.size ≤ B) (hB : B ≤ g) :
    Calls Try.prog 50 #[.pointer (some ⟨g, 0, none⟩), .agg #[.int .i64 k, .int .i64 t, .slice oa on oc]] w fun e w' => e = .returned (.bool (doB K k t on)) ∧ Below B w w' ∧ ∃ d', IsDev w' g 0 d' (doK K k t ol) ∧ ODisk B w' d' (doK K k t ol) := by
  have hgl := hx.lt
  have q1 := (Below.refl w.heap.size w).alloc (Nat.le_refl _) (.cells #[.int .i64 k, .int .i64 t, .slice oa on oc] 28)
  have x1 := hx.below q1
  have h1 := h.below q1
  have z1 : (w.alloc (.cells #[.int .i64 k, .int .i64 t, .slice oa on oc] 28)).heap.size = w.heap.size + 1 := by simp
  have y1 := heap_alloc_new w (.cells #[.int .i64 k, .int .i64 t, .slice oa on oc] 28)
  have x2 := x1.lock 1
  have h2 := h1.lock x1 0 (.int .i32 1)
  have C0 : Hid _ := x1.c0
  have F0 : Hid _ := x1.f 0
  have y2 := (Below.heap_setCell (w.alloc (.cells #[.int .i64 k, .int .i64 t, .slice oa on oc] 28)) ⟨g, 0, none⟩ (.int .i32 1) w.heap.size (Nat.ne_of_gt hgl)).trans y1
  have q2 : Below B w _ := (q1.mono (by omega)).setCell (p := ⟨g, 0, none⟩) hB (.int .i32 1)
  have Q2 : Hid _ := q2
  clear q1 q2 y1 h1 x1
  go_enter_defers Try.func50, Try.ntmps50
  go_wp2_with fail
  refine (lock_free muLib ⟨g, 0, none⟩ _ C0.out F0.out).mono ?_
  rintro e w' ⟨rfl, rfl⟩
  have op2 := hop.below (h0.trans (Q2.out.mono hB0))
  have z2 : ((w.alloc (.cells #[.int .i64 k, .int .i64 t, .slice oa on oc] 28)).setCell ⟨g, 0, none⟩ (.int .i32 1)).heap.size = w.heap.size + 1 := by rw [World.size_setCell]; exact z1
  generalize hW2 : (w.alloc (.cells #[.int .i64 k, .int .i64 t, .slice oa on oc] 28)).setCell ⟨g, 0, none⟩ (.int .i32 1) = W2 at *
  clear hW2 C0 F0 hx h hop z1
  have v0 := cell_of_row _ _ 0 _ _ _ y2
  have v1 := cell_of_row _ _ 1 _ _ _ y2
  have v2 := cell_of_row _ _ 2 _ _ _ y2
  have door : ∀ (w3 : World) (d3 : DV) (K3 : DK), IsDev w3 g 1 d3 K3 → ODisk B w3 d3 K3 → Below B W2 w3 → IsDev (w3.setCell ⟨g, 0, none⟩ (.int .i32 0)) g 0 d3 K3 ∧ ODisk B (w3.setCell ⟨g, 0, none⟩ (.int .i32 0)) d3 K3 ∧ Below B w (w3.setCell ⟨g, 0, none⟩ (.int .i32 0)) := fun w3 d3 K3 a b c =>
    ⟨a.lock 0, b.lock a 0 _, (Q2.out.trans c).setCell (p := ⟨g, 0, none⟩) hB _⟩
  have DR : Hid _ := door
  clear door
  by_cases k1 : k = 1
  · subst k1
    go_wp2_with fail
    refine (write_calls B g 1 d K t oa on oc ol W2 x2 h2 hok op2 hB).mono ?_
    rintro e w3 ⟨rfl, b3, d3, x3, o3⟩
    obtain ⟨x4, o4, b4⟩ := DR.out w3 d3 _ x3 o3 b3
    have C0 : Hid _ := x3.c0
    have F0 : Hid _ := x3.f 0
    clear x3 o3 b3 x2 h2
    go_wp2_with fail
    refine leaves_cons (f := 80) (args := #[.pointer (some ⟨g, 0, none⟩)]) (by simp) (by simp [go_sem]) ?_
    refine (unlock_deferred muLib ⟨g, 0, none⟩ .returning _ C0.out F0.out).mono ?_
    rintro e u' w'' ⟨rfl, rfl, rfl⟩
    exact ⟨_, results_tmp rfl _ _ _, rfl, b4, d3, x4, o4⟩
  · have e1 : (k == 1) = false := by simp [k1]
    by_cases k2 : k = 2
    · subst k2
      go_wp2_with fail
      refine (flush_calls B g 1 d K t oa on oc ol W2 x2 h2 hok op2 hB).mono ?_
      rintro e w3 ⟨rfl, b3, d3, x3, o3⟩
      obtain ⟨x4, o4, b4⟩ := DR.out w3 d3 _ x3 o3 b3
      have C0 : Hid _ := x3.c0
      have F0 : Hid _ := x3.f 0
      clear x3 o3 b3 x2 h2
      go_wp2_with fail
      refine leaves_cons (f := 80) (args := #[.pointer (some ⟨g, 0, none⟩)]) (by simp) (by simp [go_sem]) ?_
      refine (unlock_deferred muLib ⟨g, 0, none⟩ .returning _ C0.out F0.out).mono ?_
      rintro e u' w'' ⟨rfl, rfl, rfl⟩
      exact ⟨_, results_tmp rfl _ _ _, rfl, b4, d3, x4, o4⟩
    · have e2 : (k == 2) = false := by simp [k2]
      obtain ⟨x4, o4, b4⟩ := DR.out W2 d _ x2 h2 (Below.refl _ _)
      have C0 : Hid _ := x2.c0
      have F0 : Hid _ := x2.f 0
      have hn1 : ¬ wrP K k t on := fun h => k1 h.1
      have hn2 : ¬ syP k t on := fun h => k2 h.1
      have EB : Hid _ := doB_no hn1 hn2
      have EK : Hid _ := doK_no (l := ol) (by rw [op2.len_eq]; exact hn1) (by rw [op2.len_eq]; exact hn2)
      clear x2 h2 hn1 hn2
      go_wp2_with fail
      refine leaves_cons (f := 80) (args := #[.pointer (some ⟨g, 0, none⟩)]) (by simp) (by simp [go_sem]) ?_
      refine (unlock_deferred muLib ⟨g, 0, none⟩ .returning _ C0.out F0.out).mono ?_
      rintro e u' w'' ⟨rfl, rfl, rfl⟩
      exact ⟨_, results_tmp rfl _ _ _, by rw [EB.out]; rfl, b4, d, by rw [EK.out]; exact x4, by rw [EK.out]; exact o4⟩

set_option maxRecDepth 100000 in
set_option maxHeartbeats 1000000 in
theorem handOver_calls (B g : Nat) (d : DV) (K : DK) (w : World) (hx : IsDev w g 0 d K) (h : ODisk B w d K) (hB : B ≤ g) :
    Calls Try.prog 51 #[.pointer (some ⟨g, 0, none⟩)] w fun e w' => e = .returned (dval d K) ∧ Below B w w' ∧ ODisk B w' d K := by
  have hgl := hx.lt
  have q1 := (Below.refl w.heap.size w).alloc (Nat.le_refl _) (.cells #[.slice none 0 0, .slice none 0 0] 26)
  have x1 := hx.below q1
  have h1 := h.below q1
  have z1 : (w.alloc (.cells #[.slice none 0 0, .slice none 0 0] 26)).heap.size = w.heap.size + 1 := by simp
  have y1 := heap_alloc_new w (.cells #[.slice none 0 0, .slice none 0 0] 26)
  have x2 := x1.lock 1
  have h2 := h1.lock x1 0 (.int .i32 1)
  have C0 : Hid _ := x1.c0
  have F0 : Hid _ := x1.f 0
  have y2 := (Below.heap_setCell (w.alloc (.cells #[.slice none 0 0, .slice none 0 0] 26)) ⟨g, 0, none⟩ (.int .i32 1) w.heap.size (Nat.ne_of_gt hgl)).trans y1
  have q2 : Below B w _ := (q1.mono (by omega)).setCell (p := ⟨g, 0, none⟩) hB (.int .i32 1)
  have Q2 : Hid _ := q2
  clear q1 q2 y1 h1 x1
  go_enter_defers Try.func51, Try.ntmps51
  go_wp2_with fail
  refine (lock_free muLib ⟨g, 0, none⟩ _ C0.out F0.out).mono ?_
  rintro e w' ⟨rfl, rfl⟩
  have z2 : ((w.alloc (.cells #[.slice none 0 0, .slice none 0 0] 26)).setCell ⟨g, 0, none⟩ (.int .i32 1)).heap.size = w.heap.size + 1 := by rw [World.size_setCell]; exact z1
  generalize hW2 : (w.alloc (.cells #[.slice none 0 0, .slice none 0 0] 26)).setCell ⟨g, 0, none⟩ (.int .i32 1) = W2 at *
  clear hW2 C0 F0 hx h z1
  have v2 := x2.c2
  have v3 := x2.c3
  have g2 := x2.f 2
  have g3 := x2.f 3
  have l0 := cell_of_row _ _ 0 _ _ _ y2
  have l1 := cell_of_row _ _ 1 _ _ _ y2
  have f0 := frozen_of_row _ _ 0 _ _ y2
  have f1 := frozen_of_row _ _ 1 _ _ y2
  have X2 : Hid _ := x2
  have H2 : Hid _ := h2
  have Y2 : Hid _ := y2
  clear x2 h2 y2
  go_wp2_with fail
  have hne : w.heap.size ≠ g := Nat.ne_of_gt hgl
  have x3 : IsDev ((W2.setCell ⟨g, 2, none⟩ (.slice none 0 0)).setCell ⟨g, 3, none⟩ (.slice none 0 0)) g 1 ⟨none, 0, fun _ => none, fun _ => 0, fun _ => 0, none, 0, fun _ => none, fun _ => 0, fun _ => 0⟩ ⟨0, K.S, 0, K.At, K.D⟩ :=
    heap_setCell_same _ _ 3 _ _ (.slice none 0 0) (heap_setCell_same _ _ 2 _ _ (.slice none 0 0) X2.out)
  have h3 := (H2.out.lock X2.out 2 (.slice none 0 0))
  have h3' : ODisk B ((W2.setCell ⟨g, 2, none⟩ (.slice none 0 0)).setCell ⟨g, 3, none⟩ (.slice none 0 0)) d K :=
    ⟨h3.safe.setOther (heap_setCell_same _ _ 2 _ _ (.slice none 0 0) X2.out) (by decide) (by decide) 3 _, h3.pend.setOther (heap_setCell_same _ _ 2 _ _ (.slice none 0 0) X2.out) (by decide) (by decide) 3 _, h3.sepX⟩
  have y3 := ((Below.heap_setCell (W2.setCell ⟨g, 2, none⟩ (.slice none 0 0)) ⟨g, 3, none⟩ (.slice none 0 0) w.heap.size hne).trans (Below.heap_setCell W2 ⟨g, 2, none⟩ (.slice none 0 0) w.heap.size hne)).trans Y2.out
  have b3 := (Q2.out.setCell (p := ⟨g, 2, none⟩) hB (.slice none 0 0)).setCell (p := ⟨g, 3, none⟩) hB (.slice none 0 0)
  have z3 : ((W2.setCell ⟨g, 2, none⟩ (.slice none 0 0)).setCell ⟨g, 3, none⟩ (.slice none 0 0)).heap.size = w.heap.size + 1 := by rw [World.size_setCell, World.size_setCell]; exact z2
  generalize (W2.setCell ⟨g, 2, none⟩ (.slice none 0 0)).setCell ⟨g, 3, none⟩ (.slice none 0 0) = W3 at *
  have y4 := heap_setCell_same _ _ 0 _ _ (.slice d.sa K.n d.sc) y3
  have y5 := heap_setCell_same _ _ 1 _ _ (.slice d.pa K.m d.pc) y4
  have h4 : ODisk B ((W3.setCell ⟨w.heap.size, 0, none⟩ (.slice d.sa K.n d.sc)).setCell ⟨w.heap.size, 1, none⟩ (.slice d.pa K.m d.pc)) d K :=
    ⟨(h3'.safe.setOther y3 (by decide) (by decide) 0 _).setOther y4 (by decide) (by decide) 1 _, (h3'.pend.setOther y3 (by decide) (by decide) 0 _).setOther y4 (by decide) (by decide) 1 _, h3'.sepX⟩
  have x4 : IsDev ((W3.setCell ⟨w.heap.size, 0, none⟩ (.slice d.sa K.n d.sc)).setCell ⟨w.heap.size, 1, none⟩ (.slice d.pa K.m d.pc)) g 1 ⟨none, 0, fun _ => none, fun _ => 0, fun _ => 0, none, 0, fun _ => none, fun _ => 0, fun _ => 0⟩ ⟨0, K.S, 0, K.At, K.D⟩ :=
    ((Below.heap_setCell (W3.setCell ⟨w.heap.size, 0, none⟩ (.slice d.sa K.n d.sc)) ⟨w.heap.size, 1, none⟩ (.slice d.pa K.m d.pc) g hne.symm).trans (Below.heap_setCell W3 ⟨w.heap.size, 0, none⟩ (.slice d.sa K.n d.sc) g hne.symm)).trans x3
  have b4 := (b3.setCell (p := ⟨w.heap.size, 0, none⟩) (by show B ≤ w.heap.size; omega) (.slice d.sa K.n d.sc)).setCell (p := ⟨w.heap.size, 1, none⟩) (by show B ≤ w.heap.size; omega) (.slice d.pa K.m d.pc)
  have z4 : ((W3.setCell ⟨w.heap.size, 0, none⟩ (.slice d.sa K.n d.sc)).setCell ⟨w.heap.size, 1, none⟩ (.slice d.pa K.m d.pc)).heap.size = w.heap.size + 1 := by rw [World.size_setCell, World.size_setCell]; exact z3
  generalize (W3.setCell ⟨w.heap.size, 0, none⟩ (.slice d.sa K.n d.sc)).setCell ⟨w.heap.size, 1, none⟩ (.slice d.pa K.m d.pc) = W4 at *
  have qa := fun o => (Below.refl W4.heap.size W4).alloc (Nat.le_refl _) o
  have hxa := fun o => x4.below (qa o)
  have hra := fun o => h4.below (qa o)
  have hya := fun o => ((qa o).block w.heap.size (by omega)).trans y5
  have hba := fun o => b4.alloc (by omega) o
  refine leaves_cons (f := 80) (args := #[.pointer (some ⟨g, 0, none⟩)]) (by simp) (by simp [go_sem]) ?_
  refine (unlock_deferred muLib ⟨g, 0, none⟩ .returning _ (hxa _).c0 ((hxa _).f 0)).mono ?_
  rintro e u' w'' ⟨rfl, rfl, rfl⟩
  have ye := fun o => (Below.heap_setCell (W4.alloc o) ⟨g, 0, none⟩ (.int .i32 0) w.heap.size hne).trans (hya o)
  have r0 := fun o => cell_of_row _ _ 0 _ _ _ (ye o)
  have r1 := fun o => cell_of_row _ _ 1 _ _ _ (ye o)
  exact ⟨dval d K, by simp [results, Try.results51, go_sem, r0, r1, dval], rfl, (hba _).setCell (p := ⟨g, 0, none⟩) hB _, (hra _).lock (hxa _) 0 _⟩
end Go.Proofs.Ytamifpbhmecloaa

