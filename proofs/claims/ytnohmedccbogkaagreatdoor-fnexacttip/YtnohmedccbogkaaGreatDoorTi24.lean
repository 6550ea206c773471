import Derived.Test.YtnohmedccbogkaaGreatDoorTi23
import Derived.Test.YtnohmedccbogkaaGreatDoorTi17
import Derived.Test.YtnohmedccbogkaaGreatDoorTi10
/- decodePage, in the program: all lengths. -/
namespace Go.Proofs.YtnohmedccbogkaaGreatDoor
open Go.RowKit
set_option linter.unusedVariables false

theorem implDec_all (ea : Addr) (id : Int) (a : Option Addr) (n c : Nat) (l : List Int) (w : World) (h : Bs w a n c l) (hG : w.cell? ⟨2, 0, none⟩ = some (errV ea)) :
    Calls Tryz.prog 213 #[.int .i64 id, .slice a n c] w fun e w' => Below w.heap.size w w' ∧ ((decP id l ∧ ∃ a c, e = .returned (.tuple #[.int .i64 (kd l), .slice a (bodyL l).length c, .nilIface]) ∧ Own w.heap.size w' a (bodyL l).length c (bodyL l)) ∨ (¬ decP id l ∧ e = .returned (.tuple #[.int .i64 0, .slice none 0 0, errV ea]))) := by
  by_cases hn : n = 256
  · subst hn
    obtain ⟨b, off, rfl, _, _⟩ := h.at_ (by omega)
    exact implDec_core ea id b off c l w h hG
  · refine (implDec_len ea id a n c l w h hn hG).mono ?_
    rintro e w' ⟨b1, rfl⟩
    exact ⟨b1, Or.inr ⟨fun hd => hn (by rw [← h.len_eq]; exact hd.1), rfl⟩⟩

end Go.Proofs.YtnohmedccbogkaaGreatDoor

/- A page of a disk, in the program: diskPages, reader.page. -/
namespace Go.Proofs.YtnohmedccbogkaaGreatDoor
open Go.RowKit Go.Maps
set_option linter.unusedVariables false

/-- The two errors of a page. -/
structure Errs (w : World) (eN eW : Addr) : Prop where
  n : w.cell? ⟨0, 0, none⟩ = some (errV eN)
  b : w.cell? ⟨2, 0, none⟩ = some (errV eW)
  ne : eW ≠ eN
  rn : ∃ c t, w.heap[eN.block]? = some (.cells c t (0, 0))
  rb : ∃ c t, w.heap[eW.block]? = some (.cells c t (0, 0))
theorem Errs.below {w w' : World} {eN eW : Addr} (h : Errs w eN eW) (hb : Below w.heap.size w w') : Errs w' eN eW :=
  ⟨by rw [hb.cell (p := ⟨0, 0, none⟩) (World.block_lt_of_cell? w _ h.n)]; exact h.n, by rw [hb.cell (p := ⟨2, 0, none⟩) (World.block_lt_of_cell? w _ h.b)]; exact h.b, h.ne,
    by obtain ⟨c, t, e⟩ := h.rn; exact ⟨c, t, by rw [hb.block _ (Array.getElem?_eq_some_iff.1 e).1]; exact e⟩, by obtain ⟨c, t, e⟩ := h.rb; exact ⟨c, t, by rw [hb.block _ (Array.getElem?_eq_some_iff.1 e).1]; exact e⟩⟩

set_option maxHeartbeats 1000000 in
theorem diskPages_calls (sa pa : Option Addr) (sc pc : Nat) (K : DK) (w : World) (hn : K.n ≤ 4096) :
    Calls Tryz.prog 85 #[.agg #[.slice sa K.n sc, .slice pa K.m pc]] w fun e w' => e = .returned (.int .i64 ((K.n : Int) / 4)) ∧ Below w.heap.size w w' := by
  have hq : (K.n : Int).tdiv 4 = (K.n : Int) / 4 := Int.tdiv_eq_ediv_of_nonneg (by omega)
  have FIN : Hid _ := (Below.refl w.heap.size w).alloc (Nat.le_refl _) (.cells #[.slice sa K.n sc, .slice pa K.m pc] 37)
  go_enter Tryz.func85, Tryz.ntmps85
  go_wp2
  go_ret
  exact ⟨rfl, FIN.out⟩

theorem map_below {w w' : World} {g n : Nat} {D : DataW Unit} (h : w.ownsMap Tryz.prog 3 (plainElem Tryz.prog 3) g n D) (b : Below w.heap.size w w') : w'.ownsMap Tryz.prog 3 (plainElem Tryz.prog 3) g n D := by
  obtain ⟨es, cl, hb, r⟩ := h
  exact ⟨es, cl, (b.block g (Array.getElem?_eq_some_iff.1 hb).1).trans hb, r⟩

set_option maxRecDepth 100000 in
set_option maxHeartbeats 4000000 in
theorem page_yes (eN eW : Addr) (d : DV) (K : DK) (T g : Nat) (w : World) (h : RDisk w d K) (hok : dOk K) (hE : Errs w eN eW) (ho : w.ownsMap Tryz.prog 3 (plainElem Tryz.prog 3) g K.m (lastD K.At K.m)) (hT : pgIn K (T : Int)) :
    Calls Tryz.prog 190 #[.agg #[.slice d.sa K.n d.sc, .slice d.pa K.m d.pc, .map (some g)], .int .i64 T] w fun e w' => Below w.heap.size w w' ∧ ((decP T (pgL K T) ∧ ∃ a c, e = .returned (.tuple #[.int .i64 (kd (pgL K T)), .slice a (bodyL (pgL K T)).length c, .nilIface]) ∧ Own w.heap.size w' a (bodyL (pgL K T)).length c (bodyL (pgL K T))) ∨ (¬ decP T (pgL K T) ∧ e = .returned (.tuple #[.int .i64 0, .slice none 0 0, errV eW]))) := by
  have hn2 := hok.1.2.1
  have hlt := pgIn_lt hT
  obtain ⟨hT0, hT1⟩ := hT
  have q0 := (Below.refl w.heap.size w).alloc (Nat.le_refl _) (.cells #[.slice d.sa K.n d.sc, .slice d.pa K.m d.pc, .map (some g)] 140)
  have y0 := heap_alloc_new w (.cells #[.slice d.sa K.n d.sc, .slice d.pa K.m d.pc, .map (some g)] 140)
  have z0 : (w.alloc (.cells #[.slice d.sa K.n d.sc, .slice d.pa K.m d.pc, .map (some g)] 140)).heap.size = w.heap.size + 1 := by simp
  have HR : Hid _ := h.below q0
  have HM : Hid (World.ownsMap (w.alloc (.cells #[.slice d.sa K.n d.sc, .slice d.pa K.m d.pc, .map (some g)] 140)) Tryz.prog 3 (plainElem Tryz.prog 3) g K.m (lastD K.At K.m)) := map_below ho q0
  have HE : Hid _ := hE.below q0
  have HOK : Hid (dOk K) := hok
  have HB : Hid (IsB (pgL K T)) := pgL_isB h hlt
  have Q0 : Hid _ := q0
  have hnn : ¬ (K.n : Int) / 4 ≤ (T : Int) := by omega
  clear hok h ho hE
  go_enter Tryz.func190, Tryz.ntmps190
  go_wp2_with fail
  generalize hW0 : w.alloc (.cells #[.slice d.sa K.n d.sc, .slice d.pa K.m d.pc, .map (some g)] 140) = W0 at *
  clear hW0
  refine (diskPages_calls d.sa d.pa d.sc d.pc K W0 hn2).mono ?_
  rintro e w1 ⟨rfl, b1⟩
  have B1 : Hid _ := b1
  have s1 := own_nil (w.heap.size + 1) w1
  go_wp2_with fail
  go_loopw [7, 8, 19] (fun o _ i wr => ∃ (j : Nat) (a' : Option Addr) (c' : Nat), j ≤ 4 ∧ i = .int .i64 (j : Nat) ∧ o = .slice a' (64 * j) c' ∧ Below (w.heap.size + 1) W0 wr ∧ Own (w.heap.size + 1) wr a' (64 * j) c' (pgTo K T j)) (fun _ _ i _ => 4 - (intOf i).toNat)
  case atStart => exact ⟨0, _, 0, by omega, rfl, rfl, by rw [← z0]; exact B1.out, s1⟩
  case round =>
    obtain ⟨j, a', c', hj, rfl, rfl, hb, ho⟩ := hrel
    have HBB : Hid _ := hb
    have HO : Hid _ := ho
    by_cases hl4 : j < 4
    · have hbW : Below W0.heap.size W0 wr := by rw [z0]; exact hb
      have x0 := (hb.block w.heap.size (Nat.lt_succ_self _)).trans y0
      have k0 : wr.cell? ⟨w.heap.size, 0, none⟩ = some (.slice d.sa K.n d.sc) := by rw [cell_of_row wr _ 0 _ _ _ x0]; rfl
      have k1 : wr.cell? ⟨w.heap.size, 1, none⟩ = some (.slice d.pa K.m d.pc) := by rw [cell_of_row wr _ 1 _ _ _ x0]; rfl
      have k2 : wr.cell? ⟨w.heap.size, 2, none⟩ = some (.map (some g)) := by rw [cell_of_row wr _ 2 _ _ _ x0]; rfl
      have s2 := now_bs (HR.out.below hbW) (4 * T + j) (by omega)
      rw [now_bs64 HR.out HOK.out (4 * T + j) (by omega)] at s2
      have hR := HR.out.below hbW
      have SC := sector_core d.sa d.pa d.sc d.pc d.sA d.pA d.sN d.sC d.pN d.pC K wr hR.safe hR.pend HOK.out g (4 * T + j) (by omega) (map_below HM.out hbW)
      rw [now_bs64 HR.out HOK.out (4 * T + j) (by omega)] at SC
      generalize pick K.At d.pA d.sA K.m (4 * T + j) = xA at *
      generalize pick K.At d.pC d.sC K.m (4 * T + j) = xC at *
      have EP : Hid (pgTo K T (j + 1) = pgTo K T j ++ nowL K (4 * T + j)) := rfl
      obtain ⟨m, hm⟩ : ∃ m : Nat, m = 4 * T + j := ⟨_, rfl⟩
      rw [← hm] at SC s2 EP
      have hmi : (T : Int) * 4 + (j : Int) = (m : Int) := by omega
      have hml : (m : Int) < (K.n : Int) := by omega
      have zb := hb.size
      clear hb ho hbW s1 hm hR x0
      go_wp2_with fail
      refine SC.mono ?_
      rintro e w2 ⟨rfl, b2⟩
      have S2 : Hid _ := s2.below b2
      have O2 : Hid _ := Own.below (B := w.heap.size + 1) HO.out b2
      have B2 : Hid (Below (w.heap.size + 1) W0 w2) := HBB.out.trans (b2.mono (by omega))
      have z2 := b2.size
      clear b2 s2 SC k0 k1 k2
      go_wp2_with (at_builtin; refine wpList_app rfl _ _ rfl (w.heap.size + 1) a' (64 * j) c' (pgTo K T j) rfl ?own _ 64 xC (nowL K m) rfl ?bs ?len ?B ?_)
      case own => exact O2.out
      case bs => exact S2.out
      case len => omega
      case B => omega
      intro a3 c3 w3 o3 b3 _
      have B3 : Hid _ := B2.out.trans b3
      have O3 : Hid _ := o3
      clear o3 b3
      go_wp2
      go_roundw
      case rel => exact ⟨j + 1, a3, c3, by omega, by go_num, rfl, B3.out, by rw [EP.out]; exact O3.out⟩
      case measure => simp [intOf]; omega
    · have e : j = 4 := by omega
      subst e
      have hbW : Below W0.heap.size W0 wr := by rw [z0]; exact hb
      have D0 : Hid (Below w.heap.size w wr) := Q0.out.trans (hb.mono (by omega))
      have S0 := implDec_all eW (T : Int) a' 256 c' (pgL K T) wr (Own.bs (B := w.heap.size + 1) ho HB.out) (HE.out.below hbW).b
      clear hb ho s1 HBB HO hbW
      go_wp2_with fail
      refine S0.mono ?_
      rintro e w5 ⟨b5, hor⟩
      have D5 : Hid (Below w.heap.size w w5) := D0.out.trans (b5.mono D0.out.size)
      have Z0 : Hid (w.heap.size ≤ wr.heap.size) := D0.out.size
      clear b5 S0
      rcases hor with ⟨hd, a5, c5, rfl, o5⟩ | ⟨hd, rfl⟩
      · have FIN : Hid (Own w.heap.size w5 a5 (bodyL (pgL K T)).length c5 (bodyL (pgL K T))) := o5.mono Z0.out
        have HD : Hid _ := hd
        clear o5 hd
        go_wp2
        refine bodyPost_ret (v := .tuple #[.int .i64 (kd (pgL K T)), .slice a5 (bodyL (pgL K T)).length c5, .nilIface]) (by simp [results, Tryz.results190, go_sem]) rfl ?_
        exact ⟨D5.out, Or.inl ⟨HD.out, a5, c5, rfl, FIN.out⟩⟩
      · have HD : Hid _ := hd
        clear hd
        go_wp2
        refine bodyPost_ret (v := .tuple #[.int .i64 0, .slice none 0 0, errV eW]) (by simp [results, Tryz.results190, go_sem]) rfl ?_
        exact ⟨D5.out, Or.inr ⟨HD.out, rfl⟩⟩
end Go.Proofs.YtnohmedccbogkaaGreatDoor

/- ReadPage, in the program. -/
namespace Go.Proofs.YtnohmedccbogkaaGreatDoor
open Go.RowKit Go.Maps
set_option linter.unusedVariables false

set_option maxRecDepth 100000 in
set_option maxHeartbeats 2000000 in
theorem page_no (eN eW : Addr) (sa pa : Option Addr) (sc pc : Nat) (K : DK) (t : Int) (g : Nat) (w : World) (hn2 : K.n ≤ 4096) (hE : Errs w eN eW) (hT : ¬ pgIn K t) :
    Calls Tryz.prog 190 #[.agg #[.slice sa K.n sc, .slice pa K.m pc, .map (some g)], .int .i64 t] w fun e w' => Below w.heap.size w w' ∧ e = .returned (.tuple #[.int .i64 0, .slice none 0 0, errV eN]) := by
  have q0 := (Below.refl w.heap.size w).alloc (Nat.le_refl _) (.cells #[.slice sa K.n sc, .slice pa K.m pc, .map (some g)] 140)
  have c0 := (hE.below q0).n
  have HE : Hid _ := hE.below q0
  have Q0 : Hid _ := q0
  clear hE q0
  by_cases h0 : t < 0
  · clear hT
    go_enter Tryz.func190, Tryz.ntmps190
    go_wp2_with fail
    go_region
    go_wp2
    refine bodyPost_ret (v := .tuple #[.int .i64 0, .slice none 0 0, errV eN]) (by simp [results, Tryz.results190, go_sem]) rfl ?_
    exact ⟨Q0.out.drew, rfl⟩
  · have h1 : (K.n : Int) / 4 ≤ t := by unfold pgIn at hT; omega
    clear hT c0
    go_enter Tryz.func190, Tryz.ntmps190
    go_wp2_with fail
    generalize hW0 : w.alloc (.cells #[.slice sa K.n sc, .slice pa K.m pc, .map (some g)] 140) = W0 at *
    clear hW0
    refine (diskPages_calls sa pa sc pc K W0 hn2).mono ?_
    rintro e w1 ⟨rfl, b1⟩
    have c0 := (HE.out.below b1).n
    have D1 : Hid (Below w.heap.size w w1) := Q0.out.trans (b1.mono Q0.out.size)
    clear b1
    go_wp2_with fail
    go_region
    go_wp2
    refine bodyPost_ret (v := .tuple #[.int .i64 0, .slice none 0 0, errV eN]) (by simp [results, Tryz.results190, go_sem]) rfl ?_
    exact ⟨D1.out.drew, rfl⟩

theorem page_calls (eN eW : Addr) (d : DV) (K : DK) (t : Int) (g : Nat) (w : World) (h : RDisk w d K) (hok : dOk K) (hE : Errs w eN eW) (ho : w.ownsMap Tryz.prog 3 (plainElem Tryz.prog 3) g K.m (lastD K.At K.m)) :
    Calls Tryz.prog 190 #[.agg #[.slice d.sa K.n d.sc, .slice d.pa K.m d.pc, .map (some g)], .int .i64 t] w fun e w' => Below w.heap.size w w' ∧
      ((vB K t = true ∧ ∃ a c, e = .returned (.tuple #[.int .i64 (vK K t), .slice a (vL K t).length c, .nilIface]) ∧ Own w.heap.size w' a (vL K t).length c (vL K t)) ∨
       (vB K t = false ∧ vK K t = 0 ∧ vL K t = [] ∧ (e = .returned (.tuple #[.int .i64 0, .slice none 0 0, errV eW]) ∨ e = .returned (.tuple #[.int .i64 0, .slice none 0 0, errV eN])))) := by
  by_cases hT : pgIn K t
  · obtain ⟨T, rfl⟩ := Int.eq_ofNat_of_zero_le hT.1
    have e1 : vK K (T : Int) = decK T (pgL K T) := by unfold vK; rw [vIn_yes hT]; rfl
    have e2 : vL K (T : Int) = decL T (pgL K T) := by unfold vL; rw [vIn_yes hT]; rfl
    have e3 : vB K (T : Int) = decB T (pgL K T) := by unfold vB; rw [vIn_yes hT]; rfl
    rw [e1, e2, e3]
    refine (page_yes eN eW d K T g w h hok hE ho hT).mono ?_
    rintro e w' ⟨b, hor⟩
    refine ⟨b, ?_⟩
    rcases hor with ⟨hd, a, c, rfl, o⟩ | ⟨hd, rfl⟩
    · rw [decK_yes hd, decL_yes hd, decB_yes hd]
      exact Or.inl ⟨rfl, a, c, rfl, o⟩
    · rw [decK_no hd, decL_no hd, decB_no hd]
      exact Or.inr ⟨rfl, rfl, rfl, Or.inl rfl⟩
  · have e1 : vK K t = 0 := by unfold vK; rw [vIn_no hT]
    have e2 : vL K t = [] := by unfold vL; rw [vIn_no hT]
    have e3 : vB K t = false := by unfold vB; rw [vIn_no hT]
    refine (page_no eN eW d.sa d.pa d.sc d.pc K t g w hok.1.2.1 hE hT).mono ?_
    rintro e w' ⟨b, rfl⟩
    exact ⟨b, Or.inr ⟨e3, e1, e2, Or.inr rfl⟩⟩

end Go.Proofs.YtnohmedccbogkaaGreatDoor

/- The disk as a source of pages; Whole, in the program. -/
namespace Go.Proofs.YtnohmedccbogkaaGreatDoor
open Go.RowKit
set_option linter.unusedVariables false

def rdV (d : DV) (K : DK) (g : Nat) : List Value := [.slice d.sa K.n d.sc, .slice d.pa K.m d.pc, .map (some g)]
theorem own_typed {B : Nat} {w : World} {a : Option Addr} {n c : Nat} {l : List Int} (h : Own B w a n c l) (hb : IsB l) : BsT w a n c l :=
  ⟨h.bs hb, fun hp => by
    rcases h.2 with ⟨e1, h0⟩ | ⟨g, cap, cur, e1, _, hh, _⟩
    · omega
    · simp only [Value.slice.injEq] at e1
      exact ⟨g, 0, cur, (0, 0), e1.1, hh⟩⟩
/-- Is all whole? -/
noncomputable def whB (K : DK) (gen root used free : Int) : Bool := match dOkB K with | true => hoB (pgD K) (nPg K) ((nPg K : Nat) : Int) gen root used free | false => false
theorem sizeRd : (Tryz.prog.info? 140).map (·.size) = some 3 := by kernel_rfl
theorem rdV_one (d : DV) (K : DK) (g : Nat) : ∀ u ∈ rdV d K g, u.oneCell' = true := by intro u hu; simp [rdV] at hu; rcases hu with rfl | rfl | rfl <;> rfl

end Go.Proofs.YtnohmedccbogkaaGreatDoor

