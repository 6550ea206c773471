import Derived.Test.YtjjfgoeibcmfkaaDoorBst22
import Derived.Test.YtjjfgoeibcmfkaaDoorBst26
import Derived.Deep.DeepCutAuto
import Derived.Deep.RegionWith
import Derived.Test.YtjjfgoeibcmfkaaDoorBst20
import Derived.Test.YtjjfgoeibcmfkaaDoorRows
import Derived.WalkKit
import Derived.Below
import Derived.Stop.LaidErr
import Derived.Stop.Joined
import Derived.LaidHandle
import Derived.LaidLaws
import Derived.MakeChecks
import Derived.RowKitTokens
/- The law of BestSuper. -/
namespace Go.Proofs.YtjjfgoeibcmfkaaDoor
open Go.RowKit
set_option linter.unusedVariables false

set_option maxHeartbeats 1000000 in
theorem eqSuper_calls (g r u f : Int) (w : World) :
    Calls Tryd.prog 10 #[.agg #[.int .i64 g, .int .i64 r, .int .i64 u, .int .i64 f], .agg #[.int .i64 g, .int .i64 r, .int .i64 u, .int .i64 f]] w fun e w' => e = .returned (.bool true) ∧ Below w.heap.size w w' := by
  have FIN : Hid _ := below_alloc2 w (.cells #[.int .i64 g, .int .i64 r, .int .i64 u, .int .i64 f] 28) (.cells #[.int .i64 g, .int .i64 r, .int .i64 u, .int .i64 f] 28)
  have h1 : (g != g) = false := by simp
  have h2 : (r != r) = false := by simp
  have h3 : (u != u) = false := by simp
  have h4 : (f != f) = false := by simp
  go_enter Tryd.func10, Tryd.ntmps10
  go_wp2
  go_ret
  exact ⟨rfl, FIN.out⟩

set_option maxRecDepth 100000 in
set_option maxHeartbeats 8000000 in
theorem fnExactBestSuper_walk (eN eW : Addr) (d : DV) (K : DK) (w : World) (h : RDisk w d K) (hE : Errs w eN eW) :
    Calls Tryd.prog 3 #[dval d K] w fun e w' => e = .returned (.bool true) ∧ Below w.heap.size w w' := by
  have Q0 : Hid _ := (Below.refl w.heap.size w).alloc (Nat.le_refl _) (.cells #[.slice d.sa K.n d.sc, .slice d.pa K.m d.pc] 25)
  have S0 := fun d w h => specBest_calls d K w h
  have I0 := fun d w h he => implBest_calls eN eW d K w h he
  have HE : Hid (∀ v, Below w.heap.size w v → Errs v eN eW) := fun v b => hE.below b
  clear hE
  unfold bsV supV at S0 I0
  generalize bsN sG K = bg at *
  generalize bsN sR K = br at *
  generalize bsN sU K = bu at *
  generalize bsN sF K = bf at *
  generalize bsB K = ok at *
  have S1 : Hid _ := S0
  have I1 : Hid _ := I0
  have hok : (ok != ok) = false := by simp
  clear S0 I0
  unfold dval
  go_enter Tryd.func3, Tryd.ntmps3
  go_wp2_with fail
  refine (szDisk_calls d K 1048576 _ (h.below Q0.out) (by omega) (by omega)).mono ?_
  rintro e w1 ⟨z, rfl, b1, hz⟩
  obtain ⟨k0, k1⟩ := lbox (w := w) (v0 := .slice d.sa K.n d.sc) (v1 := .slice d.pa K.m d.pc) (t := 25) b1 (by simp) rfl
  have d1 : Below w.heap.size w w1 := Q0.out.trans (b1.mono Q0.out.size)
  have z1 : w.heap.size < w1.heap.size := by have := b1.size; simp at this; omega
  clear b1
  rcases hz with rfl | ⟨hz, hz0⟩
  · go_wp2
    go_ret
    exact ⟨rfl, d1⟩
  have CK : Hid (∀ v, Below w1.heap.size w1 v → v.cell? ⟨w.heap.size, 0, none⟩ = some (.slice d.sa K.n d.sc) ∧ v.cell? ⟨w.heap.size, 1, none⟩ = some (.slice d.pa K.m d.pc)) := fun v b => lkeep (w := w) ⟨k0, k1⟩ b z1
  have hS := small_of hz hz0
  have TD := fun w (hh : RDisk w d K) => toDisk_calls d K w hh hS.n hS.m hS.sN hS.pN
  have T1 : Hid _ := TD
  have hzn : ¬ z < 0 := by omega
  clear TD hz hS
  go_wp2_with fail
  refine (T1.out _ (h.below d1)).mono ?_
  rintro e w2 ⟨d2, rfl, b2, o2, _, _⟩
  have e2 : Below w.heap.size w w2 := d1.trans (b2.mono d1.size)
  obtain ⟨k0, k1⟩ := lkeep (w := w) ⟨k0, k1⟩ b2 z1
  have z2 : w.heap.size < w2.heap.size := Nat.lt_of_lt_of_le z1 b2.size
  have F2 : Hid (Below w1.heap.size w1 w2) := b2
  clear b2
  go_wp2_with fail
  refine (S1.out d2 _ o2.reads).mono ?_
  rintro e w3 ⟨rfl, b3⟩
  have y3 := heap_alloc_new w3 (.cells #[.int .i64 bg, .int .i64 br, .int .i64 bu, .int .i64 bf] 28)
  have q3 := (Below.refl w3.heap.size w3).alloc (Nat.le_refl _) (.cells #[.int .i64 bg, .int .i64 br, .int .i64 bu, .int .i64 bf] 28)
  have b4 := b3.trans (q3.mono b3.size)
  have e4 : Below w.heap.size w _ := e2.trans (b4.mono e2.size)
  obtain ⟨k0, k1⟩ := lkeep (w := w) ⟨k0, k1⟩ b4 z2
  have z4 : w3.heap.size < (w3.alloc (.cells #[.int .i64 bg, .int .i64 br, .int .i64 bu, .int .i64 bf] 28)).heap.size := by simp
  have zz3 : w.heap.size < w3.heap.size := Nat.lt_of_lt_of_le z2 b3.size
  have F4 : Hid (Below w1.heap.size w1 _) := F2.out.trans (b4.mono F2.out.size)
  clear b3 o2 q3 b4 F2
  go_wp2_with fail
  generalize hW4 : w3.alloc (.cells #[.int .i64 bg, .int .i64 br, .int .i64 bu, .int .i64 bf] 28) = W4 at *
  clear hW4
  refine (T1.out _ (h.below e4)).mono ?_
  rintro e w5 ⟨d5, rfl, b5, o5, _, _⟩
  unfold dval
  have x6 := isBox_new w5 d5 K
  have q6 := (Below.refl w5.heap.size w5).alloc (Nat.le_refl _) (.cells #[.slice d5.sa K.n d5.sc, .slice d5.pa K.m d5.pc] 33)
  have b6 := b5.trans (q6.mono b5.size)
  have e6 : Below w.heap.size w _ := e4.trans (b6.mono e4.size)
  have o6 := o5.below q6
  clear k0 k1
  go_wp2_with fail
  generalize hW6 : w5.alloc (.cells #[.slice d5.sa K.n d5.sc, .slice d5.pa K.m d5.pc] 33) = W6 at *
  clear hW6
  refine (I1.out d5 W6 o6.reads (HE.out _ e6)).mono ?_
  rintro e w7 ⟨rfl, b7⟩
  have y7 := heap_alloc_new w7 (.cells #[.int .i64 bg, .int .i64 br, .int .i64 bu, .int .i64 bf] 28)
  have q7 := (Below.refl w7.heap.size w7).alloc (Nat.le_refl _) (.cells #[.int .i64 bg, .int .i64 br, .int .i64 bu, .int .i64 bf] 28)
  have b8 := b7.trans (q7.mono b7.size)
  have b48 := b6.trans (b8.mono b6.size)
  have e8 : Below w.heap.size w _ := e6.trans (b8.mono e6.size)
  have x8 := x6.below b8
  have o8 := o6.below b8
  have y38 := (b48.block w3.heap.size z4).trans y3
  have F8 : Hid (Below w1.heap.size w1 _) := F4.out.trans (b48.mono F4.out.size)
  clear b5 q6 b6 o5 x6 o6 b7 q7 b8 y3
  go_upto_region 8 with fail
  generalize hW8 : w7.alloc (.cells #[.int .i64 bg, .int .i64 br, .int .i64 bu, .int .i64 bf] 28) = W8 at *
  clear hW8
  obtain ⟨⟨a0, a1, a2, a3⟩, _⟩ := cells4 y38
  obtain ⟨⟨c0, c1, c2, c3⟩, _⟩ := cells4 y7
  clear y38 y7
  go_wp2_with fail
  refine (eqSuper_calls bg br bu bf W8).mono ?_
  rintro e w9 ⟨rfl, b9⟩
  have e9 : Below w.heap.size w w9 := e8.trans (b9.mono e8.size)
  have x9 := x8.below b9
  have o9 := o8.below b9
  have F9 : Hid (Below w1.heap.size w1 w9) := F8.out.trans (b9.mono F8.out.size)
  clear a0 a1 a2 a3 c0 c1 c2 c3 b9 x8 o8 e8 b48
  have r9 := h.below e9
  have m0 := x9.c0
  have m1 := x9.c1
  obtain ⟨k0, k1⟩ := CK.out _ F9.out
  go_wp2_with fail
  go_region_with (first
    | (go_at_call 8; refine (T1.out _ (r9.below (Below.refl _ _).drew)).mono ?_; rintro e wa ⟨da, rfl, ba, oa, _, _⟩; simp only [World.size_drew] at ba oa; replace ba := undrewD ba; have c2 := (x9.below ba).c0; have c3 := (x9.below ba).c1)
    | (go_at_call 11; refine (eqDisk_calls d5 da K _ (o9.below ba).reads oa.reads).mono ?_; rintro e wb ⟨rfl, bb⟩))
  all_goals
    have EB : Hid (Below w.heap.size w wb) := e9.trans ((ba.trans (bb.mono ba.size)).mono e9.size)
    try clear c2 c3
    clear m0 m1 k0 k1 ba bb oa
    go_wp2
    go_ret
    exact ⟨rfl, EB.out⟩
end Go.Proofs.YtjjfgoeibcmfkaaDoor

/- The two sentinels of pages, as the rows lay them. -/
namespace Go.Proofs.YtjjfgoeibcmfkaaDoor
open Go.ChangeShapes Go.WideShapes Go.RowKit

theorem gErrB : Tryd.prog.globalNamed "loop.example/s01906/impl.errWrongBytes" = some 1 := by kernel_rfl
theorem gErrN : Tryd.prog.globalNamed "loop.example/s01906/impl.errNoPage" = some 0 := by kernel_rfl
theorem gErrBType : (Tryd.prog.globals[1]?).map (·.type) = some 70 := by kernel_rfl
theorem gErrNType : (Tryd.prog.globals[0]?).map (·.type) = some 70 := by kernel_rfl
theorem cellsErr : Tryd.prog.cellsOf 195 = 1 := by kernel_rfl
theorem cellsStr : Tryd.prog.cellsOf 9 = 1 := by kernel_rfl
theorem starErr : "*" ++ "errors.errorString" = "*errors.errorString" := by decide
theorem rowErr (u : TypeId) (h : Tryd.prog.typeName? 3 u = some "*errors.errorString") : u = 170 :=
  typeName_ptr_named (nm := "errors.errorString") (by rw [starErr]; kernel_rfl) (by kernel_rfl) (by decide) u (by rw [starErr]; exact h)

def laid2 : List (String × DataW Unit) := [("loop.example/s01906/impl.errWrongBytes", Rows.laid_loop_example_s01906_impl_errWrongBytes), ("loop.example/s01906/impl.errNoPage", Rows.laid_loop_example_s01906_impl_errNoPage)]

set_option maxRecDepth 100000 in
theorem sentinels_of_laid {W : World} (hH : laidMetH Tryd.prog laid2 W) : ∃ eN eW : Addr, W.var? Tryd.prog "loop.example/s01906/impl.errNoPage" = some #[errV eN] ∧ W.var? Tryd.prog "loop.example/s01906/impl.errWrongBytes" = some #[errV eW] ∧ Errs W eN eW := by
  have h : laidMet Tryd.prog laid2 W := by rw [← Go.MakeChecks.laidMetH_plain Tryd.prog laid2 W (by kernel_rfl)]; exact hH
  obtain ⟨ps, ⟨g0, t0, cs0, f0, p0, q0, hg0, ht0, hv0, hd0, ⟨g1, t1, cs1, f1, p1, q1, hg1, ht1, hv1, hd1, hq1, e1⟩, e0⟩, hnd, hrows⟩ := h
  obtain rfl := Option.some.inj (gErrB.symm.trans hg0)
  obtain rfl := Option.some.inj (gErrN.symm.trans hg1)
  obtain rfl := Option.some.inj (gErrBType.symm.trans ht0)
  obtain rfl := Option.some.inj (gErrNType.symm.trans ht1)
  have hq1' : q1 = [] := hq1
  subst hq1'
  subst e1
  subst e0
  obtain ⟨l0⟩ := cs0
  obtain ⟨l1⟩ := cs1
  have ok0 : ∀ u v, l0 = [.iface u v] → Value.okWide Tryd.prog W .any 0 u v := fun u v e => by
    subst e
    exact (hrows 1 0 (by simp [MemPlace.row])).2 u v (by simpa using World.var?_cell hg0 hv0 0)
  have ok1 : ∀ u v, l1 = [.iface u v] → Value.okWide Tryd.prog W .any 0 u v := fun u v e => by
    subst e
    exact (hrows 0 0 (by simp [MemPlace.row])).2 u v (by simpa using World.var?_cell hg1 hv1 0)
  obtain ⟨a0, s0, rfl, hc0, hs0, hz0, rfl⟩ := errorString_of_trod Tryd.underlying70 rowErr Tryd.underlying170 Tryd.underlying195 rfl rfl Tryd.underlying9 cellsErr cellsStr hd0 ok0
  obtain ⟨a1, s1, rfl, hc1, hs1, hz1, rfl⟩ := errorString_of_trod Tryd.underlying70 rowErr Tryd.underlying170 Tryd.underlying195 rfl rfl Tryd.underlying9 cellsErr cellsStr hd1 ok1
  obtain ⟨c0, t0, hb0⟩ := (hrows a0.block a0.off (by simp [MemPlace.row])).1
  obtain ⟨c1, t1, hb1⟩ := (hrows a1.block a1.off (by simp [MemPlace.row])).1
  refine ⟨a1, a0, hv1, hv0, by simpa using World.var?_cell gErrN hv1 0, by simpa using World.var?_cell gErrB hv0 0, ?_, ⟨c1, t1, hb1⟩, ⟨c0, t0, hb0⟩⟩
  rintro rfl
  simp [MemPlace.row] at hnd

theorem var_below {W W' : World} {n : String} {cs : Array Value} (h : W.var? Tryd.prog n = some cs) (b : Below W.heap.size W W') : W'.var? Tryd.prog n = some cs := by
  unfold World.var? at h ⊢
  cases hg : Tryd.prog.globalNamed n with
  | none => simp [hg] at h
  | some g =>
    simp only [hg, Option.bind_some] at h ⊢
    have hlt : g < W.heap.size := by
      rcases Nat.lt_or_ge g W.heap.size with h' | h'
      · exact h'
      · simp [Array.getElem?_eq_none h'] at h
    rw [b.block g hlt]
    exact h

abbrev errTextB : ByteArray := { data := #[116, 104, 101, 115, 101, 32, 97, 114, 101, 32, 110, 111, 116, 32, 116, 104, 101, 32, 98, 121, 116, 101, 115, 32, 111, 102, 32, 116, 104, 101, 32, 112, 97, 103, 101] }
abbrev errTextN : ByteArray := { data := #[116, 104, 101, 32, 100, 105, 115, 107, 32, 104, 97, 115, 32, 110, 111, 32, 115, 117, 99, 104, 32, 112, 97, 103, 101] }
noncomputable def lowB : Nat := (World.holding Tryd.prog default ⟨#[], #[], []⟩).heap.size
noncomputable def laidWorld (os : Os) : World :=
  let w0 := World.holding Tryd.prog os ⟨#[.cells #[.string errTextB] 195, .cells #[.string errTextN] 195], #[], []⟩
  { w0 with heap := (w0.heap.modify 1 fun
      | .cells _ t frozen => .cells #[.iface 170 (.pointer (some ⟨lowB, 0, none⟩))] t frozen
      | o => o).modify 0 fun
      | .cells _ t frozen => .cells #[.iface 170 (.pointer (some ⟨lowB + 1, 0, none⟩))] t frozen
      | o => o }
theorem laidWorld_met (os : Os) (args : Array Value) : laidMetH Tryd.prog laid2 ((laidWorld os).forCall (fun _ _ => 0) ⟨#[], args, []⟩).memory := by
  rw [Go.MakeChecks.laidMetH_plain Tryd.prog laid2 _ (by kernel_rfl)]
  exact laidMet_of_run (ps := [.cell 1 0, .cell lowB 0, .cell 0 0, .cell (lowB + 1) 0]) 8 (by kernel_rfl) (by kernel_rfl) (by kernel_rfl)
end Go.Proofs.YtjjfgoeibcmfkaaDoor

