import Derived.Test.YtglbanolhhjjiaaGreatDoorOp24
import Derived.Test.YtglbanolhhjjiaaGreatDoorOp14
import Derived.Test.YtglbanolhhjjiaaGreatDoorOp18
import Derived.Test.YtglbanolhhjjiaaGreatDoorOp23
import Derived.Test.YtglbanolhhjjiaaGreatDoorOp16
import Derived.Test.YtglbanolhhjjiaaGreatDoorOp15
/- ReadPage, in the program. -/
namespace Go.Proofs.YtglbanolhhjjiaaGreatDoor
open Go.RowKit Go.Maps
set_option linter.unusedVariables false

set_option maxRecDepth 100000 in
set_option maxHeartbeats 2000000 in
theorem page_no (eN eW : Addr) (sa pa : Option Addr) (sc pc : Nat) (K : DK) (t : Int) (g : Nat) (w : World) (hn2 : K.n ≤ 4096) (hE : Errs w eN eW) (hT : ¬ pgIn K t) :
    Calls Tryz.prog 120 #[.agg #[.slice sa K.n sc, .slice pa K.m pc, .map (some g)], .int .i64 t] w fun e w' => Below w.heap.size w w' ∧ e = .returned (.tuple #[.int .i64 0, .slice none 0 0, errV eN]) := by
  have q0 := (Below.refl w.heap.size w).alloc (Nat.le_refl _) (.cells #[.slice sa K.n sc, .slice pa K.m pc, .map (some g)] 122)
  have c0 := (hE.below q0).n
  have HE : Hid _ := hE.below q0
  have Q0 : Hid _ := q0
  clear hE q0
  by_cases h0 : t < 0
  · clear hT
    go_enter Tryz.func120, Tryz.ntmps120
    go_wp2_with fail
    go_region
    go_wp2
    refine bodyPost_ret (v := .tuple #[.int .i64 0, .slice none 0 0, errV eN]) (by simp [results, Tryz.results120, go_sem]) rfl ?_
    exact ⟨Q0.out.drew, rfl⟩
  · have h1 : (K.n : Int) / 4 ≤ t := by unfold pgIn at hT; omega
    clear hT c0
    go_enter Tryz.func120, Tryz.ntmps120
    go_wp2_with fail
    generalize hW0 : w.alloc (.cells #[.slice sa K.n sc, .slice pa K.m pc, .map (some g)] 122) = W0 at *
    clear hW0
    refine (diskPages_calls sa pa sc pc K W0 hn2).mono ?_
    rintro e w1 ⟨rfl, b1⟩
    have c0 := (HE.out.below b1).n
    have D1 : Hid (Below w.heap.size w w1) := Q0.out.trans (b1.mono Q0.out.size)
    clear b1
    go_wp2_with fail
    go_region
    go_wp2
    refine bodyPost_ret (v := .tuple #[.int .i64 0, .slice none 0 0, errV eN]) (by simp [results, Tryz.results120, go_sem]) rfl ?_
    exact ⟨D1.out.drew, rfl⟩

theorem page_calls (eN eW : Addr) (d : DV) (K : DK) (t : Int) (g : Nat) (w : World) (h : RDisk w d K) (hok : dOk K) (hE : Errs w eN eW) (ho : w.ownsMap Tryz.prog 3 (plainElem Tryz.prog 3) g K.m (lastD K.At K.m)) :
    Calls Tryz.prog 120 #[.agg #[.slice d.sa K.n d.sc, .slice d.pa K.m d.pc, .map (some g)], .int .i64 t] w fun e w' => Below w.heap.size w w' ∧
      ((vB K t = true ∧ ∃ a c, e = .returned (.tuple #[.int .i64 (vK K t), .slice a (vL K t).length c, .nilIface]) ∧ Own w.heap.size w' a (vL K t).length c (vL K t)) ∨
       (vB K t = false ∧ vK K t = 0 ∧ vL K t = [] ∧ (e = .returned (.tuple #[.int .i64 0, .slice none 0 0, errV eW]) ∨ e = .returned (.tuple #[.int .i64 0, .slice none 0 0, errV eN])))) := by
  by_cases hT : pgIn K t
  · obtain ⟨T, rfl⟩ := Int.eq_ofNat_of_zero_le hT.1
    have e1 : vK K (T : Int) = decK T (pgL K T) := by unfold vK; rw [vIn_yes hT]; rfl
    have e2 : vL K (T : Int) = decL T (pgL K T) := by unfold vL; rw [vIn_yes hT]; rfl
    have e3 : vB K (T : Int) = decB T (pgL K T) := by unfold vB; rw [vIn_yes hT]; rfl
    rw [e1, e2, e3]
    refine (page_yes eN eW d K T g w h hok hE ho hT).mono ?_
    rintro e w' ⟨b, hor⟩
    refine ⟨b, ?_⟩
    rcases hor with ⟨hd, a, c, rfl, o⟩ | ⟨hd, rfl⟩
    · rw [decK_yes hd, decL_yes hd, decB_yes hd]
      exact Or.inl ⟨rfl, a, c, rfl, o⟩
    · rw [decK_no hd, decL_no hd, decB_no hd]
      exact Or.inr ⟨rfl, rfl, rfl, Or.inl rfl⟩
  · have e1 : vK K t = 0 := by unfold vK; rw [vIn_no hT]
    have e2 : vL K t = [] := by unfold vL; rw [vIn_no hT]
    have e3 : vB K t = false := by unfold vB; rw [vIn_no hT]
    refine (page_no eN eW d.sa d.pa d.sc d.pc K t g w hok.1.2.1 hE hT).mono ?_
    rintro e w' ⟨b, rfl⟩
    exact ⟨b, Or.inr ⟨e3, e1, e2, Or.inr rfl⟩⟩

end Go.Proofs.YtglbanolhhjjiaaGreatDoor

/- The disk as a source of pages; Whole, in the program. -/
namespace Go.Proofs.YtglbanolhhjjiaaGreatDoor
open Go.RowKit
set_option linter.unusedVariables false

theorem methRd (v : Value) (w : World) : (Go.method 428 122 v "loop.example/s01906/impl.page").run Tryz.prog w = .ok (120, v) w := by kernel_rfl
def rdV (d : DV) (K : DK) (g : Nat) : List Value := [.slice d.sa K.n d.sc, .slice d.pa K.m d.pc, .map (some g)]
theorem own_typed {B : Nat} {w : World} {a : Option Addr} {n c : Nat} {l : List Int} (h : Own B w a n c l) (hb : IsB l) : BsT w a n c l :=
  ⟨h.bs hb, fun hp => by
    rcases h.2 with ⟨e1, h0⟩ | ⟨g, cap, cur, e1, _, hh, _⟩
    · omega
    · simp only [Value.slice.injEq] at e1
      exact ⟨g, 0, cur, (0, 0), e1.1, hh⟩⟩
set_option maxRecDepth 100000 in
theorem rdSrc {eN eW : Addr} {d : DV} {K : DK} {g : Nat} {w0 : World} (h : RDisk w0 d K) (hok : dOk K) (hE : Errs w0 eN eW) (ho : w0.ownsMap Tryz.prog 3 (plainElem Tryz.prog 3) g K.m (lastD K.At K.m)) :
    Src (pgD K) w0.heap.size 122 120 (.agg (rdV d K g).toArray) (fun u => Below w0.heap.size w0 u) (fun _ => False) where
  low := fun k e => e.elim
  meth := fun w => methRd _ w
  ent := fun _ _ => rfl
  keep := fun u u' hs hb _ => hs.trans hb
  page := fun u id hs => by
    have hom : u.ownsMap Tryz.prog 3 (plainElem Tryz.prog 3) g K.m (lastD K.At K.m) := by
      obtain ⟨es, clock, h1, r⟩ := ho
      exact ⟨es, clock, (hs.block g (Array.getElem?_eq_some_iff.1 h1).1).trans h1, r⟩
    refine Calls.mono (page_calls eN eW d K id g u (h.below hs) hok (hE.below hs) hom) ?_
    rintro e w' ⟨hb, ⟨h1, a, c, he, hown⟩ | ⟨h1, h2, h3, he⟩⟩
    · exact ⟨hs.trans (hb.mono hs.size), OnlyS.ofBelow hb, Or.inl ⟨h1, a, c, he, own_typed hown (vL_isB (h.below hs) id)⟩⟩
    · refine ⟨hs.trans (hb.mono hs.size), OnlyS.ofBelow hb, Or.inr ⟨h1, ?_⟩⟩
      rcases he with he | he
      · exact ⟨0, none, 0, 0, eW, he⟩
      · exact ⟨0, none, 0, 0, eN, he⟩
/-- Is all whole? -/
noncomputable def whB (K : DK) (gen root used free : Int) : Bool := match dOkB K with | true => hoB (pgD K) (nPg K) ((nPg K : Nat) : Int) gen root used free | false => false
theorem sizeRd : (Tryz.prog.info? 122).map (·.size) = some 3 := by kernel_rfl
theorem rdV_one (d : DV) (K : DK) (g : Nat) : ∀ u ∈ rdV d K g, u.oneCell' = true := by intro u hu; simp [rdV] at hu; rcases hu with rfl | rfl | rfl <;> rfl

set_option maxHeartbeats 4000000 in
set_option maxRecDepth 100000 in
theorem readHolding_calls (eN eW : Addr) (d : DV) (K : DK) (gen root used free : Int) (w : World) (h : RDisk w d K) (hE : Errs w eN eW) :
    Calls Tryz.prog 62 #[dval d K, .agg (supC gen root used free).toArray] w fun e w' => Below w.heap.size w w' ∧ ∃ cs : List Value, cs.length = 4 ∧ (∀ u ∈ cs, u.oneCell' = true) ∧ e = .returned (.tuple #[.agg cs.toArray, .bool (whB K gen root used free)]) := by
  obtain ⟨W1, hW1⟩ : ∃ W, W = w.alloc (Obj.cells #[.slice d.sa K.n d.sc, .slice d.pa K.m d.pc] 35) := ⟨_, rfl⟩
  obtain ⟨W2, hW2⟩ : ∃ W, W = W1.alloc (Obj.cells (supC gen root used free).toArray 36) := ⟨_, rfl⟩
  obtain ⟨W3, hW3⟩ : ∃ W, W = W2.alloc (Obj.cells hoZ.toArray 102) := ⟨_, rfl⟩
  have q1 : Below w.heap.size w W1 := by rw [hW1]; exact (Below.refl _ _).alloc (Nat.le_refl _) _
  have q2 : Below W1.heap.size W1 W2 := by rw [hW2]; exact (Below.refl _ _).alloc (Nat.le_refl _) _
  have q3 : Below W2.heap.size W2 W3 := by rw [hW3]; exact (Below.refl _ _).alloc (Nat.le_refl _) _
  have z1 : W1.heap.size = w.heap.size + 1 := by rw [hW1]; simp
  have z2 : W2.heap.size = w.heap.size + 1 + 1 := by rw [hW2]; simp [z1]
  have z3 : W3.heap.size = w.heap.size + 1 + 1 + 1 := by rw [hW3]; simp [z2]
  have q23 : Below W1.heap.size W1 W3 := q2.trans (q3.mono q2.size)
  have kD : Blk W3 35 w.heap.size [.slice d.sa K.n d.sc, .slice d.pa K.m d.pc] := (by rw [hW1]; exact blk_new w _ _ : Blk W1 35 w.heap.size [.slice d.sa K.n d.sc, .slice d.pa K.m d.pc]).below q23
  have kP : Blk W3 36 (w.heap.size + 1) (supC gen root used free) := (by rw [hW2, ← z1]; exact blk_new W1 _ _ : Blk W2 36 (w.heap.size + 1) (supC gen root used free)).below q3
  have kR : Blk W3 102 (w.heap.size + 1 + 1) hoZ := by rw [hW3, ← z2]; exact blk_new W2 _ _
  have q13 : Below w.heap.size w W3 := q1.trans (q23.mono q1.size)
  have sD : (Tryz.prog.info? 35).map (·.size) = some (#[Value.slice d.sa K.n d.sc, Value.slice d.pa K.m d.pc] : Array Value).size := sizeDk
  have sH : (Tryz.prog.info? 102).map (·.size) = some hoZ.toArray.size := sizeHo
  have hbh := built_ho
  have h3 := h.below q13
  have E3 := hE.below q13
  have H3 : Hid _ := q13
  have hz3 : w.heap.size + 1 + 1 < W3.heap.size := by omega
  clear q1 q2 q3 z1 z2 q23 q13 z3 h hE
  cases hdo : dOkB K with
  | false =>
    have NR := newReader_no d K W3 h3 (fun hk => by rw [dOk_true hk] at hdo; cases hdo)
    have hW : Hid (whB K gen root used free = false) := by show whB K gen root used free = false; unfold whB; rw [hdo]
    unfold dval at NR ⊢
    unfold rZ at NR
    clear h3 E3 hdo
    go_enter Tryz.func62, Tryz.ntmps62
    go_upto_region 1 with fail
    change Code.wp _ _ _ _ (((w.alloc (Obj.cells #[.slice d.sa K.n d.sc, .slice d.pa K.m d.pc] 35)).alloc (Obj.cells (supC gen root used free).toArray 36)).alloc (Obj.cells hoZ.toArray 102))
    rw [← hW1, ← hW2, ← hW3]
    clear hW1 hW2 hW3
    go_wp2_with (refine wpList_load_row rfl 35 _ rfl w.heap.size rfl 35 #[.slice d.sa K.n d.sc, .slice d.pa K.m d.pc] (0, 0) _ kD Tryz.underlying35 rfl sD ?_)
    refine NR.mono ?_
    rintro e w4 ⟨rfl, b4⟩
    have q5 : Below w4.heap.size w4 (w4.alloc (Obj.cells #[.slice none 0 0, .slice none 0 0, .map none] 122)) := (Below.refl _ _).alloc (Nat.le_refl _) _
    have kR5 := (kR.below b4).below q5
    have d5 : Below w.heap.size w (w4.alloc (Obj.cells #[.slice none 0 0, .slice none 0 0, .map none] 122)) := (H3.out.trans (b4.mono H3.out.size)).trans (q5.mono (by have := b4.size; omega))
    have oF := onlyB_setRow (w4.alloc (Obj.cells #[.slice none 0 0, .slice none 0 0, .map none] 122)) (w.heap.size + 1 + 1) hoZ.toArray
    have kF := kR5.setRow hoZ
    have FIN : Hid _ := d5.trans (oF.below (B := w.heap.size) (by omega) d5.size)
    clear NR kR kD kP b4 q5 d5 oF
    go_wp2_with (first | (refine wpList_storeNew rfl 122 _ _ rfl w4 #[.slice none 0 0, .slice none 0 0, .map none] #[.slice none 0 0, .slice none 0 0, .map none] 122 rfl rfl sizeRd rfl rfl ?_) | (refine wpList_store_row rfl 102 _ _ rfl (w.heap.size + 1 + 1) hoZ.toArray rfl rfl 102 _ kR5 sH rfl (all_one hoZ_one) ?_))
    refine bodyPost_ret (v := .tuple #[.agg hoZ.toArray, .bool false]) ?_ rfl ⟨FIN.out, hoZ, rfl, hoZ_one, by rw [hW.out]⟩
    exact results_cellTmp Tryz.results62 _ _ (w.heap.size + 1 + 1) 102 hoZ.toArray _ rfl kF Tryz.underlying102 rfl sH rfl
  | true =>
    have hok := dOk_of hdo
    have hn := hok.1.2.1
    have NR := newReader_core d.sa d.pa d.sc d.pc d.sA d.pA d.sN d.sC d.pN d.pC K W3 h3.safe h3.pend hok
    have hW : Hid (whB K gen root used free = hoB (pgD K) (nPg K) ((nPg K : Nat) : Int) gen root used free) := by show whB K gen root used free = _; unfold whB; rw [hdo]
    have HE3 : Hid _ := And.intro h3 E3
    unfold dval
    clear h3 E3 hdo
    go_enter Tryz.func62, Tryz.ntmps62
    go_upto_region 1 with fail
    change Code.wp _ _ _ _ (((w.alloc (Obj.cells #[.slice d.sa K.n d.sc, .slice d.pa K.m d.pc] 35)).alloc (Obj.cells (supC gen root used free).toArray 36)).alloc (Obj.cells hoZ.toArray 102))
    rw [← hW1, ← hW2, ← hW3]
    clear hW1 hW2 hW3
    go_wp2_with (refine wpList_load_row rfl 35 _ rfl w.heap.size rfl 35 #[.slice d.sa K.n d.sc, .slice d.pa K.m d.pc] (0, 0) _ kD Tryz.underlying35 rfl sD ?_)
    refine NR.mono ?_
    rintro e w4 ⟨g, rfl, b4, om4⟩
    have q5 : Below w4.heap.size w4 (w4.alloc (Obj.cells (rdV d K g).toArray 122)) := (Below.refl _ _).alloc (Nat.le_refl _) _
    have u5 : Below W3.heap.size W3 (w4.alloc (Obj.cells (rdV d K g).toArray 122)) := b4.trans (q5.mono b4.size)
    have kR5 := kR.below u5
    have kD5 := kD.below u5
    have kP5 := kP.below u5
    have kV5 := blk_new w4 122 (rdV d K g).toArray
    have om5 := om4.alloc (.cells (rdV d K g).toArray 122)
    have hz4 := b4.size
    have H5 : Hid _ := And.intro u5 (And.intro kR5 (And.intro kD5 (And.intro kP5 (And.intro kV5 om5))))
    clear NR kR kD kP b4 om4 q5 u5 kR5 kD5 kP5 kV5 om5
    go_upto_region 4 with (first | (refine wpList_storeNew rfl 122 _ _ rfl w4 #[.slice none 0 0, .slice none 0 0, .map none] (rdV d K g).toArray 122 rfl rfl sizeRd rfl (all_one (rdV_one d K g)) ?_))
    change Code.wp _ _ _ _ (w4.alloc (Obj.cells (rdV d K g).toArray 122))
    generalize w4.alloc (Obj.cells (rdV d K g).toArray 122) = W5 at *
    generalize w4.heap.size = vb at *
    have HCS : Hid (∀ u, Below W5.heap.size W5 u → u.cell? ⟨vb, 0, none⟩ = some (.slice d.sa K.n d.sc) ∧ u.cell? ⟨vb, 1, none⟩ = some (.slice d.pa K.m d.pc) ∧ u.cell? ⟨vb, 2, none⟩ = some (.map (some g)) ∧ u.cell? ⟨w.heap.size, 0, none⟩ = some (.slice d.sa K.n d.sc) ∧ u.cell? ⟨w.heap.size, 1, none⟩ = some (.slice d.pa K.m d.pc) ∧ u.cell? ⟨w.heap.size + 1, 0, none⟩ = some (.int .i64 gen) ∧ u.cell? ⟨w.heap.size + 1, 1, none⟩ = some (.int .i64 root) ∧ u.cell? ⟨w.heap.size + 1, 2, none⟩ = some (.int .i64 used) ∧ u.cell? ⟨w.heap.size + 1, 3, none⟩ = some (.int .i64 free)) := fun u hu =>
      ⟨Blk.cell (Blk.below H5.out.2.2.2.2.1 hu) 0, Blk.cell (Blk.below H5.out.2.2.2.2.1 hu) 1, Blk.cell (Blk.below H5.out.2.2.2.2.1 hu) 2, Blk.cell (H5.out.2.2.1.below hu) 0, Blk.cell (H5.out.2.2.1.below hu) 1, Blk.cell (H5.out.2.2.2.1.below hu) 0, Blk.cell (H5.out.2.2.2.1.below hu) 1, Blk.cell (H5.out.2.2.2.1.below hu) 2, Blk.cell (H5.out.2.2.2.1.below hu) 3⟩
    have cs5 := HCS.out W5.drew ⟨rfl, rfl, rfl, Nat.le_refl _, fun _ _ => rfl⟩
    refine wp_regionD (fun u => u.cell? ⟨vb, 0, none⟩ = some (.slice d.sa K.n d.sc) ∧ u.cell? ⟨vb, 1, none⟩ = some (.slice d.pa K.m d.pc) ∧ u.cell? ⟨vb, 2, none⟩ = some (.map (some g)) ∧ u.cell? ⟨w.heap.size, 0, none⟩ = some (.slice d.sa K.n d.sc) ∧ u.cell? ⟨w.heap.size, 1, none⟩ = some (.slice d.pa K.m d.pc) ∧ u.cell? ⟨w.heap.size + 1, 0, none⟩ = some (.int .i64 gen) ∧ u.cell? ⟨w.heap.size + 1, 1, none⟩ = some (.int .i64 root) ∧ u.cell? ⟨w.heap.size + 1, 2, none⟩ = some (.int .i64 used) ∧ u.cell? ⟨w.heap.size + 1, 3, none⟩ = some (.int .i64 free)) (fun k => decide (8 ≤ k)) (by kernel_rfl) ?_
    refine wpAnyD_takeT 0 16 (v := ?vvd0) rfl rfl (by kernel_rfl) (by kernel_rfl) (by kernel_rfl) (by kernel_rfl) (fun _ _ _ h => h) (Or.inl ⟨by rfl, ?hyd0⟩) cs5 ?restd0
    case hyd0 => (intro w hSw; (try dsimp only at hSw); go_simp; try with_reducible rfl)
    simp only [Act.put, List.setIfInBounds_toArray, List.set_cons_zero, List.set_cons_succ]
    refine wpAnyD_takeT 1 17 (v := ?vvd1) rfl rfl (by kernel_rfl) (by kernel_rfl) (by kernel_rfl) (by kernel_rfl) (fun _ _ _ h => h) (Or.inl ⟨by rfl, ?hyd1⟩) cs5 ?restd1
    case hyd1 => (intro w hSw; (try dsimp only at hSw); go_simp; try with_reducible rfl)
    simp only [Act.put, List.setIfInBounds_toArray, List.set_cons_zero, List.set_cons_succ]
    refine wpAnyD_takeT 2 18 (v := ?vvd2) rfl rfl (by kernel_rfl) (by kernel_rfl) (by kernel_rfl) (by kernel_rfl) (fun _ _ _ h => h) (Or.inl ⟨by rfl, ?hyd2⟩) cs5 ?restd2
    case hyd2 => (intro w hSw; (try dsimp only at hSw); go_simp; try with_reducible rfl)
    simp only [Act.put, List.setIfInBounds_toArray, List.set_cons_zero, List.set_cons_succ]
    refine wpAnyD_takeT 4 20 (v := ?vvd3) rfl rfl (by kernel_rfl) (by kernel_rfl) (by kernel_rfl) (by kernel_rfl) (fun _ _ _ h => h) (Or.inl ⟨by rfl, ?hyd3⟩) cs5 ?restd3
    case hyd3 => (intro w hSw; (try dsimp only at hSw); go_simp; try with_reducible rfl)
    simp only [Act.put, List.setIfInBounds_toArray, List.set_cons_zero, List.set_cons_succ]
    have DP := diskPages_calls d.sa d.pa d.sc d.pc K W5.drew hn
    rw [show (K.n : Int) / 4 = ((nPg K : Nat) : Int) by unfold nPg; omega] at DP
    refine wpAnyD_one 3 (by kernel_rfl) rfl (fun KK hK => ?_)
    rw [if_pos (show Region.wanted _ _ = true from rfl)]
    go_wp2_with fail
    refine DP.mono ?_
    rintro e w6 ⟨rfl, b6⟩
    have d6 : Below W5.heap.size W5 w6 := ⟨b6.os, b6.tape, b6.output, b6.size, b6.block⟩
    have u6 : Below W3.heap.size W3 w6 := H5.out.1.trans (d6.mono H5.out.1.size)
    have om6 : w6.ownsMap Tryz.prog 3 (plainElem Tryz.prog 3) g K.m (lastD K.At K.m) := by
      obtain ⟨es, clock, h1, r⟩ := H5.out.2.2.2.2.2
      exact ⟨es, clock, (d6.block g (Array.getElem?_eq_some_iff.1 h1).1).trans h1, r⟩
    have HI := holdingIn_calls (pgD_ok HE3.out.1 hok) (fun t => vL_le hok t) (rdSrc (HE3.out.1.below u6) hok (HE3.out.2.below u6) om6) (nPg K) gen root used free w6 (Below.refl _ _) (Nat.le_refl _)
    have kR6 := H5.out.2.1.below d6
    have d6' : Below w.heap.size w w6 := H3.out.trans (u6.mono H3.out.size)
    have H6 : Hid _ := And.intro kR6 d6'
    have hz6 := u6.size
    have cs6 := HCS.out w6 d6
    have HD6 : Hid _ := d6
    clear DP b6 d6 u6 om6 kR6 d6' H5
    go_wp2_with fail
    refine hK.out _ _ (fun _ => cs6) ?_
    clear hK KK
    refine wpAnyD_one 5 (by kernel_rfl) rfl (fun KK hK => ?_)
    rw [if_pos (show Region.wanted _ _ = true from rfl)]
    go_wp2_with fail
    refine HI.mono ?_
    rintro e w7 ⟨o7, _, cs, hcl, hco, rfl⟩
    have b7 : Below w6.heap.size w6 w7 := ⟨o7.os, o7.tape, o7.output, o7.size, fun i hi => o7.block i hi (fun e => e)⟩
    have kR7 := H6.out.1.below b7
    have oF := onlyB_setRow w7 (w.heap.size + 1 + 1) cs.toArray
    have kF := kR7.setRow cs
    have d7 : Below w.heap.size w w7 := H6.out.2.trans (b7.mono H6.out.2.size)
    have sC : (Tryz.prog.info? 102).map (·.size) = some cs.toArray.size := by rw [List.size_toArray, hcl]; exact sizeHo
    have FIN : Hid _ := d7.trans (oF.below (B := w.heap.size) (by omega) d7.size)
    have hco' := all_one hco
    have HCO : Hid _ := And.intro hcl hco
    have cs7 := HCS.out w7 (HD6.out.trans (b7.mono HD6.out.size))
    clear HI o7 b7 oF d7 H6 hco
    go_wp2_with fail
    refine hK.out _ _ (fun _ => cs7) ?_
    clear hK KK
    refine wpAnyD_takeT 6 22 (v := ?vve0) rfl rfl (by kernel_rfl) (by kernel_rfl) (by kernel_rfl) (by kernel_rfl) (fun _ _ _ h => h) (Or.inl ⟨by rfl, ?hye0⟩) cs7 ?reste0
    case hye0 => (intro w hSw; (try dsimp only at hSw); go_simp; try with_reducible rfl)
    simp only [Act.put, List.setIfInBounds_toArray, List.set_cons_zero, List.set_cons_succ]
    refine wpAnyD_takeT 7 23 (v := ?vve1) rfl rfl (by kernel_rfl) (by kernel_rfl) (by kernel_rfl) (by kernel_rfl) (fun _ _ _ h => h) (Or.inl ⟨by rfl, ?hye1⟩) cs7 ?reste1
    case hye1 => (intro w hSw; (try dsimp only at hSw); go_simp; try with_reducible rfl)
    simp only [Act.put, List.setIfInBounds_toArray, List.set_cons_zero, List.set_cons_succ]
    refine wpAnyD_one 8 (by kernel_rfl) rfl (fun KK hK => ?_)
    rw [if_pos (show Region.wanted _ _ = true from rfl)]
    refine wp_store_row 102 _ _ rfl (w.heap.size + 1 + 1) cs.toArray rfl rfl 102 _ kR7 sC (by rw [List.size_toArray, List.size_toArray, hcl]; rfl) hco' ?_
    refine hK.out _ _ (fun h => absurd h (by decide)) ?_
    clear hK KK
    refine wpAnyD_one 9 (by kernel_rfl) rfl (fun KK hK => ?_)
    rw [if_pos (show Region.wanted _ _ = true from rfl)]
    go_wp2_with fail
    refine hK.out _ _ (fun h => absurd h (by decide)) ?_
    clear hK KK
    refine wpAnyD_done (by kernel_rfl) ?_ _
    clear cs5 cs6 cs7
    go_wp2_with fail
    refine bodyPost_ret (v := .tuple #[.agg cs.toArray, .bool (hoB (pgD K) (nPg K) ((nPg K : Nat) : Int) gen root used free)]) ?_ rfl ⟨FIN.out, cs, HCO.out.1, HCO.out.2, by rw [hW.out]⟩
    exact results_cellTmp Tryz.results62 _ _ (w.heap.size + 1 + 1) 102 cs.toArray _ rfl kF Tryz.underlying102 rfl sC rfl
end Go.Proofs.YtglbanolhhjjiaaGreatDoor

/- FreeList, in the specification: the walk. -/
namespace Go.Proofs.YtglbanolhhjjiaaGreatDoor
open Go.RowKit
set_option linter.unusedVariables false

def FlP (K : DK) (fr : Int) (w : World) (e : Ending) (w' : World) : Prop := Below w.heap.size w w' ∧ ∃ (fs own : List Int) (ok : Bool) (a : Option Addr) (c : Nat) (a2 : Option Addr) (c2 : Nat), e = .returned (.tuple #[.slice a fs.length c, .slice a2 own.length c2, .bool ok]) ∧ Own1 3 w.heap.size w' a fs.length c (on fs) ∧ Own1 3 w.heap.size w' a2 own.length c2 (on own) ∧ fs.length ≤ 65536 ∧ own.length ≤ 1024 ∧ ((flT K fr = some (fs, own) ∧ ok = true) ∨ (flT K fr = none ∧ ok = false))
theorem fl_fail {K : DK} {fr : Int} {w u : World} (hb : Below w.heap.size w u) (hn : flT K fr = none) : FlP K fr w (.returned (.tuple #[.slice (some ⟨u.heap.size, 0, none⟩) 0 0, .slice (some ⟨u.heap.size + 1, 0, none⟩) 0 0, .bool false])) ((u.alloc (.cells #[] 3)).alloc (.cells #[] 3)) := by
  have q1 : Below u.heap.size u (u.alloc (.cells #[] 3)) := (Below.refl _ _).alloc (Nat.le_refl _) _
  have q2 : Below (u.alloc (.cells #[] 3)).heap.size (u.alloc (.cells #[] 3)) ((u.alloc (.cells #[] 3)).alloc (.cells #[] 3)) := (Below.refl _ _).alloc (Nat.le_refl _) _
  have z1 : (u.alloc (.cells #[] 3)).heap.size = u.heap.size + 1 := by simp
  have hz := hb.size
  have o2 := own1_lit0 3 w.heap.size (u.alloc (.cells #[] 3)) (by omega)
  rw [z1] at o2
  exact ⟨(hb.trans (q1.mono hz)).trans (q2.mono (by omega)), [], [], false, _, 0, _, 0, rfl, (own1_lit0 3 w.heap.size u hz).below q2, o2, by simp, by simp, Or.inr ⟨hn, rfl⟩⟩
/-- Where the outer loop stands. -/
structure FI (w : World) (d : DV) (K : DK) (gv cv vb sb : Nat) (fr : Int) (fs own : List Int) (a a2 : Option Addr) (c c2 : Nat) (last id : Int) (wr : World) : Prop where
  s : FT w d K gv cv vb sb fs own a a2 c c2 wr
  ok : SeenOk own (nPg K)
  lf : fs.length ≤ 64 * own.length
  la : last = fs.getLastD 0
  eq : flR (pgD K) (nPg K + 1) fr [] [] = flR (pgD K) (nPg K + 1 - own.length) id own fs
theorem sizeVw : (Tryz.prog.info? 136).map (·.size) = some 1 := by kernel_rfl
theorem built_vw (a : Option Addr) (n c : Nat) : Tryz.prog.built 136 [(0, .slice a n c)] = some #[.slice a n c] := by kernel_rfl

set_option maxHeartbeats 8000000 in
set_option maxRecDepth 100000 in
theorem freeList_calls (d : DV) (K : DK) (gen root used fr : Int) (w : World) (h : RDisk w d K) :
    Calls Tryz.prog 66 #[dval d K, .agg (supC gen root used fr).toArray] w (FlP K fr w) := by
  have HD : Hid (∀ u, Below w.heap.size w u → RDisk u d K) := fun u b => h.below b
  obtain ⟨W1, hW1⟩ : ∃ W, W = w.alloc (Obj.cells #[.slice d.sa K.n d.sc, .slice d.pa K.m d.pc] 35) := ⟨_, rfl⟩
  obtain ⟨W2, hW2⟩ : ∃ W, W = W1.alloc (Obj.cells (supC gen root used fr).toArray 36) := ⟨_, rfl⟩
  obtain ⟨W3, hW3⟩ : ∃ W, W = W2.alloc (Obj.cells #[] 3) := ⟨_, rfl⟩
  obtain ⟨W4, hW4⟩ : ∃ W, W = W3.alloc (Obj.cells #[] 3) := ⟨_, rfl⟩
  have q1 : Below w.heap.size w W1 := by rw [hW1]; exact (Below.refl _ _).alloc (Nat.le_refl _) _
  have q2 : Below W1.heap.size W1 W2 := by rw [hW2]; exact (Below.refl _ _).alloc (Nat.le_refl _) _
  have q3 : Below W2.heap.size W2 W3 := by rw [hW3]; exact (Below.refl _ _).alloc (Nat.le_refl _) _
  have q4 : Below W3.heap.size W3 W4 := by rw [hW4]; exact (Below.refl _ _).alloc (Nat.le_refl _) _
  have z1 : W1.heap.size = w.heap.size + 1 := by rw [hW1]; simp
  have z2 : W2.heap.size = w.heap.size + 1 + 1 := by rw [hW2]; simp [z1]
  have z3 : W3.heap.size = w.heap.size + 1 + 1 + 1 := by rw [hW3]; simp [z2]
  have q34 : Below W2.heap.size W2 W4 := q3.trans (q4.mono q3.size)
  have q24 : Below W1.heap.size W1 W4 := q2.trans (q34.mono q2.size)
  have kD : Blk W4 35 w.heap.size [.slice d.sa K.n d.sc, .slice d.pa K.m d.pc] := (by rw [hW1]; exact blk_new w _ _ : Blk W1 35 w.heap.size [.slice d.sa K.n d.sc, .slice d.pa K.m d.pc]).below q24
  have kP : Blk W4 36 (w.heap.size + 1) (supC gen root used fr) := (by rw [hW2, ← z1]; exact blk_new W1 _ _ : Blk W2 36 (w.heap.size + 1) (supC gen root used fr)).below q34
  have oF4 : Own1 3 w.heap.size W4 (some ⟨w.heap.size + 1 + 1, 0, none⟩) 0 0 [] := (by rw [hW3, ← z2]; exact own1_lit0 _ _ _ (by omega) : Own1 3 w.heap.size W3 (some ⟨w.heap.size + 1 + 1, 0, none⟩) 0 0 []).below q4
  have oO4 : Own1 3 w.heap.size W4 (some ⟨w.heap.size + 1 + 1 + 1, 0, none⟩) 0 0 [] := by rw [hW4, ← z3]; exact own1_lit0 _ _ _ (by omega)
  have q14 : Below w.heap.size w W4 := q1.trans (q24.mono q1.size)
  have sD : (Tryz.prog.info? 35).map (·.size) = some (#[Value.slice d.sa K.n d.sc, Value.slice d.pa K.m d.pc] : Array Value).size := sizeDk
  have OKC := specDiskOk_calls d K W4 (h.below q14)
  have H4 : Hid _ := And.intro q14 (And.intro oF4 oO4)
  have hz4 : w.heap.size + 1 + 1 + 1 < W4.heap.size := by rw [hW4]; simp [z3]
  unfold dval at OKC ⊢
  clear q1 q2 q3 q4 z1 z2 z3 q34 q24 oF4 oO4 q14
  go_enter Tryz.func66, Tryz.ntmps66
  go_upto_region 3 with fail
  change Code.wp _ _ _ _ ((((w.alloc (Obj.cells #[.slice d.sa K.n d.sc, .slice d.pa K.m d.pc] 35)).alloc (Obj.cells (supC gen root used fr).toArray 36)).alloc (Obj.cells #[] 3)).alloc (Obj.cells #[] 3))
  rw [← hW1, ← hW2, ← hW3, ← hW4]
  clear hW1 hW2 hW3 hW4
  go_wp2_with (refine wpList_load_row rfl 35 _ rfl w.heap.size rfl 35 #[.slice d.sa K.n d.sc, .slice d.pa K.m d.pc] (0, 0) _ kD Tryz.underlying35 rfl sD ?_)
  refine OKC.mono ?_
  rintro e w5 ⟨rfl, b5⟩
  have kD5 := kD.below b5
  have kP5 := kP.below b5
  have d5 : Below w.heap.size w w5 := H4.out.1.trans (b5.mono H4.out.1.size)
  have H5 : Hid _ := And.intro d5 (And.intro (H4.out.2.1.below b5) (H4.out.2.2.below b5))
  have hz5 := b5.size
  clear OKC kD kP b5 d5 H4
  cases hok : dOkB K with
  | false =>
    have hL : Hid (flT K fr = none) := by show flT K fr = none; unfold flT; rw [hok]
    clear hok
    go_wp2_with fail
    refine bodyPost_ret (v := .tuple #[.slice (some ⟨w.heap.size + 1 + 1, 0, none⟩) 0 0, .slice (some ⟨w.heap.size + 1 + 1 + 1, 0, none⟩) 0 0, .bool false]) (by simp [results, Tryz.results66]) rfl ?_
    exact ⟨H5.out.1, [], [], false, _, 0, _, 0, rfl, H5.out.2.1, H5.out.2.2, by simp, by simp, Or.inr ⟨hL.out, rfl⟩⟩
  | true =>
    have hdo := dOk_of hok
    have PW := pgD_ok (HD.out w (Below.refl _ _)) hdo
    have hN4 := hdo.1.2.1
    have hN1 : nPg K ≤ 1024 := PW.le
    have hL : Hid (flT K fr = flR (pgD K) (nPg K + 1) fr [] []) := by show flT K fr = _; unfold flT; rw [hok]
    clear hok
    have NWC := l1Now_calls d K w5 (HD.out w5 H5.out.1) hdo
    unfold dval at NWC
    go_wp2_with (refine wpList_load_row rfl 35 _ rfl w.heap.size rfl 35 #[.slice d.sa K.n d.sc, .slice d.pa K.m d.pc] (0, 0) _ kD5 Tryz.underlying35 rfl sD ?_)
    refine NWC.mono ?_
    rintro e w6 ⟨gv, cv, rfl, b6, o6⟩
    have v6 := vrow_of (HD.out w (Below.refl _ _)) hdo o6
    have ht6 : ∃ cs, w6.heap[gv]? = some (.cells cs 56 (0, 0)) := by
      rcases o6.2 with ⟨e1, _⟩ | ⟨g1, cap1, cur1, e1, _, hh1, _⟩
      · cases e1
      · cases e1; exact ⟨_, hh1⟩
    have q7 : Below w6.heap.size w6 (w6.alloc (Obj.cells #[.slice (some ⟨gv, 0, none⟩) K.n cv] 136)) := (Below.refl _ _).alloc (Nat.le_refl _) _
    have k7 := blk_new w6 136 #[.slice (some ⟨gv, 0, none⟩) K.n cv]
    have u7 : Below w5.heap.size w5 (w6.alloc (Obj.cells #[.slice (some ⟨gv, 0, none⟩) K.n cv] 136)) := b6.trans (q7.mono b6.size)
    have v7 := v6.below q7
    have ht7 : ∃ cs, (w6.alloc (Obj.cells #[.slice (some ⟨gv, 0, none⟩) K.n cv] 136)).heap[gv]? = some (.cells cs 56 (0, 0)) := by obtain ⟨cs, hc⟩ := ht6; exact ⟨cs, (q7.block gv v6.1).trans hc⟩
    have hz6 := b6.size
    have hbv := built_vw (some ⟨gv, 0, none⟩) K.n cv
    have H7 : Hid _ := And.intro u7 (And.intro v7 (And.intro ht7 k7))
    clear NWC b6 o6 v6 q7 ht6 k7 u7 v7 ht7
    go_upto_region 6 with fail
    change Code.wp _ _ _ _ (w6.alloc (Obj.cells #[.slice (some ⟨gv, 0, none⟩) K.n cv] 136))
    generalize w6.alloc (Obj.cells #[.slice (some ⟨gv, 0, none⟩) K.n cv] 136) = W7 at *
    generalize w6.heap.size = vb at *
    have kD7 := kD5.below H7.out.1
    have kP7 := kP5.below H7.out.1
    have PGC := l2Pages_calls d K W7 hN4
    unfold dval at PGC
    have hz7 : w5.heap.size ≤ W7.heap.size := H7.out.1.size
    clear kD5 kP5 hbv
    go_wp2_with (refine wpList_load_row rfl 35 _ rfl w.heap.size rfl 35 #[.slice d.sa K.n d.sc, .slice d.pa K.m d.pc] (0, 0) _ kD7 Tryz.underlying35 rfl sD ?_)
    refine PGC.mono ?_
    rintro e w8 ⟨rfl, b8⟩
    have MK := run_madeBo (nPg K) (by omega) w8
    have q9 : Below w8.heap.size w8 (w8.alloc (.cells (madeCells #[.bool false] (nPg K)) 4)) := (Below.refl _ _).alloc (Nat.le_refl _) _
    have m9 := own_madeBo w.heap.size (nPg K) (by omega) w8 (by have := b8.size; have := H5.out.1.size; omega)
    have b89 : Below W7.heap.size W7 (w8.alloc (.cells (madeCells #[.bool false] (nPg K)) 4)) := b8.trans (q9.mono b8.size)
    have u9 : Below w5.heap.size w5 (w8.alloc (.cells (madeCells #[.bool false] (nPg K)) 4)) := H7.out.1.trans (b89.mono hz7)
    have fs9 : FT w d K gv cv vb w8.heap.size [] [] (some ⟨w.heap.size + 1 + 1, 0, none⟩) (some ⟨w.heap.size + 1 + 1 + 1, 0, none⟩) 0 0 (w8.alloc (.cells (madeCells #[.bool false] (nPg K)) 4)) :=
      ⟨H5.out.1.trans (u9.mono H5.out.1.size), H5.out.2.1.below u9, H5.out.2.2.below u9, m9, H7.out.2.1.below b89, by obtain ⟨cs, hc⟩ := H7.out.2.2.1; exact ⟨cs, (b89.block gv H7.out.2.1.1).trans hc⟩, Blk.below H7.out.2.2.2 b89, fun g e1 e2 => by simp at e1 e2; omega⟩
    have c9 : (w8.alloc (.cells (madeCells #[.bool false] (nPg K)) 4)).cell? ⟨w.heap.size + 1, 3, none⟩ = some (.int .i64 fr) := (kP7.below b89).cell 3
    have HI0 : Hid (FI w d K gv cv vb w8.heap.size fr [] [] (some ⟨w.heap.size + 1 + 1, 0, none⟩) (some ⟨w.heap.size + 1 + 1 + 1, 0, none⟩) 0 0 0 fr (w8.alloc (.cells (madeCells #[.bool false] (nPg K)) 4))) := ⟨fs9, ⟨List.nodup_nil, by simp⟩, by simp, rfl, rfl⟩
    clear PGC b8 q9 m9 b89 u9 fs9 kD7 kP7 H7 H5
    go_upto_region 9 with fail
    change Code.wp _ _ _ _ (w8.alloc (.cells (madeCells #[.bool false] (nPg K)) 4))
    generalize w8.alloc (.cells (madeCells #[.bool false] (nPg K)) 4) = W9 at *
    generalize w8.heap.size = sb at *
    clear c9 MK
    go_loopw [7, 8, 11, 12] (fun s7 s8 s11 s12 wr => ∃ (fs own : List Int) (a a2 : Option Addr) (c c2 : Nat) (last id : Int), s7 = .slice a fs.length c ∧ s8 = .slice a2 own.length c2 ∧ s11 = .int .i64 last ∧ s12 = .int .i64 id ∧ FI w d K gv cv vb sb fr fs own a a2 c c2 last id wr) (fun _ s8 _ _ _ => nPg K + 1 - slLen s8)
    case atStart => exact ⟨[], [], _, _, 0, 0, 0, fr, rfl, rfl, rfl, rfl, HI0.out⟩
    case round =>
      obtain ⟨fs, own, a, a2, c, c2, last, id, rfl, rfl, rfl, rfl, hI⟩ := hrel
      obtain ⟨wR, hwX⟩ : ∃ wX, wX = wr := ⟨_, rfl⟩
      subst hwX
      have hol := hI.ok.le
      have hfl := hI.lf
      have hwz := hI.s.b.size
      have HI : Hid _ := hI
      have cV : wR.cell? ⟨vb, 0, none⟩ = some (.slice (some ⟨gv, 0, none⟩) K.n cv) := hI.s.k.cell 0
      have VP := viewPage_calls d K id gv cv wR (HD.out wR hI.s.b) hdo hI.s.v
      clear hI
      by_cases h0 : id = 0
      · subst h0
        have hfin : Hid (flT K fr = some (fs, own)) := by show flT K fr = some (fs, own); rw [hL.out, HI.out.eq, flR_zero]
        clear VP cV
        go_wp2_with fail
        refine bodyPost_ret (v := .tuple #[.slice a fs.length c, .slice a2 own.length c2, .bool true]) (by simp [results, Tryz.results66]) rfl ?_
        exact ⟨HI.out.s.b, fs, own, true, a, c, a2, c2, rfl, HI.out.s.f, HI.out.s.o, by omega, by omega, Or.inl ⟨hfin.out, rfl⟩⟩
      have hst : Hid (flT K fr = flR (pgD K) (nPg K - own.length + 1) id own fs) := by
        show flT K fr = flR (pgD K) (nPg K - own.length + 1) id own fs
        rw [hL.out, HI.out.eq]; congr 1; omega
      have h0' : (id == 0) = false := by simp [h0]
      go_wp2_with fail
      refine VP.mono ?_
      rintro e w1 ⟨ab, cb, rfl, b1, ob1⟩
      have FS1 := HI.out.s.below b1
      have bs1 : BsT w1 ab (vL K id).length cb (vL K id) := own_typed ob1 (vL_isB (HD.out w (Below.refl _ _)) id)
      have hbl := vL_le hdo id
      have hbx : ∀ t, vL K t = (pgD K).bd t := fun _ => rfl
      have hz1 := b1.size
      have FAILQ : Hid (flOk (pgD K) own id = false → FlP K fr w (.returned (.tuple #[.slice (some ⟨w1.heap.size, 0, none⟩) 0 0, .slice (some ⟨w1.heap.size + 1, 0, none⟩) 0 0, .bool false])) ((w1.alloc (.cells #[] 3)).alloc (.cells #[] 3))) := fun hq => fl_fail FS1.b (by rw [hst.out, flR_no h0 hq])
      have hml := FS1.m
      have HF1 : Hid _ := And.intro FS1 bs1
      have HFO : Hid (flOk (pgD K) own id = true ↔ vB K id = true ∧ vK K id = 4 ∧ id ∉ own ∧ 4 ≤ (vL K id).length ∧ (vL K id).length % 4 = 0) := flOk_iff
      generalize hl : vL K id = l at bs1 hbl HFO HF1 ⊢
      generalize hkd : vK K id = kd at HFO ⊢
      have HL : Hid (vL K id = l) := hl
      clear VP cV b1 ob1 FS1 bs1 hl hkd hbx
      cases hvb : vB K id with
      | false =>
        have FAIL : Hid _ := FAILQ.out (by rw [← Bool.not_eq_true, HFO.out, hvb]; intro h; exact absurd h.1 (by decide))
        clear hml hvb
        go_wp2_with fail
        refine bodyPost_ret (v := .tuple #[.slice (some ⟨w1.heap.size, 0, none⟩) 0 0, .slice (some ⟨w1.heap.size + 1, 0, none⟩) 0 0, .bool false]) (by simp [results, Tryz.results66]) rfl FAIL.out
      | true =>
      have hid := PW.ok id (show vB K id = true from hvb)
      by_cases hk4 : kd = 4
      rotate_left
      · have hk4' : (kd == 4) = false := by simp [hk4]
        have FAIL : Hid _ := FAILQ.out (by rw [← Bool.not_eq_true, HFO.out]; intro h; exact hk4 h.2.1)
        clear hml hvb
        go_wp2_with fail
        refine bodyPost_ret (v := .tuple #[.slice (some ⟨w1.heap.size, 0, none⟩) 0 0, .slice (some ⟨w1.heap.size + 1, 0, none⟩) 0 0, .bool false]) (by simp [results, Tryz.results66]) rfl FAIL.out
      subst hk4
      obtain ⟨i, rfl⟩ : ∃ i : Nat, id = (i : Int) := ⟨id.toNat, by omega⟩
      have hiN : i < nPg K := by omega
      obtain ⟨_, e1, hsb, hsbl, ⟨curM, hcurM⟩, hc⟩ := hml.at_ (by omega)
      cases e1
      have HCM : Hid (w1.heap[sb]? = some (.cells curM 4 (0, 0))) := hcurM
      clear hcurM
      have cM := (hc i hiN).trans (congrArg some (mkB_get own (nPg K) i hiN))
      clear hc hml
      cases hcn : own.contains (i : Int) with
      | true =>
        rw [hcn] at cM
        have FAIL : Hid _ := FAILQ.out (by rw [← Bool.not_eq_true, HFO.out]; intro h; exact h.2.2.1 (List.contains_iff_mem.1 hcn))
        clear hcn hvb
        go_wp2_with fail
        refine bodyPost_ret (v := .tuple #[.slice (some ⟨w1.heap.size, 0, none⟩) 0 0, .slice (some ⟨w1.heap.size + 1, 0, none⟩) 0 0, .bool false]) (by simp [results, Tryz.results66]) rfl FAIL.out
      | false =>
      rw [hcn] at cM
      have hns : (i : Int) ∉ own := fun h => by rw [List.contains_iff_mem.2 h] at hcn; cases hcn
      by_cases h4 : l.length < 4
      · have FAIL : Hid _ := FAILQ.out (by rw [← Bool.not_eq_true, HFO.out]; intro h; omega)
        have h4' : (l.length : Int) < 4 := by omega
        clear hcn hvb
        go_wp2_with fail
        refine bodyPost_ret (v := .tuple #[.slice (some ⟨w1.heap.size, 0, none⟩) 0 0, .slice (some ⟨w1.heap.size + 1, 0, none⟩) 0 0, .bool false]) (by simp [results, Tryz.results66]) rfl FAIL.out
      have h4' : ¬ (l.length : Int) < 4 := by omega
      by_cases h5 : l.length % 4 = 0
      rotate_left
      · have FAIL : Hid _ := FAILQ.out (by rw [← Bool.not_eq_true, HFO.out]; intro h; omega)
        have h5' : ((l.length : Int) % 4 != 0) = true := by simp; omega
        have H5 : Hid _ := h5
        clear h5
        clear hcn hvb
        go_wp2_with fail
        refine bodyPost_ret (v := .tuple #[.slice (some ⟨w1.heap.size, 0, none⟩) 0 0, .slice (some ⟨w1.heap.size + 1, 0, none⟩) 0 0, .bool false]) (by simp [results, Tryz.results66]) rfl FAIL.out
      have h5' : ((l.length : Int) % 4 != 0) = false := by simp; omega
      have H5 : Hid (l.length % 4 = 0) := h5
      have hf9 := HF1.out.1.m.free i
      clear hcn h5
      go_upto_region 13 with fail
      go_upto_region 14 with fail
      have o2 := onlyB_setCell w1 sb i (.bool true)
      have kb2 : ∀ t, 4 ≠ t → KeepT t w1 (w1.setCell ⟨sb, i, none⟩ (.bool true)) := fun t ht => keepT_onlyC o2 HCM.out ht
      have oo2 : Own1 3 w.heap.size (w1.setCell ⟨sb, i, none⟩ (.bool true)) a2 own.length c2 (on own) := HF1.out.1.o.keep (kb2 _ (by decide))
      have hz2 : w.heap.size ≤ (w1.setCell ⟨sb, i, none⟩ (.bool true)).heap.size := by have := o2.size; omega
      have hzs : (w1.setCell ⟨sb, i, none⟩ (.bool true)).heap.size = w1.heap.size := by simp
      generalize hWs : w1.setCell ⟨sb, i, none⟩ (.bool true) = Ws at *
      have HWS : Hid (w1.setCell ⟨sb, i, none⟩ (.bool true) = Ws ∧ Ws.heap.size = w1.heap.size) := ⟨hWs, hzs⟩
      clear hzs hWs
      go_upto_region 15 with (first | (at_builtin; refine wpList_app1L rfl _ _ elInt rfl w.heap.size a2 own.length c2 (on own) rfl oo2 (.int .i64 (i : Nat)) rfl rfl (by omega) (by omega) hz2 ?_; intro g2 c3 w2 o3 b3 gr3 at3) | fail)
      rw [HWS.out.2] at at3
      have FS2 := HF1.out.1.appO hiN o3 (by rw [HWS.out.1]; exact gr3) at3
      have q3 : Below Ws.heap.size Ws (Ws.alloc (.cells #[.int .i64 (i : Nat)] 3)) := (Below.refl _ _).alloc (Nat.le_refl _) _
      have bs2 := HF1.out.2.keep (((kb2 _ (by decide)).trans (keepT_below q3)).trans (keepT_grown (own_below oo2 q3) gr3 (by decide)))
      obtain ⟨bb, off, rfl, _, _⟩ := bs2.bs.at_ (by have := bs2.bs.len_eq; omega)
      have hcb := bs2.bs.le
      have hcm := bs2.bs.le'
      unfold maxLen at hcm
      have hok2 : SeenOk (own ++ [(i : Int)]) (nPg K) := HI.out.ok.snoc (by omega) (by omega) hns
      have hsl := hok2.le
      rw [List.length_append, List.length_singleton] at hsl
      have HFOK : Hid (flOk (pgD K) own (i : Int) = true) := HFO.out.2 ⟨hvb, True.intro, hns, by omega, H5.out⟩
      have H2 : Hid _ := And.intro FS2 (And.intro bs2 hok2)
      clear o2 kb2 oo2 o3 b3 gr3 at3 FS2 q3 bs2 hok2 HF1 FAILQ HFO cM hvb hf9 HWS
      go_upto_region 16 with fail
      go_loopw [7, 11, 16] (fun s7 s11 s16 wr => ∃ (j k : Nat) (fs' : List Int) (a' : Option Addr) (c' : Nat) (last' : Int), s7 = .slice a' fs'.length c' ∧ s11 = .int .i64 last' ∧ s16 = .int .i64 (j : Nat) ∧ j = 4 * k ∧ 1 ≤ k ∧ j ≤ l.length ∧ FT w d K gv cv vb sb fs' (own ++ [(i : Int)]) a' (some ⟨g2, 0, none⟩) c' c3 wr ∧ BsT wr (some ⟨bb, off, none⟩) l.length cb l ∧ fs'.length + 1 = fs.length + k ∧ last' = fs'.getLastD 0 ∧ frA (idsB l 1) fs = frA (idsB l k) fs') (fun _ _ s _ => l.length - (intOf s).toNat)
      case atStart => exact ⟨4, 1, fs, a, c, last, rfl, rfl, rfl, rfl, by omega, by omega, H2.out.1, H2.out.2.1, rfl, HI.out.la, rfl⟩
      case round =>
        obtain ⟨j, k, fs', a', c', last', rfl, rfl, rfl, hj, hk1, hjl, hS, hB, hfs, hla, hfr⟩ := hrel
        obtain ⟨wI, hwX⟩ : ∃ wX, wX = wr := ⟨_, rfl⟩
        subst hwX
        have hzI := hS.b.size
        have HS : Hid _ := And.intro hS (And.intro hB (And.intro hla hfr))
        have HJ : Hid (j = 4 * k) := hj
        have HFS : Hid _ := hfs
        by_cases hlt : j < l.length
        · have hlt' : (j : Int) < (l.length : Int) := by omega
          have h5j := H5.out
          have hj4 : j + 4 ≤ l.length := by omega
          have LW := l2Low_calls (some ⟨bb, off + j, none⟩) 4 (cb - j) ((l.drop j).take 4) wI (hB.bs.piece j 4 hj4 (cb - j) (by omega) (by unfold maxLen; omega)) (by omega)
          rw [show low ((l.drop j).take 4) = idAt l k by rw [hj]; rfl] at LW
          have HCONS : Hid (idsB l k = idAt l k :: idsB l (k + 1)) := idsB_cons (by omega)
          have hcj : ¬ cb = j := by omega
          have RF := hS.f
          have hfl2 : fs'.length ≤ 65536 := by omega
          clear hj hS hB hla hfr h5j hfs
          generalize idAt l k = x at *
          go_upto_region 19 with fail
          refine LW.mono ?_
          rintro e u ⟨rfl, hu⟩
          obtain rfl := hu.symm
          clear hu LW
          go_upto_region 19 with fail
          rcases Nat.eq_zero_or_pos fs'.length with hf0 | hf0
          · have hfn : fs' = [] := List.eq_nil_of_length_eq_zero hf0
            subst hfn
            have RF : Own1 3 w.heap.size wI a' 0 c' (on []) := RF
            have HF8 : Hid (frA (idsB l 1) fs = frA (idsB l (k + 1)) ([] ++ [x])) := by
              show frA (idsB l 1) fs = frA (idsB l (k + 1)) ([] ++ [x])
              rw [HS.out.2.2.2, HCONS.out, frA, if_neg (fun h => h.1 rfl)]
            clear hf0 hfl2
            go_wp2_with (at_builtin; refine wpList_app1L rfl _ _ elInt rfl w.heap.size a' 0 c' (on []) rfl RF (.int .i64 x) rfl rfl (by omega) (by omega) hzI ?_)
            intro g8 c8 w8 o8 b8 gr8 at8
            have F8 := HS.out.1.appF o8 gr8 at8
            have q8 : Below wI.heap.size wI (wI.alloc (.cells #[.int .i64 x] 3)) := (Below.refl _ _).alloc (Nat.le_refl _) _
            have B8 := HS.out.2.1.keep ((keepT_below q8).trans (keepT_grown (own_below RF q8) gr8 (by decide)))
            have FIN : Hid _ := And.intro F8 B8
            clear o8 b8 gr8 at8 q8 F8 B8 RF
            go_wp2_with fail
            go_roundw
            case rel => have hj9 := HJ.out; have hf9 := HFS.out; exact ⟨j + 4, k + 1, [] ++ [x], _, _, x, by rw [List.length_append]; rfl, rfl, by go_num, by omega, by omega, by omega, FIN.out.1, FIN.out.2, by rw [List.length_append, List.length_singleton]; omega, by simp, HF8.out⟩
            case measure => simp [intOf]; omega
          · have hf0' : (0 : Int) < (fs'.length : Int) := by omega
            have hne : fs' ≠ [] := fun e => by rw [e] at hf0; exact absurd hf0 (Nat.lt_irrefl _)
            by_cases hxl : x ≤ last'
            · have FAIL : Hid _ := fl_fail (K := K) (fr := fr) HS.out.1.b (by
                have hp : fs' ≠ [] ∧ x ≤ fs'.getLastD 0 := ⟨hne, by rw [← HS.out.2.2.1]; exact hxl⟩
                rw [hst.out, flR_yes h0 HFOK.out, show (pgD K).bd (i : Int) = l from HL.out, HS.out.2.2.2, HCONS.out, frA, if_pos hp]; rfl)
              clear hf0 hne
              go_wp2_with fail
              refine bodyPost_ret (v := .tuple #[.slice (some ⟨wI.heap.size, 0, none⟩) 0 0, .slice (some ⟨wI.heap.size + 1, 0, none⟩) 0 0, .bool false]) (by simp [results, Tryz.results66]) rfl FAIL.out
            · have HF8 : Hid (frA (idsB l 1) fs = frA (idsB l (k + 1)) (fs' ++ [x])) := by
                show frA (idsB l 1) fs = frA (idsB l (k + 1)) (fs' ++ [x])
                rw [HS.out.2.2.2, HCONS.out, frA, if_neg (fun h => by have := h.2; rw [← HS.out.2.2.1] at this; omega)]
              clear hf0 hne
              go_wp2_with (at_builtin; refine wpList_app1L rfl _ _ elInt rfl w.heap.size a' fs'.length c' (on fs') rfl RF (.int .i64 x) rfl rfl (by omega) (by omega) hzI ?_)
              intro g8 c8 w8 o8 b8 gr8 at8
              have F8 := HS.out.1.appF o8 gr8 at8
              have q8 : Below wI.heap.size wI (wI.alloc (.cells #[.int .i64 x] 3)) := (Below.refl _ _).alloc (Nat.le_refl _) _
              have B8 := HS.out.2.1.keep ((keepT_below q8).trans (keepT_grown (own_below RF q8) gr8 (by decide)))
              have FIN : Hid _ := And.intro F8 B8
              clear o8 b8 gr8 at8 q8 F8 B8 RF
              go_wp2_with fail
              go_roundw
              case rel => have hj9 := HJ.out; have hf9 := HFS.out; exact ⟨j + 4, k + 1, fs' ++ [x], _, _, x, by rw [List.length_append]; rfl, rfl, by go_num, by omega, by omega, by omega, FIN.out.1, FIN.out.2, by rw [List.length_append, List.length_singleton]; omega, by simp, HF8.out⟩
              case measure => simp [intOf]; omega
        · have hje : j = l.length := by omega
          have hnl : ¬ (j : Int) < (l.length : Int) := by omega
          have LW := l2Low_calls (some ⟨bb, off, none⟩) 4 cb (l.take 4) wI (by have := hB.bs.piece 0 4 (by omega) cb (by omega) hB.bs.le'; simpa using this) (by omega)
          rw [show low (l.take 4) = idAt l 0 by simp [idAt]] at LW
          have FIN : Hid (FI w d K gv cv vb sb fr fs' (own ++ [(i : Int)]) a' (some ⟨g2, 0, none⟩) c' c3 last' (idAt l 0) wI) := by
            refine ⟨hS, H2.out.2.2, by rw [List.length_append, List.length_singleton]; omega, hla, ?_⟩
            rw [← hL.out, hst.out, flR_yes h0 HFOK.out, show (pgD K).bd (i : Int) = l from HL.out, hfr, idsB_nil (by omega), frA]
            show flR (pgD K) (nPg K - own.length) _ _ _ = _
            congr 1
            rw [List.length_append, List.length_singleton]
            omega
          clear hje hj hS hB hla hfr HJ hfs
          go_wp2_with fail
          refine LW.mono ?_
          rintro e u ⟨rfl, hu⟩
          obtain rfl := hu.symm
          clear hu LW
          go_wp2_with fail
          go_roundw
          case rel => exact ⟨fs', own ++ [(i : Int)], a', some ⟨g2, 0, none⟩, c', c3, last', idAt l 0, rfl, by rw [List.length_append]; rfl, rfl, rfl, FIN.out⟩
          case measure => simp only [slLen]; omega
end Go.Proofs.YtglbanolhhjjiaaGreatDoor

/- Whole, in the specification. -/
namespace Go.Proofs.YtglbanolhhjjiaaGreatDoor
open Go.RowKit
set_option linter.unusedVariables false

/-- Is all whole, as the specification says it. -/
noncomputable def whS2 (K : DK) (root fr : Int) (M : Nat) : Bool := match flT K fr with | some p => tpB K root && mrk M (tpL K root) p.1 p.2 | none => false
noncomputable def whS (K : DK) (gen root used fr : Int) : Bool := dOkB K && supOk gen root used fr && decide (used ≤ ((nPg K : Nat) : Int)) && whS2 K root fr used.toNat

set_option maxHeartbeats 8000000 in
set_option maxRecDepth 100000 in
theorem specWhole_calls (d : DV) (K : DK) (gen root used fr : Int) (w : World) (h : RDisk w d K) :
    Calls Tryz.prog 28 #[dval d K, .agg (supC gen root used fr).toArray] w fun e w' => e = .returned (.bool (whS K gen root used fr)) ∧ Below w.heap.size w w' := by
  obtain ⟨W1, hW1⟩ : ∃ W, W = w.alloc (Obj.cells #[.slice d.sa K.n d.sc, .slice d.pa K.m d.pc] 35) := ⟨_, rfl⟩
  obtain ⟨W2, hW2⟩ : ∃ W, W = W1.alloc (Obj.cells (supC gen root used fr).toArray 36) := ⟨_, rfl⟩
  have q1 : Below w.heap.size w W1 := by rw [hW1]; exact (Below.refl _ _).alloc (Nat.le_refl _) _
  have q2 : Below W1.heap.size W1 W2 := by rw [hW2]; exact (Below.refl _ _).alloc (Nat.le_refl _) _
  have z1 : W1.heap.size = w.heap.size + 1 := by rw [hW1]; simp
  have kD : Blk W2 35 w.heap.size [.slice d.sa K.n d.sc, .slice d.pa K.m d.pc] := (by rw [hW1]; exact blk_new w _ _ : Blk W1 35 w.heap.size [.slice d.sa K.n d.sc, .slice d.pa K.m d.pc]).below q2
  have kP : Blk W2 36 (w.heap.size + 1) (supC gen root used fr) := by rw [hW2, ← z1]; exact blk_new W1 _ _
  have q12 : Below w.heap.size w W2 := q1.trans (q2.mono q1.size)
  have sD : (Tryz.prog.info? 35).map (·.size) = some (#[Value.slice d.sa K.n d.sc, Value.slice d.pa K.m d.pc] : Array Value).size := sizeDk
  have sP : (Tryz.prog.info? 36).map (·.size) = some (supC gen root used fr).toArray.size := sizeSu
  have HR : Hid (∀ u, Below W2.heap.size W2 u → RDisk u d K) := fun u hu => h.below (q12.trans (hu.mono q12.size))
  have HB : Hid (∀ u, Below W2.heap.size W2 u → Below w.heap.size w u) := fun u hu => q12.trans (hu.mono q12.size)
  have HCS : Hid (∀ u, Below W2.heap.size W2 u → u.cell? ⟨w.heap.size, 0, none⟩ = some (.slice d.sa K.n d.sc) ∧ u.cell? ⟨w.heap.size, 1, none⟩ = some (.slice d.pa K.m d.pc) ∧ u.cell? ⟨w.heap.size + 1, 0, none⟩ = some (.int .i64 gen) ∧ u.cell? ⟨w.heap.size + 1, 1, none⟩ = some (.int .i64 root) ∧ u.cell? ⟨w.heap.size + 1, 2, none⟩ = some (.int .i64 used) ∧ u.cell? ⟨w.heap.size + 1, 3, none⟩ = some (.int .i64 fr)) := fun u hu => ⟨Blk.cell (kD.below hu) 0, Blk.cell (kD.below hu) 1, Blk.cell (kP.below hu) 0, Blk.cell (kP.below hu) 1, Blk.cell (kP.below hu) 2, Blk.cell (kP.below hu) 3⟩
  have HK : Hid _ := And.intro kD kP
  have hz2 : w.heap.size + 1 < W2.heap.size := kP.lt
  have dd : Below W2.heap.size W2 W2.drew := ⟨rfl, rfl, rfl, Nat.le_refl _, fun _ _ => rfl⟩
  have cs := HCS.out W2.drew dd
  have C1 := specDiskOk_calls d K W2.drew (HR.out _ dd)
  unfold dval at C1 ⊢
  clear q1 q2 z1 q12 kD kP
  generalize hres : whS K gen root used fr = res at *
  have HRES : Hid _ := hres
  clear hres
  go_enter Tryz.func28, Tryz.ntmps28
  go_upto_region 1 with fail
  change Code.wp _ _ _ _ ((w.alloc (Obj.cells #[.slice d.sa K.n d.sc, .slice d.pa K.m d.pc] 35)).alloc (Obj.cells (supC gen root used fr).toArray 36))
  rw [← hW1, ← hW2]
  clear hW1 hW2
  refine wp_regionD (fun u => u.cell? ⟨w.heap.size, 0, none⟩ = some (.slice d.sa K.n d.sc) ∧ u.cell? ⟨w.heap.size, 1, none⟩ = some (.slice d.pa K.m d.pc) ∧ u.cell? ⟨w.heap.size + 1, 0, none⟩ = some (.int .i64 gen) ∧ u.cell? ⟨w.heap.size + 1, 1, none⟩ = some (.int .i64 root) ∧ u.cell? ⟨w.heap.size + 1, 2, none⟩ = some (.int .i64 used) ∧ u.cell? ⟨w.heap.size + 1, 3, none⟩ = some (.int .i64 fr)) (fun _ => false) (by kernel_rfl) ?_
  refine wpAnyD_takeT 0 11 (v := ?vva0) rfl rfl (by kernel_rfl) (by kernel_rfl) (by kernel_rfl) (by kernel_rfl) (fun _ _ _ h => h) (Or.inl ⟨by rfl, ?hya0⟩) cs ?resta0
  case hya0 => (intro w hSw; (try dsimp only at hSw); go_simp; try with_reducible rfl)
  simp only [Act.put, List.setIfInBounds_toArray, List.set_cons_zero, List.set_cons_succ]
  refine wpAnyD_one 1 (by kernel_rfl) rfl (fun KK hK => ?_)
  rw [if_pos (show Region.wanted _ _ = true from rfl)]
  go_wp2_with fail
  refine C1.mono ?_
  rintro e w3 ⟨rfl, b3⟩
  have d3 : Below W2.heap.size W2 w3 := dd.trans (b3.mono dd.size)
  have cs_w3 := HCS.out w3 d3
  clear C1
  go_wp2_with fail
  refine hK.out _ _ (fun _ => cs_w3) ?_
  clear hK KK
  have C2 := l2ok_calls gen root used fr w3
  cases hok : dOkB K with
  | false =>
    have hF : Hid (res = false) := by show res = false; rw [← HRES.out]; unfold whS; rw [hok]; rfl
    clear C2
    refine wpAnyD_takeT 2 13 (v := ?vvb0) rfl rfl (by kernel_rfl) (by kernel_rfl) (by kernel_rfl) (by kernel_rfl) (fun _ _ _ h => h) (Or.inl ⟨by rfl, ?hyb0⟩) cs_w3 ?restb0
    case hyb0 => (intro w hSw; (try dsimp only at hSw); go_simp; try with_reducible rfl)
    simp only [Act.put, List.setIfInBounds_toArray, List.set_cons_zero, List.set_cons_succ]
    refine wpAnyD_takeT 3 14 (v := ?vvb1) rfl rfl (by kernel_rfl) (by kernel_rfl) (by kernel_rfl) (by kernel_rfl) (fun _ _ _ h => h) (Or.inl ⟨by rfl, ?hyb1⟩) cs_w3 ?restb1
    case hyb1 => (intro w hSw; (try dsimp only at hSw); go_simp; try with_reducible rfl)
    simp only [Act.put, List.setIfInBounds_toArray, List.set_cons_zero, List.set_cons_succ]
    refine wpAnyD_takeT 4 15 (v := undef) rfl rfl (by kernel_rfl) (by kernel_rfl) (by kernel_rfl) (by kernel_rfl) (fun _ _ _ h => h) (Or.inr ⟨by rfl, rfl⟩) cs_w3 ?_
    simp only [Act.put, List.setIfInBounds_toArray, List.set_cons_zero, List.set_cons_succ]
    refine wpAnyD_takeT 5 16 (v := undef) rfl rfl (by kernel_rfl) (by kernel_rfl) (by kernel_rfl) (by kernel_rfl) (fun _ _ _ h => h) (Or.inr ⟨by rfl, rfl⟩) cs_w3 ?_
    simp only [Act.put, List.setIfInBounds_toArray, List.set_cons_zero, List.set_cons_succ]
    refine wpAnyD_takeT 6 17 (v := undef) rfl rfl (by kernel_rfl) (by kernel_rfl) (by kernel_rfl) (by kernel_rfl) (fun _ _ _ h => h) (Or.inr ⟨by rfl, rfl⟩) cs_w3 ?_
    simp only [Act.put, List.setIfInBounds_toArray, List.set_cons_zero, List.set_cons_succ]
    refine wpAnyD_takeT 7 18 (v := ?vvb2) rfl rfl (by kernel_rfl) (by kernel_rfl) (by kernel_rfl) (by kernel_rfl) (fun _ _ _ h => h) (Or.inl ⟨by rfl, ?hyb2⟩) cs_w3 ?restb2
    case hyb2 => (intro w hSw; (try dsimp only at hSw); go_simp; try with_reducible rfl)
    simp only [Act.put, List.setIfInBounds_toArray, List.set_cons_zero, List.set_cons_succ]
    refine wpAnyD_takeT 8 19 (v := ?vvb3) rfl rfl (by kernel_rfl) (by kernel_rfl) (by kernel_rfl) (by kernel_rfl) (fun _ _ _ h => h) (Or.inl ⟨by rfl, ?hyb3⟩) cs_w3 ?restb3
    case hyb3 => (intro w hSw; (try dsimp only at hSw); go_simp; try with_reducible rfl)
    simp only [Act.put, List.setIfInBounds_toArray, List.set_cons_zero, List.set_cons_succ]
    refine wpAnyD_takeT 9 20 (v := undef) rfl rfl (by kernel_rfl) (by kernel_rfl) (by kernel_rfl) (by kernel_rfl) (fun _ _ _ h => h) (Or.inr ⟨by rfl, rfl⟩) cs_w3 ?_
    simp only [Act.put, List.setIfInBounds_toArray, List.set_cons_zero, List.set_cons_succ]
    refine wpAnyD_takeT 10 21 (v := undef) rfl rfl (by kernel_rfl) (by kernel_rfl) (by kernel_rfl) (by kernel_rfl) (fun _ _ _ h => h) (Or.inr ⟨by rfl, rfl⟩) cs_w3 ?_
    simp only [Act.put, List.setIfInBounds_toArray, List.set_cons_zero, List.set_cons_succ]
    refine wpAnyD_takeT 11 22 (v := undef) rfl rfl (by kernel_rfl) (by kernel_rfl) (by kernel_rfl) (by kernel_rfl) (fun _ _ _ h => h) (Or.inr ⟨by rfl, rfl⟩) cs_w3 ?_
    simp only [Act.put, List.setIfInBounds_toArray, List.set_cons_zero, List.set_cons_succ]
    refine wpAnyD_takeT 12 23 (v := undef) rfl rfl (by kernel_rfl) (by kernel_rfl) (by kernel_rfl) (by kernel_rfl) (fun _ _ _ h => h) (Or.inr ⟨by rfl, rfl⟩) cs_w3 ?_
    simp only [Act.put, List.setIfInBounds_toArray, List.set_cons_zero, List.set_cons_succ]
    refine wpAnyD_takeT 13 24 (v := undef) rfl rfl (by kernel_rfl) (by kernel_rfl) (by kernel_rfl) (by kernel_rfl) (fun _ _ _ h => h) (Or.inr ⟨by rfl, rfl⟩) cs_w3 ?_
    simp only [Act.put, List.setIfInBounds_toArray, List.set_cons_zero, List.set_cons_succ]
    refine wpAnyD_takeT 14 25 (v := ?vvb4) rfl rfl (by kernel_rfl) (by kernel_rfl) (by kernel_rfl) (by kernel_rfl) (fun _ _ _ h => h) (Or.inl ⟨by rfl, ?hyb4⟩) cs_w3 ?restb4
    case hyb4 => (intro w hSw; (try dsimp only at hSw); go_simp; try with_reducible rfl)
    simp only [Act.put, List.setIfInBounds_toArray, List.set_cons_zero, List.set_cons_succ]
    refine wpAnyD_done (by kernel_rfl) ?_ _
    go_wp2_with fail
    go_ret
    exact ⟨by rw [hF.out]; rfl, HB.out _ d3⟩
  | true =>
  have hdo := dOk_of hok
  refine wpAnyD_takeT 2 13 (v := ?vvc0) rfl rfl (by kernel_rfl) (by kernel_rfl) (by kernel_rfl) (by kernel_rfl) (fun _ _ _ h => h) (Or.inl ⟨by rfl, ?hyc0⟩) cs_w3 ?restc0
  case hyc0 => (intro w hSw; (try dsimp only at hSw); go_simp; try with_reducible rfl)
  simp only [Act.put, List.setIfInBounds_toArray, List.set_cons_zero, List.set_cons_succ]
  refine wpAnyD_takeT 3 14 (v := ?vvc1) rfl rfl (by kernel_rfl) (by kernel_rfl) (by kernel_rfl) (by kernel_rfl) (fun _ _ _ h => h) (Or.inl ⟨by rfl, ?hyc1⟩) cs_w3 ?restc1
  case hyc1 => (intro w hSw; (try dsimp only at hSw); go_simp; try with_reducible rfl)
  simp only [Act.put, List.setIfInBounds_toArray, List.set_cons_zero, List.set_cons_succ]
  refine wpAnyD_takeT 4 15 (v := ?vvc2) rfl rfl (by kernel_rfl) (by kernel_rfl) (by kernel_rfl) (by kernel_rfl) (fun _ _ _ h => h) (Or.inl ⟨by rfl, ?hyc2⟩) cs_w3 ?restc2
  case hyc2 => (intro w hSw; (try dsimp only at hSw); go_simp; try with_reducible rfl)
  simp only [Act.put, List.setIfInBounds_toArray, List.set_cons_zero, List.set_cons_succ]
  refine wpAnyD_one 5 (by kernel_rfl) rfl (fun KK hK => ?_)
  rw [if_pos (show Region.wanted _ _ = true from rfl)]
  go_wp2_with fail
  refine C2.mono ?_
  rintro e w4 ⟨rfl, b4⟩
  have d4 : Below W2.heap.size W2 w4 := d3.trans (b4.mono d3.size)
  have cs_w4 := HCS.out w4 d4
  clear C2
  go_wp2_with fail
  refine hK.out _ _ (fun _ => cs_w4) ?_
  clear hK KK
  cases hso : supOk gen root used fr with
  | false =>
    have hF : Hid (res = false) := by show res = false; rw [← HRES.out]; unfold whS; rw [hok, hso]; rfl
    refine wpAnyD_takeT 6 17 (v := ?vvd0) rfl rfl (by kernel_rfl) (by kernel_rfl) (by kernel_rfl) (by kernel_rfl) (fun _ _ _ h => h) (Or.inl ⟨by rfl, ?hyd0⟩) cs_w4 ?restd0
    case hyd0 => (intro w hSw; (try dsimp only at hSw); go_simp; try with_reducible rfl)
    simp only [Act.put, List.setIfInBounds_toArray, List.set_cons_zero, List.set_cons_succ]
    refine wpAnyD_takeT 7 18 (v := ?vvd1) rfl rfl (by kernel_rfl) (by kernel_rfl) (by kernel_rfl) (by kernel_rfl) (fun _ _ _ h => h) (Or.inl ⟨by rfl, ?hyd1⟩) cs_w4 ?restd1
    case hyd1 => (intro w hSw; (try dsimp only at hSw); go_simp; try with_reducible rfl)
    simp only [Act.put, List.setIfInBounds_toArray, List.set_cons_zero, List.set_cons_succ]
    refine wpAnyD_takeT 8 19 (v := ?vvd2) rfl rfl (by kernel_rfl) (by kernel_rfl) (by kernel_rfl) (by kernel_rfl) (fun _ _ _ h => h) (Or.inl ⟨by rfl, ?hyd2⟩) cs_w4 ?restd2
    case hyd2 => (intro w hSw; (try dsimp only at hSw); go_simp; try with_reducible rfl)
    simp only [Act.put, List.setIfInBounds_toArray, List.set_cons_zero, List.set_cons_succ]
    refine wpAnyD_takeT 9 20 (v := undef) rfl rfl (by kernel_rfl) (by kernel_rfl) (by kernel_rfl) (by kernel_rfl) (fun _ _ _ h => h) (Or.inr ⟨by rfl, rfl⟩) cs_w4 ?_
    simp only [Act.put, List.setIfInBounds_toArray, List.set_cons_zero, List.set_cons_succ]
    refine wpAnyD_takeT 10 21 (v := undef) rfl rfl (by kernel_rfl) (by kernel_rfl) (by kernel_rfl) (by kernel_rfl) (fun _ _ _ h => h) (Or.inr ⟨by rfl, rfl⟩) cs_w4 ?_
    simp only [Act.put, List.setIfInBounds_toArray, List.set_cons_zero, List.set_cons_succ]
    refine wpAnyD_takeT 11 22 (v := undef) rfl rfl (by kernel_rfl) (by kernel_rfl) (by kernel_rfl) (by kernel_rfl) (fun _ _ _ h => h) (Or.inr ⟨by rfl, rfl⟩) cs_w4 ?_
    simp only [Act.put, List.setIfInBounds_toArray, List.set_cons_zero, List.set_cons_succ]
    refine wpAnyD_takeT 12 23 (v := undef) rfl rfl (by kernel_rfl) (by kernel_rfl) (by kernel_rfl) (by kernel_rfl) (fun _ _ _ h => h) (Or.inr ⟨by rfl, rfl⟩) cs_w4 ?_
    simp only [Act.put, List.setIfInBounds_toArray, List.set_cons_zero, List.set_cons_succ]
    refine wpAnyD_takeT 13 24 (v := undef) rfl rfl (by kernel_rfl) (by kernel_rfl) (by kernel_rfl) (by kernel_rfl) (fun _ _ _ h => h) (Or.inr ⟨by rfl, rfl⟩) cs_w4 ?_
    simp only [Act.put, List.setIfInBounds_toArray, List.set_cons_zero, List.set_cons_succ]
    refine wpAnyD_takeT 14 25 (v := ?vvd3) rfl rfl (by kernel_rfl) (by kernel_rfl) (by kernel_rfl) (by kernel_rfl) (fun _ _ _ h => h) (Or.inl ⟨by rfl, ?hyd3⟩) cs_w4 ?restd3
    case hyd3 => (intro w hSw; (try dsimp only at hSw); go_simp; try with_reducible rfl)
    simp only [Act.put, List.setIfInBounds_toArray, List.set_cons_zero, List.set_cons_succ]
    refine wpAnyD_done (by kernel_rfl) ?_ _
    go_wp2_with fail
    go_ret
    exact ⟨by rw [hF.out]; rfl, HB.out _ d4⟩
  | true =>
  have hN4 := hdo.1.2.1
  have C3 := l2Pages_calls d K w4 hN4
  unfold dval at C3
  refine wpAnyD_takeT 6 17 (v := ?vve0) rfl rfl (by kernel_rfl) (by kernel_rfl) (by kernel_rfl) (by kernel_rfl) (fun _ _ _ h => h) (Or.inl ⟨by rfl, ?hye0⟩) cs_w4 ?reste0
  case hye0 => (intro w hSw; (try dsimp only at hSw); go_simp; try with_reducible rfl)
  simp only [Act.put, List.setIfInBounds_toArray, List.set_cons_zero, List.set_cons_succ]
  refine wpAnyD_takeT 7 18 (v := ?vve1) rfl rfl (by kernel_rfl) (by kernel_rfl) (by kernel_rfl) (by kernel_rfl) (fun _ _ _ h => h) (Or.inl ⟨by rfl, ?hye1⟩) cs_w4 ?reste1
  case hye1 => (intro w hSw; (try dsimp only at hSw); go_simp; try with_reducible rfl)
  simp only [Act.put, List.setIfInBounds_toArray, List.set_cons_zero, List.set_cons_succ]
  refine wpAnyD_takeT 8 19 (v := ?vve2) rfl rfl (by kernel_rfl) (by kernel_rfl) (by kernel_rfl) (by kernel_rfl) (fun _ _ _ h => h) (Or.inl ⟨by rfl, ?hye2⟩) cs_w4 ?reste2
  case hye2 => (intro w hSw; (try dsimp only at hSw); go_simp; try with_reducible rfl)
  simp only [Act.put, List.setIfInBounds_toArray, List.set_cons_zero, List.set_cons_succ]
  refine wpAnyD_takeT 9 20 (v := ?vve3) rfl rfl (by kernel_rfl) (by kernel_rfl) (by kernel_rfl) (by kernel_rfl) (fun _ _ _ h => h) (Or.inl ⟨by rfl, ?hye3⟩) cs_w4 ?reste3
  case hye3 => (intro w hSw; (try dsimp only at hSw); go_simp; try with_reducible rfl)
  simp only [Act.put, List.setIfInBounds_toArray, List.set_cons_zero, List.set_cons_succ]
  refine wpAnyD_takeT 10 21 (v := ?vve4) rfl rfl (by kernel_rfl) (by kernel_rfl) (by kernel_rfl) (by kernel_rfl) (fun _ _ _ h => h) (Or.inl ⟨by rfl, ?hye4⟩) cs_w4 ?reste4
  case hye4 => (intro w hSw; (try dsimp only at hSw); go_simp; try with_reducible rfl)
  simp only [Act.put, List.setIfInBounds_toArray, List.set_cons_zero, List.set_cons_succ]
  refine wpAnyD_takeT 11 22 (v := ?vve5) rfl rfl (by kernel_rfl) (by kernel_rfl) (by kernel_rfl) (by kernel_rfl) (fun _ _ _ h => h) (Or.inl ⟨by rfl, ?hye5⟩) cs_w4 ?reste5
  case hye5 => (intro w hSw; (try dsimp only at hSw); go_simp; try with_reducible rfl)
  simp only [Act.put, List.setIfInBounds_toArray, List.set_cons_zero, List.set_cons_succ]
  refine wpAnyD_one 12 (by kernel_rfl) rfl (fun KK hK => ?_)
  rw [if_pos (show Region.wanted _ _ = true from rfl)]
  go_wp2_with fail
  refine C3.mono ?_
  rintro e w5 ⟨rfl, b5⟩
  have d5 : Below W2.heap.size W2 w5 := d4.trans (b5.mono d4.size)
  have cs_w5 := HCS.out w5 d5
  clear C3
  go_wp2_with fail
  refine hK.out _ _ (fun _ => cs_w5) ?_
  clear hK KK
  by_cases hup : used ≤ ((nPg K : Nat) : Int)
  rotate_left
  · have hup' : ((nPg K : Nat) : Int) < used := by omega
    have hF : Hid (res = false) := by show res = false; rw [← HRES.out]; unfold whS; rw [hok, hso, decide_eq_false hup]; rfl
    clear hup
    refine wpAnyD_takeT 13 24 (v := ?vvf0) rfl rfl (by kernel_rfl) (by kernel_rfl) (by kernel_rfl) (by kernel_rfl) (fun _ _ _ h => h) (Or.inl ⟨by rfl, ?hyf0⟩) cs_w5 ?restf0
    case hyf0 => (intro w hSw; (try dsimp only at hSw); go_simp; try with_reducible rfl)
    simp only [Act.put, List.setIfInBounds_toArray, List.set_cons_zero, List.set_cons_succ]
    refine wpAnyD_takeT 14 25 (v := ?vvf1) rfl rfl (by kernel_rfl) (by kernel_rfl) (by kernel_rfl) (by kernel_rfl) (fun _ _ _ h => h) (Or.inl ⟨by rfl, ?hyf1⟩) cs_w5 ?restf1
    case hyf1 => (intro w hSw; (try dsimp only at hSw); go_simp; try with_reducible rfl)
    simp only [Act.put, List.setIfInBounds_toArray, List.set_cons_zero, List.set_cons_succ]
    refine wpAnyD_done (by kernel_rfl) ?_ _
    go_wp2_with fail
    go_ret
    exact ⟨by rw [hF.out]; rfl, HB.out _ d5⟩
  have hup' : ¬ ((nPg K : Nat) : Int) < used := by omega
  refine wpAnyD_takeT 13 24 (v := ?vvg0) rfl rfl (by kernel_rfl) (by kernel_rfl) (by kernel_rfl) (by kernel_rfl) (fun _ _ _ h => h) (Or.inl ⟨by rfl, ?hyg0⟩) cs_w5 ?restg0
  case hyg0 => (intro w hSw; (try dsimp only at hSw); go_simp; try with_reducible rfl)
  simp only [Act.put, List.setIfInBounds_toArray, List.set_cons_zero, List.set_cons_succ]
  refine wpAnyD_takeT 14 25 (v := ?vvg1) rfl rfl (by kernel_rfl) (by kernel_rfl) (by kernel_rfl) (by kernel_rfl) (fun _ _ _ h => h) (Or.inl ⟨by rfl, ?hyg1⟩) cs_w5 ?restg1
  case hyg1 => (intro w hSw; (try dsimp only at hSw); go_simp; try with_reducible rfl)
  simp only [Act.put, List.setIfInBounds_toArray, List.set_cons_zero, List.set_cons_succ]
  refine wpAnyD_done (by kernel_rfl) ?_ _
  go_upto_region 3 with fail
  have hrg : rngB gen used = true ∧ nmB used root = true ∧ nmB used fr = true := by
    unfold supOk at hso
    rw [Bool.and_eq_true, Bool.and_eq_true] at hso
    exact hso
  obtain ⟨g1, g2, u1, u2⟩ := of_decide_eq_true hrg.1
  have hB2 : Hid (res = whS2 K root fr used.toNat) := by
    show res = _
    rw [← HRES.out]; unfold whS; rw [hok, hso, decide_eq_true hup]; rfl
  obtain ⟨M, rfl⟩ : ∃ M : Nat, used = (M : Int) := ⟨used.toNat, by omega⟩
  rw [Int.toNat_natCast] at hB2
  have hM : M ≤ 1024 := by omega
  have kD5 := HK.out.1.below d5
  obtain ⟨_, _, _, cR, _, _⟩ := cs_w5
  have TP := treePages_calls d K root w5 (HR.out w5 d5)
  have D5 : Hid _ := d5
  clear cs cs_w3 cs_w4 d3 d4 dd b3 b4 b5 hrg hso hok hup hup' d5
  unfold dval at TP
  go_wp2_with (refine wpList_load_row rfl 35 _ rfl w.heap.size rfl 35 #[.slice d.sa K.n d.sc, .slice d.pa K.m d.pc] (0, 0) _ kD5 Tryz.underlying35 rfl sD ?_)
  refine TP.mono ?_
  rintro e w6 ⟨at6, ct6, rfl, b6, ot6⟩
  have d6 : Below W2.heap.size W2 w6 := D5.out.trans (b6.mono D5.out.size)
  have kD6 := HK.out.1.below d6
  have kP6 := HK.out.2.below d6
  have FL := freeList_calls d K gen root (M : Nat) fr w6 (HR.out w6 d6)
  unfold dval at FL
  have D6 : Hid _ := And.intro d6 ot6
  have htl : (tpL K root).length ≤ 1024 := by
    unfold tpL
    cases ldT K root with
    | none => simp
    | some x => exact Nat.le_trans (mkd_len _ _) (by unfold nPg; omega)
  generalize htL : tpL K root = tl at *
  generalize htB : tpB K root = tb at *
  have HTL : Hid (tpL K root = tl ∧ tpB K root = tb) := ⟨htL, htB⟩
  clear TP b6 ot6 d6 kD5 cR htL htB
  go_wp2_with (first | (refine wpList_load_row rfl 35 _ rfl w.heap.size rfl 35 #[.slice d.sa K.n d.sc, .slice d.pa K.m d.pc] (0, 0) _ kD6 Tryz.underlying35 rfl sD ?_) | (refine wpList_load_row rfl 36 _ rfl (w.heap.size + 1) rfl 36 (supC gen root (M : Nat) fr).toArray (0, 0) _ kP6 Tryz.underlying36 rfl sP ?_))
  refine FL.mono ?_
  rintro e w7 ⟨b7, fs, own, ok7, a, c, a2, c2, rfl, of7, oo7, hlf, hlo, hor⟩
  have d7 : Below W2.heap.size W2 w7 := D6.out.1.trans (b7.mono D6.out.1.size)
  have ot7 := D6.out.2.below b7
  have cU7 : w7.cell? ⟨w.heap.size + 1, 2, none⟩ = some (.int .i64 (M : Nat)) := (HK.out.2.below d7).cell 2
  have HZ : Hid _ := And.intro d7 (And.intro ot7 (And.intro of7 oo7))
  clear FL b7 of7 oo7 d7 ot7 kD6 kP6 D6 D5
  cases tb with
  | false =>
    have hF : Hid (res = false) := by
      show res = false; rw [hB2.out]; unfold whS2
      rw [HTL.out.2]
      cases flT K fr <;> rfl
    clear hor
    go_wp2_with fail
    go_ret
    exact ⟨by rw [hF.out]; rfl, HB.out _ HZ.out.1⟩
  | true =>
  rcases hor with ⟨hfl, rfl⟩ | ⟨hfl, rfl⟩
  rotate_left
  · have hF : Hid (res = false) := by show res = false; rw [hB2.out]; unfold whS2; rw [hfl]
    clear hfl
    go_wp2_with fail
    go_ret
    exact ⟨by rw [hF.out]; rfl, HB.out _ HZ.out.1⟩
  have hR : Hid (res = mrk M tl fs own) := by show res = _; rw [hB2.out]; unfold whS2; rw [hfl, HTL.out.1, HTL.out.2]; rfl
  have MK := run_madeBo M (by omega) w7
  have q8 : Below w7.heap.size w7 (w7.alloc (.cells (madeCells #[.bool false] M) 4)) := (Below.refl _ _).alloc (Nat.le_refl _) _
  have m8 := own_madeBo w7.heap.size M (by omega) w7 (Nat.le_refl _)
  have d8 : Below W2.heap.size W2 (w7.alloc (.cells (madeCells #[.bool false] M) 4)) := HZ.out.1.trans (q8.mono HZ.out.1.size)
  have cU8 : (w7.alloc (.cells (madeCells #[.bool false] M) 4)).cell? ⟨w.heap.size + 1, 2, none⟩ = some (.int .i64 (M : Nat)) := (HK.out.2.below d8).cell 2
  have hz7 : W2.heap.size ≤ w7.heap.size := HZ.out.1.size
  have H8 : Hid _ := And.intro d8 (And.intro (HZ.out.2.1.below q8) (And.intro (HZ.out.2.2.1.below q8) (And.intro (HZ.out.2.2.2.below q8) m8)))
  clear q8 m8 d8 hfl HZ
  go_upto_region 8 with fail
  change Code.wp _ _ _ _ (w7.alloc (.cells (madeCells #[.bool false] M) 4))
  generalize w7.alloc (.cells (madeCells #[.bool false] M) 4) = W8 at *
  generalize hmb : w7.heap.size = mb at *
  clear cU7 MK hmb
  have dd8 : Below W8.heap.size W8 W8.drew := ⟨rfl, rfl, rfl, Nat.le_refl _, fun _ _ => rfl⟩
  have d8 : Below W2.heap.size W2 W8.drew := H8.out.1.trans (dd8.mono H8.out.1.size)
  have cs8 : W8.drew.cell? ⟨w.heap.size + 1, 2, none⟩ = some (.int .i64 (M : Nat)) := cU8
  obtain ⟨_, curM, hcM⟩ := (H8.out.2.2.2.2.below dd8).blk
  have HKI : Hid (∀ u, OnlyB mb W8.drew u → KeepT 3 W8.drew u) := fun u hu => keepT_onlyC hu hcM (by decide)
  have M1 := l3Mark_calls _ _ mb M [] tl at6 ct6 W8.drew (by omega) (by omega) (H8.out.2.2.2.2.below dd8) (H8.out.2.1.below dd8)
  generalize hm1 : mOk M tl [] = m1 at M1
  have HRW : Hid _ := And.intro (H8.out.2.2.1.below dd8) (H8.out.2.2.2.1.below dd8)
  clear dd8 hcM cU8 H8
  refine wp_regionD (fun u => u.cell? ⟨w.heap.size + 1, 2, none⟩ = some (.int .i64 (M : Nat))) (fun _ => false) (by kernel_rfl) ?_
  refine wpAnyD_takeT 0 49 (v := ?vvra0) rfl rfl (by kernel_rfl) (by kernel_rfl) (by kernel_rfl) (by kernel_rfl) (fun _ _ _ h => h) (Or.inl ⟨by rfl, ?hyra0⟩) cs8 ?restra0
  case hyra0 => (intro w hSw; (try dsimp only at hSw); go_simp; try with_reducible rfl)
  simp only [Act.put, List.setIfInBounds_toArray, List.set_cons_zero, List.set_cons_succ]
  refine wpAnyD_takeT 1 50 (v := ?vvra1) rfl rfl (by kernel_rfl) (by kernel_rfl) (by kernel_rfl) (by kernel_rfl) (fun _ _ _ h => h) (Or.inl ⟨by rfl, ?hyra1⟩) cs8 ?restra1
  case hyra1 => (intro w hSw; (try dsimp only at hSw); go_simp; try with_reducible rfl)
  simp only [Act.put, List.setIfInBounds_toArray, List.set_cons_zero, List.set_cons_succ]
  refine wpAnyD_one 2 (by kernel_rfl) rfl (fun KK hK => ?_)
  rw [if_pos (show Region.wanted _ _ = true from rfl)]
  go_wp2_with fail
  refine M1.mono ?_
  rintro e w9 ⟨rfl, o9, hm9⟩
  have d9 : Below W2.heap.size W2 w9 := d8.trans (o9.below (by omega) d8.size)
  have cs9 : w9.cell? ⟨w.heap.size + 1, 2, none⟩ = some (.int .i64 (M : Nat)) := (HK.out.2.below d9).cell 2
  clear M1
  go_wp2_with fail
  refine hK.out _ _ (fun _ => cs9) ?_
  clear hK KK
  cases m1 with
  | false =>
    have hF : Hid (res = false) := by show res = false; rw [hR.out]; unfold mrk; rw [hm1]; rfl
    clear hm9
    refine wpAnyD_takeT 3 52 (v := ?vvrb0) rfl rfl (by kernel_rfl) (by kernel_rfl) (by kernel_rfl) (by kernel_rfl) (fun _ _ _ h => h) (Or.inl ⟨by rfl, ?hyrb0⟩) cs9 ?restrb0
    case hyrb0 => (intro w hSw; (try dsimp only at hSw); go_simp; try with_reducible rfl)
    simp only [Act.put, List.setIfInBounds_toArray, List.set_cons_zero, List.set_cons_succ]
    refine wpAnyD_takeT 4 53 (v := undef) rfl rfl (by kernel_rfl) (by kernel_rfl) (by kernel_rfl) (by kernel_rfl) (fun _ _ _ h => h) (Or.inr ⟨by rfl, rfl⟩) cs9 ?_
    simp only [Act.put, List.setIfInBounds_toArray, List.set_cons_zero, List.set_cons_succ]
    refine wpAnyD_takeT 5 54 (v := undef) rfl rfl (by kernel_rfl) (by kernel_rfl) (by kernel_rfl) (by kernel_rfl) (fun _ _ _ h => h) (Or.inr ⟨by rfl, rfl⟩) cs9 ?_
    simp only [Act.put, List.setIfInBounds_toArray, List.set_cons_zero, List.set_cons_succ]
    refine wpAnyD_takeT 6 55 (v := undef) rfl rfl (by kernel_rfl) (by kernel_rfl) (by kernel_rfl) (by kernel_rfl) (fun _ _ _ h => h) (Or.inr ⟨by rfl, rfl⟩) cs9 ?_
    simp only [Act.put, List.setIfInBounds_toArray, List.set_cons_zero, List.set_cons_succ]
    refine wpAnyD_takeT 7 56 (v := ?vvrb1) rfl rfl (by kernel_rfl) (by kernel_rfl) (by kernel_rfl) (by kernel_rfl) (fun _ _ _ h => h) (Or.inl ⟨by rfl, ?hyrb1⟩) cs9 ?restrb1
    case hyrb1 => (intro w hSw; (try dsimp only at hSw); go_simp; try with_reducible rfl)
    simp only [Act.put, List.setIfInBounds_toArray, List.set_cons_zero, List.set_cons_succ]
    refine wpAnyD_takeT 8 57 (v := ?vvrb2) rfl rfl (by kernel_rfl) (by kernel_rfl) (by kernel_rfl) (by kernel_rfl) (fun _ _ _ h => h) (Or.inl ⟨by rfl, ?hyrb2⟩) cs9 ?restrb2
    case hyrb2 => (intro w hSw; (try dsimp only at hSw); go_simp; try with_reducible rfl)
    simp only [Act.put, List.setIfInBounds_toArray, List.set_cons_zero, List.set_cons_succ]
    refine wpAnyD_takeT 9 58 (v := undef) rfl rfl (by kernel_rfl) (by kernel_rfl) (by kernel_rfl) (by kernel_rfl) (fun _ _ _ h => h) (Or.inr ⟨by rfl, rfl⟩) cs9 ?_
    simp only [Act.put, List.setIfInBounds_toArray, List.set_cons_zero, List.set_cons_succ]
    refine wpAnyD_takeT 10 59 (v := undef) rfl rfl (by kernel_rfl) (by kernel_rfl) (by kernel_rfl) (by kernel_rfl) (fun _ _ _ h => h) (Or.inr ⟨by rfl, rfl⟩) cs9 ?_
    simp only [Act.put, List.setIfInBounds_toArray, List.set_cons_zero, List.set_cons_succ]
    refine wpAnyD_takeT 11 60 (v := undef) rfl rfl (by kernel_rfl) (by kernel_rfl) (by kernel_rfl) (by kernel_rfl) (fun _ _ _ h => h) (Or.inr ⟨by rfl, rfl⟩) cs9 ?_
    simp only [Act.put, List.setIfInBounds_toArray, List.set_cons_zero, List.set_cons_succ]
    refine wpAnyD_takeT 12 61 (v := ?vvrb3) rfl rfl (by kernel_rfl) (by kernel_rfl) (by kernel_rfl) (by kernel_rfl) (fun _ _ _ h => h) (Or.inl ⟨by rfl, ?hyrb3⟩) cs9 ?restrb3
    case hyrb3 => (intro w hSw; (try dsimp only at hSw); go_simp; try with_reducible rfl)
    simp only [Act.put, List.setIfInBounds_toArray, List.set_cons_zero, List.set_cons_succ]
    refine wpAnyD_takeT 13 62 (v := ?vvrb4) rfl rfl (by kernel_rfl) (by kernel_rfl) (by kernel_rfl) (by kernel_rfl) (fun _ _ _ h => h) (Or.inl ⟨by rfl, ?hyrb4⟩) cs9 ?restrb4
    case hyrb4 => (intro w hSw; (try dsimp only at hSw); go_simp; try with_reducible rfl)
    simp only [Act.put, List.setIfInBounds_toArray, List.set_cons_zero, List.set_cons_succ]
    refine wpAnyD_takeT 14 63 (v := undef) rfl rfl (by kernel_rfl) (by kernel_rfl) (by kernel_rfl) (by kernel_rfl) (fun _ _ _ h => h) (Or.inr ⟨by rfl, rfl⟩) cs9 ?_
    simp only [Act.put, List.setIfInBounds_toArray, List.set_cons_zero, List.set_cons_succ]
    refine wpAnyD_takeT 15 64 (v := undef) rfl rfl (by kernel_rfl) (by kernel_rfl) (by kernel_rfl) (by kernel_rfl) (fun _ _ _ h => h) (Or.inr ⟨by rfl, rfl⟩) cs9 ?_
    simp only [Act.put, List.setIfInBounds_toArray, List.set_cons_zero, List.set_cons_succ]
    refine wpAnyD_takeT 16 65 (v := undef) rfl rfl (by kernel_rfl) (by kernel_rfl) (by kernel_rfl) (by kernel_rfl) (fun _ _ _ h => h) (Or.inr ⟨by rfl, rfl⟩) cs9 ?_
    simp only [Act.put, List.setIfInBounds_toArray, List.set_cons_zero, List.set_cons_succ]
    refine wpAnyD_takeT 17 66 (v := undef) rfl rfl (by kernel_rfl) (by kernel_rfl) (by kernel_rfl) (by kernel_rfl) (fun _ _ _ h => h) (Or.inr ⟨by rfl, rfl⟩) cs9 ?_
    simp only [Act.put, List.setIfInBounds_toArray, List.set_cons_zero, List.set_cons_succ]
    refine wpAnyD_takeT 18 67 (v := undef) rfl rfl (by kernel_rfl) (by kernel_rfl) (by kernel_rfl) (by kernel_rfl) (fun _ _ _ h => h) (Or.inr ⟨by rfl, rfl⟩) cs9 ?_
    simp only [Act.put, List.setIfInBounds_toArray, List.set_cons_zero, List.set_cons_succ]
    refine wpAnyD_takeT 19 68 (v := undef) rfl rfl (by kernel_rfl) (by kernel_rfl) (by kernel_rfl) (by kernel_rfl) (fun _ _ _ h => h) (Or.inr ⟨by rfl, rfl⟩) cs9 ?_
    simp only [Act.put, List.setIfInBounds_toArray, List.set_cons_zero, List.set_cons_succ]
    refine wpAnyD_takeT 20 69 (v := undef) rfl rfl (by kernel_rfl) (by kernel_rfl) (by kernel_rfl) (by kernel_rfl) (fun _ _ _ h => h) (Or.inr ⟨by rfl, rfl⟩) cs9 ?_
    simp only [Act.put, List.setIfInBounds_toArray, List.set_cons_zero, List.set_cons_succ]
    refine wpAnyD_takeT 21 70 (v := ?vvrb5) rfl rfl (by kernel_rfl) (by kernel_rfl) (by kernel_rfl) (by kernel_rfl) (fun _ _ _ h => h) (Or.inl ⟨by rfl, ?hyrb5⟩) cs9 ?restrb5
    case hyrb5 => (intro w hSw; (try dsimp only at hSw); go_simp; try with_reducible rfl)
    simp only [Act.put, List.setIfInBounds_toArray, List.set_cons_zero, List.set_cons_succ]
    refine wpAnyD_one 22 (by kernel_rfl) rfl (fun KK hK => ?_)
    rw [if_pos (show Region.wanted _ _ = true from rfl)]
    go_wp2_with fail
    refine hK.out _ _ (fun _ => cs9) ?_
    clear hK KK
    refine wpAnyD_done (by kernel_rfl) ?_ _
    go_wp2_with fail
    go_ret
    exact ⟨by rw [hF.out]; rfl, HB.out _ d9⟩
  | true =>
  have M2 := l3Mark_calls _ _ mb M (tl.reverse ++ []) fs a c w9 (by omega) (by omega) (hm9 rfl) (HRW.out.1.keep (HKI.out _ o9))
  generalize hm2 : mOk M fs (tl.reverse ++ []) = m2 at M2
  clear hm9
  refine wpAnyD_takeT 3 52 (v := ?vvrc0) rfl rfl (by kernel_rfl) (by kernel_rfl) (by kernel_rfl) (by kernel_rfl) (fun _ _ _ h => h) (Or.inl ⟨by rfl, ?hyrc0⟩) cs9 ?restrc0
  case hyrc0 => (intro w hSw; (try dsimp only at hSw); go_simp; try with_reducible rfl)
  simp only [Act.put, List.setIfInBounds_toArray, List.set_cons_zero, List.set_cons_succ]
  refine wpAnyD_takeT 4 53 (v := ?vvrc1) rfl rfl (by kernel_rfl) (by kernel_rfl) (by kernel_rfl) (by kernel_rfl) (fun _ _ _ h => h) (Or.inl ⟨by rfl, ?hyrc1⟩) cs9 ?restrc1
  case hyrc1 => (intro w hSw; (try dsimp only at hSw); go_simp; try with_reducible rfl)
  simp only [Act.put, List.setIfInBounds_toArray, List.set_cons_zero, List.set_cons_succ]
  refine wpAnyD_takeT 5 54 (v := ?vvrc2) rfl rfl (by kernel_rfl) (by kernel_rfl) (by kernel_rfl) (by kernel_rfl) (fun _ _ _ h => h) (Or.inl ⟨by rfl, ?hyrc2⟩) cs9 ?restrc2
  case hyrc2 => (intro w hSw; (try dsimp only at hSw); go_simp; try with_reducible rfl)
  simp only [Act.put, List.setIfInBounds_toArray, List.set_cons_zero, List.set_cons_succ]
  refine wpAnyD_one 6 (by kernel_rfl) rfl (fun KK hK => ?_)
  rw [if_pos (show Region.wanted _ _ = true from rfl)]
  go_wp2_with fail
  refine M2.mono ?_
  rintro e w10 ⟨rfl, o10, hm10⟩
  have d10 : Below W2.heap.size W2 w10 := d9.trans (o10.below (by omega) d9.size)
  have cs10 : w10.cell? ⟨w.heap.size + 1, 2, none⟩ = some (.int .i64 (M : Nat)) := (HK.out.2.below d10).cell 2
  clear M2
  go_wp2_with fail
  refine hK.out _ _ (fun _ => cs10) ?_
  clear hK KK
  have o10' := o9.trans o10
  cases m2 with
  | false =>
    have hF : Hid (res = false) := by show res = false; rw [hR.out]; unfold mrk; rw [hm1, hm2]; rfl
    clear hm10
    refine wpAnyD_takeT 7 56 (v := ?vvrd0) rfl rfl (by kernel_rfl) (by kernel_rfl) (by kernel_rfl) (by kernel_rfl) (fun _ _ _ h => h) (Or.inl ⟨by rfl, ?hyrd0⟩) cs10 ?restrd0
    case hyrd0 => (intro w hSw; (try dsimp only at hSw); go_simp; try with_reducible rfl)
    simp only [Act.put, List.setIfInBounds_toArray, List.set_cons_zero, List.set_cons_succ]
    refine wpAnyD_takeT 8 57 (v := ?vvrd1) rfl rfl (by kernel_rfl) (by kernel_rfl) (by kernel_rfl) (by kernel_rfl) (fun _ _ _ h => h) (Or.inl ⟨by rfl, ?hyrd1⟩) cs10 ?restrd1
    case hyrd1 => (intro w hSw; (try dsimp only at hSw); go_simp; try with_reducible rfl)
    simp only [Act.put, List.setIfInBounds_toArray, List.set_cons_zero, List.set_cons_succ]
    refine wpAnyD_takeT 9 58 (v := undef) rfl rfl (by kernel_rfl) (by kernel_rfl) (by kernel_rfl) (by kernel_rfl) (fun _ _ _ h => h) (Or.inr ⟨by rfl, rfl⟩) cs10 ?_
    simp only [Act.put, List.setIfInBounds_toArray, List.set_cons_zero, List.set_cons_succ]
    refine wpAnyD_takeT 10 59 (v := undef) rfl rfl (by kernel_rfl) (by kernel_rfl) (by kernel_rfl) (by kernel_rfl) (fun _ _ _ h => h) (Or.inr ⟨by rfl, rfl⟩) cs10 ?_
    simp only [Act.put, List.setIfInBounds_toArray, List.set_cons_zero, List.set_cons_succ]
    refine wpAnyD_takeT 11 60 (v := undef) rfl rfl (by kernel_rfl) (by kernel_rfl) (by kernel_rfl) (by kernel_rfl) (fun _ _ _ h => h) (Or.inr ⟨by rfl, rfl⟩) cs10 ?_
    simp only [Act.put, List.setIfInBounds_toArray, List.set_cons_zero, List.set_cons_succ]
    refine wpAnyD_takeT 12 61 (v := ?vvrd2) rfl rfl (by kernel_rfl) (by kernel_rfl) (by kernel_rfl) (by kernel_rfl) (fun _ _ _ h => h) (Or.inl ⟨by rfl, ?hyrd2⟩) cs10 ?restrd2
    case hyrd2 => (intro w hSw; (try dsimp only at hSw); go_simp; try with_reducible rfl)
    simp only [Act.put, List.setIfInBounds_toArray, List.set_cons_zero, List.set_cons_succ]
    refine wpAnyD_takeT 13 62 (v := ?vvrd3) rfl rfl (by kernel_rfl) (by kernel_rfl) (by kernel_rfl) (by kernel_rfl) (fun _ _ _ h => h) (Or.inl ⟨by rfl, ?hyrd3⟩) cs10 ?restrd3
    case hyrd3 => (intro w hSw; (try dsimp only at hSw); go_simp; try with_reducible rfl)
    simp only [Act.put, List.setIfInBounds_toArray, List.set_cons_zero, List.set_cons_succ]
    refine wpAnyD_takeT 14 63 (v := undef) rfl rfl (by kernel_rfl) (by kernel_rfl) (by kernel_rfl) (by kernel_rfl) (fun _ _ _ h => h) (Or.inr ⟨by rfl, rfl⟩) cs10 ?_
    simp only [Act.put, List.setIfInBounds_toArray, List.set_cons_zero, List.set_cons_succ]
    refine wpAnyD_takeT 15 64 (v := undef) rfl rfl (by kernel_rfl) (by kernel_rfl) (by kernel_rfl) (by kernel_rfl) (fun _ _ _ h => h) (Or.inr ⟨by rfl, rfl⟩) cs10 ?_
    simp only [Act.put, List.setIfInBounds_toArray, List.set_cons_zero, List.set_cons_succ]
    refine wpAnyD_takeT 16 65 (v := undef) rfl rfl (by kernel_rfl) (by kernel_rfl) (by kernel_rfl) (by kernel_rfl) (fun _ _ _ h => h) (Or.inr ⟨by rfl, rfl⟩) cs10 ?_
    simp only [Act.put, List.setIfInBounds_toArray, List.set_cons_zero, List.set_cons_succ]
    refine wpAnyD_takeT 17 66 (v := undef) rfl rfl (by kernel_rfl) (by kernel_rfl) (by kernel_rfl) (by kernel_rfl) (fun _ _ _ h => h) (Or.inr ⟨by rfl, rfl⟩) cs10 ?_
    simp only [Act.put, List.setIfInBounds_toArray, List.set_cons_zero, List.set_cons_succ]
    refine wpAnyD_takeT 18 67 (v := undef) rfl rfl (by kernel_rfl) (by kernel_rfl) (by kernel_rfl) (by kernel_rfl) (fun _ _ _ h => h) (Or.inr ⟨by rfl, rfl⟩) cs10 ?_
    simp only [Act.put, List.setIfInBounds_toArray, List.set_cons_zero, List.set_cons_succ]
    refine wpAnyD_takeT 19 68 (v := undef) rfl rfl (by kernel_rfl) (by kernel_rfl) (by kernel_rfl) (by kernel_rfl) (fun _ _ _ h => h) (Or.inr ⟨by rfl, rfl⟩) cs10 ?_
    simp only [Act.put, List.setIfInBounds_toArray, List.set_cons_zero, List.set_cons_succ]
    refine wpAnyD_takeT 20 69 (v := undef) rfl rfl (by kernel_rfl) (by kernel_rfl) (by kernel_rfl) (by kernel_rfl) (fun _ _ _ h => h) (Or.inr ⟨by rfl, rfl⟩) cs10 ?_
    simp only [Act.put, List.setIfInBounds_toArray, List.set_cons_zero, List.set_cons_succ]
    refine wpAnyD_takeT 21 70 (v := ?vvrd4) rfl rfl (by kernel_rfl) (by kernel_rfl) (by kernel_rfl) (by kernel_rfl) (fun _ _ _ h => h) (Or.inl ⟨by rfl, ?hyrd4⟩) cs10 ?restrd4
    case hyrd4 => (intro w hSw; (try dsimp only at hSw); go_simp; try with_reducible rfl)
    simp only [Act.put, List.setIfInBounds_toArray, List.set_cons_zero, List.set_cons_succ]
    refine wpAnyD_one 22 (by kernel_rfl) rfl (fun KK hK => ?_)
    rw [if_pos (show Region.wanted _ _ = true from rfl)]
    go_wp2_with fail
    refine hK.out _ _ (fun _ => cs10) ?_
    clear hK KK
    refine wpAnyD_done (by kernel_rfl) ?_ _
    go_wp2_with fail
    go_ret
    exact ⟨by rw [hF.out]; rfl, HB.out _ d10⟩
  | true =>
  have M3 := l3Mark_calls _ _ mb M (fs.reverse ++ (tl.reverse ++ [])) own a2 c2 w10 (by omega) (by omega) (hm10 rfl) (HRW.out.2.keep (HKI.out _ o10'))
  generalize hm3 : mOk M own (fs.reverse ++ (tl.reverse ++ [])) = m3 at M3
  clear hm10
  refine wpAnyD_takeT 7 56 (v := ?vvre0) rfl rfl (by kernel_rfl) (by kernel_rfl) (by kernel_rfl) (by kernel_rfl) (fun _ _ _ h => h) (Or.inl ⟨by rfl, ?hyre0⟩) cs10 ?restre0
  case hyre0 => (intro w hSw; (try dsimp only at hSw); go_simp; try with_reducible rfl)
  simp only [Act.put, List.setIfInBounds_toArray, List.set_cons_zero, List.set_cons_succ]
  refine wpAnyD_takeT 8 57 (v := ?vvre1) rfl rfl (by kernel_rfl) (by kernel_rfl) (by kernel_rfl) (by kernel_rfl) (fun _ _ _ h => h) (Or.inl ⟨by rfl, ?hyre1⟩) cs10 ?restre1
  case hyre1 => (intro w hSw; (try dsimp only at hSw); go_simp; try with_reducible rfl)
  simp only [Act.put, List.setIfInBounds_toArray, List.set_cons_zero, List.set_cons_succ]
  refine wpAnyD_takeT 9 58 (v := ?vvre2) rfl rfl (by kernel_rfl) (by kernel_rfl) (by kernel_rfl) (by kernel_rfl) (fun _ _ _ h => h) (Or.inl ⟨by rfl, ?hyre2⟩) cs10 ?restre2
  case hyre2 => (intro w hSw; (try dsimp only at hSw); go_simp; try with_reducible rfl)
  simp only [Act.put, List.setIfInBounds_toArray, List.set_cons_zero, List.set_cons_succ]
  refine wpAnyD_takeT 10 59 (v := ?vvre3) rfl rfl (by kernel_rfl) (by kernel_rfl) (by kernel_rfl) (by kernel_rfl) (fun _ _ _ h => h) (Or.inl ⟨by rfl, ?hyre3⟩) cs10 ?restre3
  case hyre3 => (intro w hSw; (try dsimp only at hSw); go_simp; try with_reducible rfl)
  simp only [Act.put, List.setIfInBounds_toArray, List.set_cons_zero, List.set_cons_succ]
  refine wpAnyD_one 11 (by kernel_rfl) rfl (fun KK hK => ?_)
  rw [if_pos (show Region.wanted _ _ = true from rfl)]
  go_wp2_with fail
  refine M3.mono ?_
  rintro e w11 ⟨rfl, o11, hm11⟩
  have d11 : Below W2.heap.size W2 w11 := d10.trans (o11.below (by omega) d10.size)
  have cs11 : w11.cell? ⟨w.heap.size + 1, 2, none⟩ = some (.int .i64 (M : Nat)) := (HK.out.2.below d11).cell 2
  clear M3
  go_wp2_with fail
  refine hK.out _ _ (fun _ => cs11) ?_
  clear hK KK
  cases m3 with
  | false =>
    have hF : Hid (res = false) := by show res = false; rw [hR.out]; unfold mrk; rw [hm1, hm2, hm3]; rfl
    clear hm11
    refine wpAnyD_takeT 12 61 (v := ?vvrf0) rfl rfl (by kernel_rfl) (by kernel_rfl) (by kernel_rfl) (by kernel_rfl) (fun _ _ _ h => h) (Or.inl ⟨by rfl, ?hyrf0⟩) cs11 ?restrf0
    case hyrf0 => (intro w hSw; (try dsimp only at hSw); go_simp; try with_reducible rfl)
    simp only [Act.put, List.setIfInBounds_toArray, List.set_cons_zero, List.set_cons_succ]
    refine wpAnyD_takeT 13 62 (v := ?vvrf1) rfl rfl (by kernel_rfl) (by kernel_rfl) (by kernel_rfl) (by kernel_rfl) (fun _ _ _ h => h) (Or.inl ⟨by rfl, ?hyrf1⟩) cs11 ?restrf1
    case hyrf1 => (intro w hSw; (try dsimp only at hSw); go_simp; try with_reducible rfl)
    simp only [Act.put, List.setIfInBounds_toArray, List.set_cons_zero, List.set_cons_succ]
    refine wpAnyD_takeT 14 63 (v := undef) rfl rfl (by kernel_rfl) (by kernel_rfl) (by kernel_rfl) (by kernel_rfl) (fun _ _ _ h => h) (Or.inr ⟨by rfl, rfl⟩) cs11 ?_
    simp only [Act.put, List.setIfInBounds_toArray, List.set_cons_zero, List.set_cons_succ]
    refine wpAnyD_takeT 15 64 (v := undef) rfl rfl (by kernel_rfl) (by kernel_rfl) (by kernel_rfl) (by kernel_rfl) (fun _ _ _ h => h) (Or.inr ⟨by rfl, rfl⟩) cs11 ?_
    simp only [Act.put, List.setIfInBounds_toArray, List.set_cons_zero, List.set_cons_succ]
    refine wpAnyD_takeT 16 65 (v := undef) rfl rfl (by kernel_rfl) (by kernel_rfl) (by kernel_rfl) (by kernel_rfl) (fun _ _ _ h => h) (Or.inr ⟨by rfl, rfl⟩) cs11 ?_
    simp only [Act.put, List.setIfInBounds_toArray, List.set_cons_zero, List.set_cons_succ]
    refine wpAnyD_takeT 17 66 (v := undef) rfl rfl (by kernel_rfl) (by kernel_rfl) (by kernel_rfl) (by kernel_rfl) (fun _ _ _ h => h) (Or.inr ⟨by rfl, rfl⟩) cs11 ?_
    simp only [Act.put, List.setIfInBounds_toArray, List.set_cons_zero, List.set_cons_succ]
    refine wpAnyD_takeT 18 67 (v := undef) rfl rfl (by kernel_rfl) (by kernel_rfl) (by kernel_rfl) (by kernel_rfl) (fun _ _ _ h => h) (Or.inr ⟨by rfl, rfl⟩) cs11 ?_
    simp only [Act.put, List.setIfInBounds_toArray, List.set_cons_zero, List.set_cons_succ]
    refine wpAnyD_takeT 19 68 (v := undef) rfl rfl (by kernel_rfl) (by kernel_rfl) (by kernel_rfl) (by kernel_rfl) (fun _ _ _ h => h) (Or.inr ⟨by rfl, rfl⟩) cs11 ?_
    simp only [Act.put, List.setIfInBounds_toArray, List.set_cons_zero, List.set_cons_succ]
    refine wpAnyD_takeT 20 69 (v := undef) rfl rfl (by kernel_rfl) (by kernel_rfl) (by kernel_rfl) (by kernel_rfl) (fun _ _ _ h => h) (Or.inr ⟨by rfl, rfl⟩) cs11 ?_
    simp only [Act.put, List.setIfInBounds_toArray, List.set_cons_zero, List.set_cons_succ]
    refine wpAnyD_takeT 21 70 (v := ?vvrf2) rfl rfl (by kernel_rfl) (by kernel_rfl) (by kernel_rfl) (by kernel_rfl) (fun _ _ _ h => h) (Or.inl ⟨by rfl, ?hyrf2⟩) cs11 ?restrf2
    case hyrf2 => (intro w hSw; (try dsimp only at hSw); go_simp; try with_reducible rfl)
    simp only [Act.put, List.setIfInBounds_toArray, List.set_cons_zero, List.set_cons_succ]
    refine wpAnyD_one 22 (by kernel_rfl) rfl (fun KK hK => ?_)
    rw [if_pos (show Region.wanted _ _ = true from rfl)]
    go_wp2_with fail
    refine hK.out _ _ (fun _ => cs11) ?_
    clear hK KK
    refine wpAnyD_done (by kernel_rfl) ?_ _
    go_wp2_with fail
    go_ret
    exact ⟨by rw [hF.out]; rfl, HB.out _ d11⟩
  | true =>
  have M4 := l3Marked_calls _ mb M (own.reverse ++ (fs.reverse ++ (tl.reverse ++ []))) w11 (by omega) (hm11 rfl)
  have hR2 : Hid (res = ((mkd (own.reverse ++ (fs.reverse ++ (tl.reverse ++ []))) M).length + 2 == M)) := by show res = _; rw [hR.out]; unfold mrk; rw [hm1, hm2, hm3]; rfl
  have hml := mkd_len (own.reverse ++ (fs.reverse ++ (tl.reverse ++ []))) M
  generalize mkd (own.reverse ++ (fs.reverse ++ (tl.reverse ++ []))) M = mk at *
  clear hm11 hm1 hm2 hm3
  refine wpAnyD_takeT 12 61 (v := ?vvrg0) rfl rfl (by kernel_rfl) (by kernel_rfl) (by kernel_rfl) (by kernel_rfl) (fun _ _ _ h => h) (Or.inl ⟨by rfl, ?hyrg0⟩) cs11 ?restrg0
  case hyrg0 => (intro w hSw; (try dsimp only at hSw); go_simp; try with_reducible rfl)
  simp only [Act.put, List.setIfInBounds_toArray, List.set_cons_zero, List.set_cons_succ]
  refine wpAnyD_takeT 13 62 (v := ?vvrg1) rfl rfl (by kernel_rfl) (by kernel_rfl) (by kernel_rfl) (by kernel_rfl) (fun _ _ _ h => h) (Or.inl ⟨by rfl, ?hyrg1⟩) cs11 ?restrg1
  case hyrg1 => (intro w hSw; (try dsimp only at hSw); go_simp; try with_reducible rfl)
  simp only [Act.put, List.setIfInBounds_toArray, List.set_cons_zero, List.set_cons_succ]
  refine wpAnyD_takeT 14 63 (v := ?vvrg2) rfl rfl (by kernel_rfl) (by kernel_rfl) (by kernel_rfl) (by kernel_rfl) (fun _ _ _ h => h) (Or.inl ⟨by rfl, ?hyrg2⟩) cs11 ?restrg2
  case hyrg2 => (intro w hSw; (try dsimp only at hSw); go_simp; try with_reducible rfl)
  simp only [Act.put, List.setIfInBounds_toArray, List.set_cons_zero, List.set_cons_succ]
  refine wpAnyD_takeT 17 66 (v := ?vvrg3) rfl rfl (by kernel_rfl) (by kernel_rfl) (by kernel_rfl) (by kernel_rfl) (fun _ _ _ h => h) (Or.inl ⟨by rfl, ?hyrg3⟩) cs11 ?restrg3
  case hyrg3 => (intro w hSw; (try dsimp only at hSw); go_simp; try with_reducible rfl)
  simp only [Act.put, List.setIfInBounds_toArray, List.set_cons_zero, List.set_cons_succ]
  refine wpAnyD_takeT 18 67 (v := ?vvrg4) rfl rfl (by kernel_rfl) (by kernel_rfl) (by kernel_rfl) (by kernel_rfl) (fun _ _ _ h => h) (Or.inl ⟨by rfl, ?hyrg4⟩) cs11 ?restrg4
  case hyrg4 => (intro w hSw; (try dsimp only at hSw); go_simp; try with_reducible rfl)
  simp only [Act.put, List.setIfInBounds_toArray, List.set_cons_zero, List.set_cons_succ]
  refine wpAnyD_takeT 19 68 (v := ?vvrg5) rfl rfl (by kernel_rfl) (by kernel_rfl) (by kernel_rfl) (by kernel_rfl) (fun _ _ _ h => h) (Or.inl ⟨by rfl, ?hyrg5⟩) cs11 ?restrg5
  case hyrg5 => (intro w hSw; (try dsimp only at hSw); go_simp; try with_reducible rfl)
  simp only [Act.put, List.setIfInBounds_toArray, List.set_cons_zero, List.set_cons_succ]
  refine wpAnyD_one 15 (by kernel_rfl) rfl (fun KK hK => ?_)
  rw [if_pos (show Region.wanted _ _ = true from rfl)]
  go_wp2_with fail
  refine M4.mono ?_
  rintro e w12 ⟨am, cm, rfl, b12, om12⟩
  have d12 : Below W2.heap.size W2 w12 := d11.trans (b12.mono d11.size)
  have cs12 : w12.cell? ⟨w.heap.size + 1, 2, none⟩ = some (.int .i64 (M : Nat)) := (HK.out.2.below d12).cell 2
  clear M4 om12
  go_wp2_with fail
  refine hK.out _ _ (fun _ => cs12) ?_
  clear hK KK
  by_cases hq : mk.length + 2 = M
  · have hq2 : (((mk.length : Nat) : Int) == (M : Int) - 2) = true := by simp; omega
    have hF : Hid (res = true) := by show res = true; rw [hR2.out]; simp [hq]
    clear hq
    refine wpAnyD_takeT 16 65 (v := ?vvrh0) rfl rfl (by kernel_rfl) (by kernel_rfl) (by kernel_rfl) (by kernel_rfl) (fun _ _ _ h => h) (Or.inl ⟨by rfl, ?hyrh0⟩) cs12 ?restrh0
    case hyrh0 => (intro w hSw; (try dsimp only at hSw); go_simp; try with_reducible rfl)
    simp only [Act.put, List.setIfInBounds_toArray, List.set_cons_zero, List.set_cons_succ]
    refine wpAnyD_takeT 20 69 (v := ?vvrh1) rfl rfl (by kernel_rfl) (by kernel_rfl) (by kernel_rfl) (by kernel_rfl) (fun _ _ _ h => h) (Or.inl ⟨by rfl, ?hyrh1⟩) cs12 ?restrh1
    case hyrh1 => (intro w hSw; (try dsimp only at hSw); go_simp; try with_reducible rfl)
    simp only [Act.put, List.setIfInBounds_toArray, List.set_cons_zero, List.set_cons_succ]
    refine wpAnyD_takeT 21 70 (v := ?vvrh2) rfl rfl (by kernel_rfl) (by kernel_rfl) (by kernel_rfl) (by kernel_rfl) (fun _ _ _ h => h) (Or.inl ⟨by rfl, ?hyrh2⟩) cs12 ?restrh2
    case hyrh2 => (intro w hSw; (try dsimp only at hSw); go_simp; try with_reducible rfl)
    simp only [Act.put, List.setIfInBounds_toArray, List.set_cons_zero, List.set_cons_succ]
    refine wpAnyD_one 22 (by kernel_rfl) rfl (fun KK hK => ?_)
    rw [if_pos (show Region.wanted _ _ = true from rfl)]
    go_wp2_with fail
    refine hK.out _ _ (fun _ => cs12) ?_
    clear hK KK
    refine wpAnyD_done (by kernel_rfl) ?_ _
    go_wp2_with fail
    go_ret
    exact ⟨by rw [hF.out]; rfl, HB.out _ d12⟩
  · have hq2 : (((mk.length : Nat) : Int) == (M : Int) - 2) = false := by simp; omega
    have hF : Hid (res = false) := by show res = false; rw [hR2.out]; simp [hq]
    clear hq
    refine wpAnyD_takeT 16 65 (v := ?vvri0) rfl rfl (by kernel_rfl) (by kernel_rfl) (by kernel_rfl) (by kernel_rfl) (fun _ _ _ h => h) (Or.inl ⟨by rfl, ?hyri0⟩) cs12 ?restri0
    case hyri0 => (intro w hSw; (try dsimp only at hSw); go_simp; try with_reducible rfl)
    simp only [Act.put, List.setIfInBounds_toArray, List.set_cons_zero, List.set_cons_succ]
    refine wpAnyD_takeT 20 69 (v := ?vvri1) rfl rfl (by kernel_rfl) (by kernel_rfl) (by kernel_rfl) (by kernel_rfl) (fun _ _ _ h => h) (Or.inl ⟨by rfl, ?hyri1⟩) cs12 ?restri1
    case hyri1 => (intro w hSw; (try dsimp only at hSw); go_simp; try with_reducible rfl)
    simp only [Act.put, List.setIfInBounds_toArray, List.set_cons_zero, List.set_cons_succ]
    refine wpAnyD_takeT 21 70 (v := ?vvri2) rfl rfl (by kernel_rfl) (by kernel_rfl) (by kernel_rfl) (by kernel_rfl) (fun _ _ _ h => h) (Or.inl ⟨by rfl, ?hyri2⟩) cs12 ?restri2
    case hyri2 => (intro w hSw; (try dsimp only at hSw); go_simp; try with_reducible rfl)
    simp only [Act.put, List.setIfInBounds_toArray, List.set_cons_zero, List.set_cons_succ]
    refine wpAnyD_one 22 (by kernel_rfl) rfl (fun KK hK => ?_)
    rw [if_pos (show Region.wanted _ _ = true from rfl)]
    go_wp2_with fail
    refine hK.out _ _ (fun _ => cs12) ?_
    clear hK KK
    refine wpAnyD_done (by kernel_rfl) ?_ _
    go_wp2_with fail
    go_ret
    exact ⟨by rw [hF.out]; rfl, HB.out _ d12⟩
end Go.Proofs.YtglbanolhhjjiaaGreatDoor

