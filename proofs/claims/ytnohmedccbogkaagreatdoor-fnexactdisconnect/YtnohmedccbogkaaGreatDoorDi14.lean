import Derived.Test.YtnohmedccbogkaaGreatDoorDi9
import Derived.Test.YtnohmedccbogkaaGreatDoorDi13
import Derived.Maps.OwnSet
namespace Go.Proofs.YtnohmedccbogkaaGreatDoor
open Go.RowKit
set_option linter.unusedVariables false
theorem infoBo : (Tryz.prog.info? 4).map (fun i => (i.zero, i.size, i.bytes)) = some (some (.bool false), 1, 1) := by kernel_rfl
theorem run_madeBo (k : Nat) (hk : k ≤ 1048576) (w : World) :
    (Instr.makeSlice 202 (.int .i64 (k : Int)) (.int .i64 (k : Int))).run Tryz.prog w = .ok (.slice (some ⟨w.heap.size, 0, none⟩) k k) (w.alloc (.cells (madeCells #[.bool false] k) 4)) := by
  obtain ⟨i, hi, hz0, hz1, hz2⟩ := info_parts infoBo
  have hr := run_make (P := Tryz.prog) w 202 4 i _ Tryz.underlying202 hi hz0 .i64 .i64 k k (by omega) (Int.le_refl _) (by rw [hz2]; omega) (by omega)
  rw [hr, hz1]
  simp [Value.cells]
theorem mkB_nil (N : Nat) : mkB [] N = List.replicate N (Value.bool false) := by
  apply List.ext_getElem?
  intro i
  by_cases h : i < N
  · simp [mkB, h]
  · simp [mkB, h]
theorem own_madeBo (B k : Nat) (hk : k ≤ 1048576) (w : World) (hB : B ≤ w.heap.size) : Own1 4 B (w.alloc (.cells (madeCells #[.bool false] k) 4)) (some ⟨w.heap.size, 0, none⟩) k k (mkB [] k) := by
  refine ⟨by rw [mkB_len]; omega, Or.inr ⟨w.heap.size, k, madeCells #[.bool false] k, rfl, hB, heap_alloc_new w _, Nat.le_refl _, by unfold maxLen; omega, ?_, ?_⟩⟩
  · have := congrArg List.length (toList_madeCells_one (Value.bool false) k)
    simpa using this
  · rw [toList_madeCells_one, mkB_nil, Nat.mul_one]
    simp
theorem sizeTr : (Tryz.prog.info? 207).map (·.size) = some 5 := by kernel_rfl
theorem sizeDk : (Tryz.prog.info? 37).map (·.size) = some 2 := by kernel_rfl
noncomputable def pgD (K : DK) : Pg := ⟨vK K, vL K, vB K⟩
def nPg (K : DK) : Nat := K.n / 4
theorem pgD_ok {w : World} {d : DV} {K : DK} (h : RDisk w d K) (hok : dOk K) : PgW (pgD K) (nPg K) := by
  refine ⟨fun t ht => ?_, fun t => vL_isB h t, fun t => Nat.le_trans (vL_le hok t) (by omega), by unfold nPg; have := hok.1.2.1; omega⟩
  by_cases hT : pgIn K t
  · unfold pgIn at hT
    unfold nPg
    omega
  · have e3 : vB K t = false := by unfold vB; rw [vIn_no hT]
    have : vB K t = true := ht
    rw [e3] at this
    cases this
theorem l2Pages_calls (d : DV) (K : DK) (w : World) (hn : K.n ≤ 4096) :
    Calls Tryz.prog 140 #[dval d K] w fun e w' => e = .returned (.int .i64 (nPg K : Nat)) ∧ Below w.heap.size w w' := by
  have FIN : Hid _ := (Below.refl w.heap.size w).alloc (Nat.le_refl _) (.cells #[.slice d.sa K.n d.sc, .slice d.pa K.m d.pc] 37)
  have hq : (K.n : Int).tdiv 4 = ((nPg K : Nat) : Int) := by rw [Int.tdiv_eq_ediv_of_nonneg (by omega)]; unfold nPg; omega
  have hb : nPg K ≤ 1024 := by unfold nPg; omega
  generalize nPg K = N at *
  unfold dval
  go_enter Tryz.func140, Tryz.ntmps140
  go_wp2
  go_ret
  exact ⟨rfl, FIN.out⟩
noncomputable def ldT (K : DK) (root : Int) : Option (Option Tr) :=
  match dOkB K with
  | false => none
  | true => if root = 0 then some none else (rdT (pgD K) (nPg K + 1) 0 ⟨[], -1⟩ root).bind fun x => if okT x.1 true (strOfNums []) (strOfNums []) = true then some (some x.1) else none
structure LdT (K : DK) (root : Int) (B : Nat) (w : World) (cs : List Value) (T : Tr) : Prop where
  ex : ∃ ns nv na nc seen tall sb p, cs = trc na ns.length nc p sb (nPg K) tall false ∧ ns.length ≤ 1048576 ∧ Rep ns T true [p] [] ∧ rdT (pgD K) (nPg K + 1) 0 ⟨[], -1⟩ root = some (T, ⟨seen, tall⟩) ∧
    ∀ g u, Blk u 207 g cs → Below w.heap.size w u → TSt B g sb (nPg K) p u ns nv na nc seen tall false
theorem TSt.setRt {B0 g sb N : Nat} {rt : Int} {w : World} {ns : List NdK} {nv : Nat → NdV} {na : Option Addr} {nc : Nat} {seen : List Int} {tall : Int} {bad : Bool} (h : TSt B0 g sb N rt w ns nv na nc seen tall bad) (p : Int) : TSt B0 g sb N p (w.setCell ⟨g, 1, none⟩ (.int .i64 p)) ns nv na nc seen tall bad := by
  have ho := onlyB_setCell w g 1 (.int .i64 p)
  have hk : ∀ t, 207 ≠ t → KeepT t w (w.setCell ⟨g, 1, none⟩ (.int .i64 p)) := fun t ht => keepT_only ho h.blk ht
  exact ⟨h.blk.set 1 (.int .i64 p), h.mks.keep (hk _ (by decide)), ownsRow_keepT h.nodes (hk _ (by decide)), fun i hi => (h.each i hi).keep (hk _ (by decide)) (hk _ (by decide)), Nat.le_trans h.gB ho.size, h.ok⟩
theorem VRow.only {w w' : World} {d : DV} {K : DK} {gv g : Nat} (h : VRow w d K gv) (ho : OnlyB g w w') (hne : gv ≠ g) : VRow w' d K gv :=
  ⟨Nat.lt_of_lt_of_le h.1 ho.size, fun t ht => by rw [World.cell?_of_block (a := ⟨gv, t, none⟩) (ho.block gv h.1 hne)]; exact h.2 t ht⟩
def trz : List Value := [.slice none 0 0, .int .i64 0, .slice none 0 0, .int .i64 0, .bool false]
def tr1 : List Value := [.slice none 0 0, .int .i64 (-1), .slice none 0 0, .int .i64 (-1), .bool false]
theorem tr1_one : ∀ u ∈ tr1, u.oneCell' = true := by intro u hu; simp [tr1] at hu; rcases hu with rfl | rfl | rfl | rfl | rfl <;> rfl
theorem all_one {cs : List Value} (h : ∀ u ∈ cs, u.oneCell' = true) : cs.toArray.all (·.oneCell') = true := by
  rw [Array.all_eq_true_iff_forall_mem]
  intro v hv
  exact h v (by simpa using hv)
def LdP (K : DK) (root : Int) (w : World) (e : Ending) (w' : World) : Prop := Below w.heap.size w w' ∧ ∃ cs : List Value, cs.length = 5 ∧ (∀ u ∈ cs, u.oneCell' = true) ∧ ((ldT K root = none ∧ e = .returned (.tuple #[.agg cs.toArray, .bool false])) ∨ (ldT K root = some none ∧ cs = tr1 ∧ e = .returned (.tuple #[.agg cs.toArray, .bool true])) ∨ ∃ T, ldT K root = some (some T) ∧ LdT K root w.heap.size w' cs T ∧ e = .returned (.tuple #[.agg cs.toArray, .bool true]))
set_option maxHeartbeats 3000000 in
set_option maxRecDepth 100000 in
theorem l3Load_calls (d : DV) (K : DK) (root : Int) (w : World) (h : RDisk w d K) :
    Calls Tryz.prog 145 #[dval d K, .int .i64 root] w fun e w' => LdP K root w e w' := by
  have HD : Hid (∀ u, Below w.heap.size w u → RDisk u d K) := fun u b => h.below b
  have H0 : Hid _ := h
  obtain ⟨W0, hW0⟩ : ∃ W, W = w.alloc (Obj.cells #[.slice d.sa K.n d.sc, .slice d.pa K.m d.pc] 37) := ⟨_, rfl⟩
  obtain ⟨W1, hW1⟩ : ∃ W, W = W0.alloc (Obj.cells trz.toArray 207) := ⟨_, rfl⟩
  obtain ⟨W2, hW2⟩ : ∃ W, W = W1.alloc (Obj.cells tr1.toArray 207) := ⟨_, rfl⟩
  have q0 : Below w.heap.size w W0 := by rw [hW0]; exact (Below.refl _ _).alloc (Nat.le_refl _) _
  have q1 : Below W0.heap.size W0 W1 := by rw [hW1]; exact (Below.refl _ _).alloc (Nat.le_refl _) _
  have q2 : Below W1.heap.size W1 W2 := by rw [hW2]; exact (Below.refl _ _).alloc (Nat.le_refl _) _
  have z0 : W0.heap.size = w.heap.size + 1 := by rw [hW0]; simp
  have z1 : W1.heap.size = w.heap.size + 2 := by rw [hW1]; simp [z0]
  have kD : Blk W2 37 w.heap.size [.slice d.sa K.n d.sc, .slice d.pa K.m d.pc] := ((by rw [hW0]; exact blk_new w _ _ : Blk W0 37 w.heap.size [.slice d.sa K.n d.sc, .slice d.pa K.m d.pc]).below q1).below q2
  have kR : Blk W2 207 (w.heap.size + 1) trz := ((by rw [hW1, ← z0]; exact blk_new W0 _ _ : Blk W1 207 (w.heap.size + 1) trz).below q2)
  have kT : Blk W2 207 (w.heap.size + 2) tr1 := by rw [hW2, ← z1]; exact blk_new W1 _ _
  have d2 : Below w.heap.size w W2 := (q0.trans (q1.mono q0.size)).trans (q2.mono (Nat.le_trans q0.size q1.size))
  have z2 : W2.heap.size = w.heap.size + 3 := by rw [hW2]; simp [z1]
  have sD : (Tryz.prog.info? 37).map (·.size) = some (#[Value.slice d.sa K.n d.sc, Value.slice d.pa K.m d.pc] : Array Value).size := sizeDk
  have sT : (Tryz.prog.info? 207).map (·.size) = some tr1.toArray.size := sizeTr
  have OKC := specDiskOk_calls d K W2 (h.below d2)
  unfold dval at OKC ⊢
  go_enter Tryz.func145, Tryz.ntmps145
  go_upto_region 2 with fail
  change Code.wp _ _ _ _ (((w.alloc (Obj.cells #[.slice d.sa K.n d.sc, .slice d.pa K.m d.pc] 37)).alloc (Obj.cells trz.toArray 207)).alloc (Obj.cells tr1.toArray 207))
  rw [← hW0, ← hW1, ← hW2]
  have hz2 : w.heap.size + 1 + 1 < W2.heap.size := by omega
  have kT' : Blk W2 207 (w.heap.size + 1 + 1) tr1 := kT
  clear hW0 hW1 hW2 q0 q1 q2 z0 z1 z2 kT
  obtain ⟨tb, htb⟩ : ∃ x, x = w.heap.size + 1 + 1 := ⟨_, rfl⟩
  obtain ⟨rb, hrb⟩ : ∃ x, x = w.heap.size + 1 := ⟨_, rfl⟩
  rw [← htb] at hz2 kT' ⊢
  rw [← hrb] at kR ⊢
  have hne1 : w.heap.size < rb := by omega
  have hne2 : rb < tb := by omega
  clear htb hrb
  go_wp2_with (refine wpList_load_row rfl 37 _ rfl w.heap.size rfl 37 #[.slice d.sa K.n d.sc, .slice d.pa K.m d.pc] (0, 0) _ kD Tryz.underlying37 rfl sD ?_)
  refine OKC.mono ?_
  rintro e w3 ⟨rfl, b3⟩
  have d3 : Below w.heap.size w w3 := d2.trans (b3.mono d2.size)
  have kD3 := kD.below b3
  have kR3 := kR.below b3
  have kT3 := kT'.below b3
  have hz3 : tb < w3.heap.size := by have := b3.size; omega
  have kF := kR3.setRow tr1
  have oF := onlyB_setRow w3 rb tr1.toArray
  have dF : Below w.heap.size w (w3.setRow rb tr1.toArray) := d3.trans (oF.below (by omega) d3.size)
  have H3 : Hid _ := And.intro d3 dF
  clear OKC kD kR kT' d2 b3 d3 dF oF hz2
  cases hok : dOkB K with
  | false =>
    have hL : Hid (ldT K root = none) := by show ldT K root = none; unfold ldT; rw [hok]
    clear hok
    go_wp2_with (first | (refine wpList_load_row rfl 207 _ rfl tb rfl 207 tr1.toArray (0, 0) _ kT3 Tryz.underlying207 rfl sT ?_) | (refine wpList_store_row rfl 207 _ _ rfl rb tr1.toArray rfl rfl 207 _ kR3 sT rfl (all_one tr1_one) ?_))
    refine bodyPost_ret (v := .tuple #[.agg tr1.toArray, .bool false]) ?_ rfl ⟨H3.out.2, tr1, rfl, tr1_one, Or.inl ⟨hL.out, rfl⟩⟩
    exact results_cellTmp Tryz.results145 _ _ rb 207 tr1.toArray _ rfl kF Tryz.underlying207 rfl sT rfl
  | true =>
  have hdo := dOk_of hok
  by_cases hr0 : root = 0
  · have hL : Hid (ldT K root = some none) := by show ldT K root = some none; unfold ldT; rw [hok, if_pos hr0]
    subst hr0
    clear hok
    go_wp2_with (first | (refine wpList_load_row rfl 207 _ rfl tb rfl 207 tr1.toArray (0, 0) _ kT3 Tryz.underlying207 rfl sT ?_) | (refine wpList_store_row rfl 207 _ _ rfl rb tr1.toArray rfl rfl 207 _ kR3 sT rfl (all_one tr1_one) ?_))
    refine bodyPost_ret (v := .tuple #[.agg tr1.toArray, .bool true]) ?_ rfl ⟨H3.out.2, tr1, rfl, tr1_one, Or.inr (Or.inl ⟨hL.out, rfl, rfl⟩)⟩
    exact results_cellTmp Tryz.results145 _ _ rb 207 tr1.toArray _ rfl kF Tryz.underlying207 rfl sT rfl
  · have hr0' : (root == 0) = false := by simp [hr0]
    have hL : Hid (ldT K root = (rdT (pgD K) (nPg K + 1) 0 ⟨[], -1⟩ root).bind fun x => if okT x.1 true (strOfNums []) (strOfNums []) = true then some (some x.1) else none) := by show ldT K root = _; unfold ldT; rw [hok, if_neg hr0]
    have PW := pgD_ok H0.out hdo
    have hN4 := hdo.1.2.1
    clear kF hok
    have NWC := l1Now_calls d K w3 (HD.out w3 H3.out.1) hdo
    unfold dval at NWC
    go_wp2_with (refine wpList_load_row rfl 37 _ rfl w.heap.size rfl 37 #[.slice d.sa K.n d.sc, .slice d.pa K.m d.pc] (0, 0) _ kD3 Tryz.underlying37 rfl sD ?_)
    refine NWC.mono ?_
    rintro e w4 ⟨gv, cv, rfl, b4, o4⟩
    have v4 := vrow_of H0.out hdo o4
    have hgv : w3.heap.size ≤ gv := (World.ownsRow.lt o4 gv rfl).1
    have q5 : Below w4.heap.size w4 (w4.alloc (Obj.cells #[.slice (some ⟨gv, 0, none⟩) K.n cv] 249)) := (Below.refl _ _).alloc (Nat.le_refl _) _
    have k5 := blk_new w4 249 #[.slice (some ⟨gv, 0, none⟩) K.n cv]
    have u5 : Below w3.heap.size w3 (w4.alloc (Obj.cells #[.slice (some ⟨gv, 0, none⟩) K.n cv] 249)) := b4.trans (q5.mono b4.size)
    have v5 := v4.below q5
    have hz4 := b4.size
    clear NWC b4 o4 v4 q5
    go_upto_region 7 with fail
    generalize w4.alloc (Obj.cells #[.slice (some ⟨gv, 0, none⟩) K.n cv] 249) = W5 at *
    have k5' : Blk W5 249 w4.heap.size [.slice (some ⟨gv, 0, none⟩) K.n cv] := k5
    generalize hvb : w4.heap.size = vb at *
    clear k5 hvb
    have PGC := l2Pages_calls d K W5 hN4
    unfold dval at PGC
    have kD5 := kD3.below u5
    have hz5 : w3.heap.size ≤ W5.heap.size := u5.size
    go_wp2_with (refine wpList_load_row rfl 37 _ rfl w.heap.size rfl 37 #[.slice d.sa K.n d.sc, .slice d.pa K.m d.pc] (0, 0) _ kD5 Tryz.underlying37 rfl sD ?_)
    refine PGC.mono ?_
    rintro e w6 ⟨rfl, b6⟩
    have hN1 : nPg K ≤ 1024 := PW.le
    have MK := run_madeBo (nPg K) (by omega) w6
    have q7 : Below w6.heap.size w6 (w6.alloc (.cells (madeCells #[.bool false] (nPg K)) 4)) := (Below.refl _ _).alloc (Nat.le_refl _) _
    have m7 := own_madeBo w6.heap.size (nPg K) (by omega) w6 (Nat.le_refl _)
    have u6 : Below w3.heap.size w3 w6 := u5.trans (b6.mono u5.size)
    have d6 : Below w.heap.size w w6 := H3.out.1.trans (u6.mono H3.out.1.size)
    have kT7 := (kT3.below u6).below q7
    have v6 := v5.below b6
    have kV7 := (k5'.below b6).below q7
    have hz6 : w3.heap.size ≤ w6.heap.size := u6.size
    have c2 : (w6.alloc (.cells (madeCells #[.bool false] (nPg K)) 4)).cell? ⟨tb, 2, none⟩ = some (.slice none 0 0) := kT7.cell 2
    have f2 := kT7.free 2
    have o8 := onlyB_setCell (w6.alloc (.cells (madeCells #[.bool false] (nPg K)) 4)) tb 2 (.slice (some ⟨w6.heap.size, 0, none⟩) (nPg K) (nPg K))
    have kp8 : ∀ t, 207 ≠ t → KeepT t (w6.alloc (.cells (madeCells #[.bool false] (nPg K)) 4)) _ := fun t ht => keepT_only o8 kT7 ht
    have st8 : TSt w6.heap.size tb w6.heap.size (nPg K) (-1) ((w6.alloc (.cells (madeCells #[.bool false] (nPg K)) 4)).setCell ⟨tb, 2, none⟩ (.slice (some ⟨w6.heap.size, 0, none⟩) (nPg K) (nPg K))) [] (fun _ => nilV) none 0 [] (-1) false :=
      ⟨kT7.set 2 _, m7.keep (kp8 _ (by decide)), orow_nil _ _ _ _ _, fun i hi => absurd hi (Nat.not_lt_zero _), Nat.le_trans q7.size o8.size, ⟨List.nodup_nil, fun x hx => by simp at hx⟩⟩
    have kV8 := kV7.keepT (kp8 _ (by decide))
    have w68 : OnlyB tb w6 ((w6.alloc (.cells (madeCells #[.bool false] (nPg K)) 4)).setCell ⟨tb, 2, none⟩ (.slice (some ⟨w6.heap.size, 0, none⟩) (nPg K) (nPg K))) := (Below.onlyB q7 tb).trans o8
    have VW : VwOk (pgD K) (.slice (some ⟨gv, 0, none⟩) K.n cv) tb w6 := fun u hu t => by
      have bu : Below w.heap.size w u := d6.trans (hu.below (by omega) d6.size)
      exact viewPage_calls d K t gv cv u (HD.out u bu) hdo (v6.only hu (by omega))
    have RC := read_calls (pgD K) (nPg K) w6.heap.size tb w6.heap.size (-1) (.slice (some ⟨gv, 0, none⟩) K.n cv) w6 PW VW (Nat.le_refl _) (nPg K + 1) 0 root [] (fun _ => nilV) none 0 [] (-1) _ w68 st8 (by simp) (by simp)
    have kD8 := ((kD5.below b6).below q7).keepT (kp8 _ (by decide))
    have kR8 : Blk ((w6.alloc (.cells (madeCells #[.bool false] (nPg K)) 4)).setCell ⟨tb, 2, none⟩ (.slice (some ⟨w6.heap.size, 0, none⟩) (nPg K) (nPg K))) 207 rb trz := ((kR3.below u6).below q7).only o8 (by omega)
    have H8 : Hid _ := And.intro st8 (And.intro w68 (And.intro kR8 d6))
    have sV : (Tryz.prog.info? 249).map (·.size) = some (#[Value.slice (some ⟨gv, 0, none⟩) K.n cv] : Array Value).size := by kernel_rfl
    clear PGC b6 q7 m7 u5 u6 d6 kT7 v5 v6 kV7 o8 kp8 st8 w68 VW kD8 kR8 kD5 kD3 kR3 kT3 k5'
    generalize hNK : nPg K = N at *
    have HNK : Hid _ := hNK
    clear hNK
    go_upto_region 8 with fail
    clear MK c2 f2
    generalize (w6.alloc (.cells (madeCells #[.bool false] N) 4)).setCell ⟨tb, 2, none⟩ (.slice (some ⟨w6.heap.size, 0, none⟩) N N) = W8 at *
    go_wp2_with (refine wpList_load_row rfl 249 _ rfl vb rfl 249 #[.slice (some ⟨gv, 0, none⟩) K.n cv] (0, 0) _ kV8 Tryz.underlying249 rfl sV ?_)
    refine RC.mono ?_
    rintro e w9 hQ
    obtain ⟨p, ms, nv', na', nc', seen', tall', bad', rfl, Q⟩ := hQ
    have st9 := Q.st
    have hQl := Q.le
    have hres := Q.res
    rw [List.nil_append] at st9 hQl hres
    have hO9 : OnlyB tb w6 w9 := Q.fr.onlyG H8.out.1 (Nat.le_refl _) H8.out.2.1
    have kR9 : Blk w9 207 rb trz := (Q.fr.block rb H8.out.2.2.1.lt (by omega) (by omega) (by intro e; cases e)).trans H8.out.2.2.1
    have c1 : w9.cell? ⟨tb, 1, none⟩ = some (.int .i64 (-1)) := st9.blk.cell 1
    have f1 := st9.blk.free 1
    have oR := onlyB_setCell w9 tb 1 (.int .i64 p)
    have st10 := st9.setRt p
    have kR10 := kR9.only oR (by omega)
    have dW : Below w.heap.size w (w9.setCell ⟨tb, 1, none⟩ (.int .i64 p)) := H8.out.2.2.2.trans ((hO9.trans oR).below (by omega) H8.out.2.2.2.size)
    have hnl : ms.length ≤ 1048576 := by have := st9.ok.le; omega
    have HR : Hid _ := hres
    clear Q RC st9 hQl hres hO9 kR9 oR H8 kV8 sV
    go_upto_region 9 with fail
    clear c1 f1
    generalize w9.setCell ⟨tb, 1, none⟩ (.int .i64 p) = W10 at *
    have dr : Below W10.heap.size W10 W10.drew := ⟨rfl, rfl, rfl, Nat.le_refl _, fun _ _ => rfl⟩
    have stD := st10.belowT dr
    have kRD := kR10.below dr
    have dD : Below w.heap.size w W10.drew := dW.trans (dr.mono dW.size)
    obtain ⟨cs, hcs⟩ : ∃ cs, cs = trc na' ms.length nc' p w6.heap.size N tall' bad' := ⟨_, rfl⟩
    have sC : (Tryz.prog.info? 207).map (·.size) = some cs.toArray.size := by rw [hcs]; exact sizeTr
    have soC : trz.toArray.size = cs.toArray.size := by rw [hcs]; rfl
    have hcs1 : ∀ u ∈ cs, u.oneCell' = true := by rw [hcs]; intro u hu; simp [trc] at hu; rcases hu with rfl | rfl | rfl | rfl | rfl <;> rfl
    have HCS : Hid _ := hcs
    have hcsl : Hid (cs.length = 5) := by show cs.length = 5; rw [hcs]; rfl
    have KEY : Hid (∀ u : World, Blk u 207 tb cs → (Instr.loadAt 207 (.pointer (some ⟨tb, 0, none⟩))).run Tryz.prog u = .ok (.agg cs.toArray) u ∧ u.cell? ⟨tb, 4, none⟩ = some (.bool bad') ∧ u.cell? ⟨tb, 1, none⟩ = some (.int .i64 p)) := fun u hu => by
      refine ⟨?_, (hu.cell 4).trans (by rw [hcs]; rfl), (hu.cell 1).trans (by rw [hcs]; rfl)⟩
      simp only [Instr.loadAt, Instr.sureAddr, Sem.run_bind, Sem.run_pure, Result.andThen]
      exact run_loadVar_row u tb 207 207 cs.toArray (0, 0) _ hu Tryz.underlying207 rfl sC
    have kB : Blk W10.drew 207 tb cs := by rw [hcs]; exact stD.blk
    clear hcs
    refine wp_regionD (fun u => (Instr.loadAt 207 (.pointer (some ⟨tb, 0, none⟩))).run Tryz.prog u = .ok (.agg cs.toArray) u ∧ u.cell? ⟨tb, 4, none⟩ = some (.bool bad') ∧ u.cell? ⟨tb, 1, none⟩ = some (.int .i64 p)) (fun k => false) (by kernel_rfl) ?_
    generalize W10.drew = WD at *
    have cs0 := KEY.out WD kB
    clear st10 kR10 dW dr
    rcases HR.out with ⟨hb, T, hT, hiT, hRp⟩ | ⟨hb, hT⟩
    · subst hb
      replace hT : rdT (pgD K) (N + 1) 0 ⟨[], -1⟩ root = some (T, ⟨seen', tall'⟩) := hT
      have TO := rdT_ok PW _ _ _ _ _ _ hT
      have OC := (ord_all (B0 := w6.heap.size) (g := tb) (sb := w6.heap.size) (N := N) (rt := p) (ns := ms) (nv := nv') (na := na') (nc := nc') (seen := seen') (tall := tall') (bad := false) hnl T).1 TO.isT TO.full TO.sm p (strOfNums []) (strOfNums []) WD stD hRp
      generalize hok2 : okT T true (strOfNums []) (strOfNums []) = okb at *
      refine takeV 0 27 (v := .agg cs.toArray) rfl ?hya0 cs0 ?resta0
      case hya0 => exact fun u hSw => yield_load (p := .pointer (some ⟨tb, 0, none⟩)) rfl rfl hSw.1
      simp only [Act.put, setL, List.set]
      refine takeV 1 28 (v := ?vva1) rfl ?hya1 cs0 ?resta1
      case hya1 => (intro w hSw; obtain ⟨h1, h2, h3⟩ := hSw; go_simp; try with_reducible rfl)
      simp only [Act.put, setL, List.set]
      refine takeV 2 29 (v := ?vva2) rfl ?hya2 cs0 ?resta2
      case hya2 => (intro w hSw; obtain ⟨h1, h2, h3⟩ := hSw; go_simp; try with_reducible rfl)
      simp only [Act.put, setL, List.set]
      refine takeV 3 30 (v := ?vva3) rfl ?hya3 cs0 ?resta3
      case hya3 => (intro w hSw; obtain ⟨h1, h2, h3⟩ := hSw; go_simp; try with_reducible rfl)
      simp only [Act.put, setL, List.set]
      refine takeV 4 31 (v := ?vva4) rfl ?hya4 cs0 ?resta4
      case hya4 => (intro w hSw; obtain ⟨h1, h2, h3⟩ := hSw; go_simp; try with_reducible rfl)
      simp only [Act.put, setL, List.set]
      refine takeV 5 32 (v := ?vva5) rfl ?hya5 cs0 ?resta5
      case hya5 => (intro w hSw; obtain ⟨h1, h2, h3⟩ := hSw; go_simp; try with_reducible rfl)
      simp only [Act.put, setL, List.set]
      refine takeV 6 33 (v := ?vva6) rfl ?hya6 cs0 ?resta6
      case hya6 => (intro w hSw; obtain ⟨h1, h2, h3⟩ := hSw; go_simp; try with_reducible rfl)
      simp only [Act.put, setL, List.set]
      refine wpAnyD_one 7 (by kernel_rfl) rfl (fun KK hK => ?_)
      rw [if_pos (show Region.wanted _ _ = true from rfl)]
      go_wp2_with fail
      refine OC.mono ?_
      rintro e wE ⟨rfl, bE⟩
      have stE := stD.belowT bE
      have kRE := kRD.below bE
      have kBE := kB.below bE
      have dE : Below w.heap.size w wE := dD.trans (bE.mono dD.size)
      have csE := KEY.out wE kBE
      have kF := kRE.setRow cs
      have oF := onlyB_setRow wE rb cs.toArray
      have csF := KEY.out _ (kBE.only oF (by omega))
      have dF : Below w.heap.size w (wE.setRow rb cs.toArray) := dE.trans (oF.below (by omega) dE.size)
      have stF : ∀ g u, Blk u 207 g cs → Below (wE.setRow rb cs.toArray).heap.size (wE.setRow rb cs.toArray) u → TSt w.heap.size g w6.heap.size N p u ms nv' na' nc' seen' tall' false := fun g u hu hb => by
        have kp : ∀ t, 207 ≠ t → KeepT t wE u := fun t ht => (keepT_only oF kRE ht).trans (keepT_below hb)
        have hle : w.heap.size ≤ w6.heap.size := by omega
        exact ⟨by rw [← HCS.out]; exact hu, (stE.mks.keep (kp _ (by decide))).mono hle, ORow.mono (ownsRow_keepT stE.nodes (kp _ (by decide))) hle, fun i hi => (stE.each i hi).keep (kp _ (by decide)) (kp _ (by decide)), Nat.le_trans dF.size hb.size, stE.ok⟩
      have HF : Hid _ := And.intro dF stF
      clear dF stF stE kBE dE OC oF
      refine hK.out _ _ (fun _ => csE) ?_
      clear hK KK
      refine takeV 8 35 (v := ?vvb8) rfl ?hyb8 csE ?restb8
      case hyb8 => (intro w hSw; obtain ⟨h1, h2, h3⟩ := hSw; go_simp; try with_reducible rfl)
      simp only [Act.put, setL, List.set]
      refine wpAnyD_one 9 (by kernel_rfl) rfl (fun KK hK => ?_)
      rw [if_pos (show Region.wanted _ _ = true from rfl)]
      refine wp_store_row 207 _ _ rfl rb cs.toArray rfl rfl 207 _ kRE sC soC (all_one hcs1) ?_
      refine hK.out _ _ (fun _ => csF) ?_
      clear hK KK
      refine wpAnyD_one 10 (by kernel_rfl) rfl (fun KK hK => ?_)
      rw [if_pos (show Region.wanted _ _ = true from rfl)]
      go_wp2_with fail
      refine hK.out _ _ (fun _ => csF) ?_
      clear hK KK
      refine wpAnyD_done (by kernel_rfl) ?_ _
      clear cs0 csF csE
      go_wp2_with fail
      refine bodyPost_ret (v := .tuple #[.agg cs.toArray, .bool okb]) ?_ rfl ?_
      · exact results_cellTmp Tryz.results145 _ _ rb 207 cs.toArray _ rfl kF Tryz.underlying207 rfl sC rfl
      · refine ⟨HF.out.1, cs, hcsl.out, hcs1, ?_⟩
        cases okb with
        | false => exact Or.inl ⟨by rw [hL.out, hT]; simp [hok2], rfl⟩
        | true =>
          refine Or.inr (Or.inr ⟨T, by rw [hL.out, hT]; simp [hok2], ⟨?_⟩, rfl⟩)
          have e := HNK.out
          subst e
          exact ⟨ms, nv', na', nc', seen', tall', w6.heap.size, p, HCS.out, hnl, hRp, hT, HF.out.2⟩
    · subst hb
      replace hT : rdT (pgD K) (N + 1) 0 ⟨[], -1⟩ root = none := hT
      have kF := kRD.setRow cs
      have oF := onlyB_setRow WD rb cs.toArray
      have csF := KEY.out _ (kB.only oF (by omega))
      have dF : Below w.heap.size w (WD.setRow rb cs.toArray) := dD.trans (oF.below (by omega) dD.size)
      have HF : Hid _ := dF
      clear dF oF stD kB dD
      refine takeV 0 27 (v := .agg cs.toArray) rfl ?hyc0 cs0 ?restc0
      case hyc0 => exact fun u hSw => yield_load (p := .pointer (some ⟨tb, 0, none⟩)) rfl rfl hSw.1
      simp only [Act.put, setL, List.set]
      refine takeV 1 28 (v := ?vvc1) rfl ?hyc1 cs0 ?restc1
      case hyc1 => (intro w hSw; obtain ⟨h1, h2, h3⟩ := hSw; go_simp; try with_reducible rfl)
      simp only [Act.put, setL, List.set]
      refine takeV 2 29 (v := ?vvc2) rfl ?hyc2 cs0 ?restc2
      case hyc2 => (intro w hSw; obtain ⟨h1, h2, h3⟩ := hSw; go_simp; try with_reducible rfl)
      simp only [Act.put, setL, List.set]
      refine takeV 3 30 (v := ?vvc3) rfl ?hyc3 cs0 ?restc3
      case hyc3 => (intro w hSw; obtain ⟨h1, h2, h3⟩ := hSw; go_simp; try with_reducible rfl)
      simp only [Act.put, setL, List.set]
      refine takeV 4 31 (v := ?vvc4) rfl ?hyc4 cs0 ?restc4
      case hyc4 => (intro w hSw; obtain ⟨h1, h2, h3⟩ := hSw; go_simp; try with_reducible rfl)
      simp only [Act.put, setL, List.set]
      refine takeU 5 32 cs0 ?_
      simp only [Act.put, setL, List.set]
      refine takeU 6 33 cs0 ?_
      simp only [Act.put, setL, List.set]
      refine takeU 7 34 cs0 ?_
      simp only [Act.put, setL, List.set]
      refine takeV 8 35 (v := ?vvc8) rfl ?hyc8 cs0 ?restc8
      case hyc8 => (intro w hSw; obtain ⟨h1, h2, h3⟩ := hSw; go_simp; try with_reducible rfl)
      simp only [Act.put, setL, List.set]
      refine wpAnyD_one 9 (by kernel_rfl) rfl (fun KK hK => ?_)
      rw [if_pos (show Region.wanted _ _ = true from rfl)]
      refine wp_store_row 207 _ _ rfl rb cs.toArray rfl rfl 207 _ kRD sC soC (all_one hcs1) ?_
      refine hK.out _ _ (fun _ => csF) ?_
      clear hK KK
      refine wpAnyD_one 10 (by kernel_rfl) rfl (fun KK hK => ?_)
      rw [if_pos (show Region.wanted _ _ = true from rfl)]
      go_wp2_with fail
      refine hK.out _ _ (fun _ => csF) ?_
      clear hK KK
      refine wpAnyD_done (by kernel_rfl) ?_ _
      clear cs0 csF
      go_wp2_with fail
      refine bodyPost_ret (v := .tuple #[.agg cs.toArray, .bool false]) ?_ rfl ?_
      · exact results_cellTmp Tryz.results145 _ _ rb 207 cs.toArray _ rfl kF Tryz.underlying207 rfl sC rfl
      · exact ⟨HF.out, cs, hcsl.out, hcs1, Or.inl ⟨by rw [hL.out, hT]; rfl, rfl⟩⟩
end Go.Proofs.YtnohmedccbogkaaGreatDoor

namespace Go.Proofs.YtnohmedccbogkaaGreatDoor
open Go.RowKit
set_option linter.unusedVariables false
def pgO : Option Tr → List Int
  | none => []
  | some T => pgsT T
noncomputable def tpB (K : DK) (root : Int) : Bool := (ldT K root).isSome
noncomputable def tpL (K : DK) (root : Int) : List Int := match ldT K root with | none => [] | some x => mkd (pgO x) (nPg K)
theorem pages_neg (g mb N : Nat) (w : World) : Calls Tryz.prog 177 #[.pointer (some ⟨g, 0, none⟩), .int .i64 (-1), .slice (some ⟨mb, 0, none⟩) N N] w fun e w' => e = .returned (.tuple #[]) ∧ w' = w := by
  go_enter Tryz.func177, Tryz.ntmps177
  go_wp2_with fail
  exact bodyPost_ret (v := .tuple #[]) (by simp [results, Tryz.results177]) rfl ⟨rfl, rfl⟩
set_option maxHeartbeats 3000000 in
set_option maxRecDepth 100000 in
theorem treePages_calls (d : DV) (K : DK) (root : Int) (w : World) (h : RDisk w d K) :
    Calls Tryz.prog 141 #[dval d K, .int .i64 root] w fun e w' => ∃ a c, e = .returned (.tuple #[.slice a (tpL K root).length c, .bool (tpB K root)]) ∧ Below w.heap.size w w' ∧ Own1 3 w.heap.size w' a (tpL K root).length c (on (tpL K root)) := by
  have q0 : Below w.heap.size w (w.alloc (Obj.cells #[.slice d.sa K.n d.sc, .slice d.pa K.m d.pc] 37)) := (Below.refl _ _).alloc (Nat.le_refl _) _
  have kD := blk_new w 37 #[.slice d.sa K.n d.sc, .slice d.pa K.m d.pc]
  have z0 : (w.alloc (Obj.cells #[.slice d.sa K.n d.sc, .slice d.pa K.m d.pc] 37)).heap.size = w.heap.size + 1 := by simp
  have sD : (Tryz.prog.info? 37).map (·.size) = some (#[Value.slice d.sa K.n d.sc, Value.slice d.pa K.m d.pc] : Array Value).size := sizeDk
  have H0 : Hid _ := h
  unfold dval
  go_enter Tryz.func141, Tryz.ntmps141
  go_upto_region 1 with fail
  change Code.wp _ _ _ _ (w.alloc (Obj.cells #[.slice d.sa K.n d.sc, .slice d.pa K.m d.pc] 37))
  have LC := l3Load_calls d K root _ (h.below q0)
  generalize w.alloc (Obj.cells #[.slice d.sa K.n d.sc, .slice d.pa K.m d.pc] 37) = W0 at *
  have kD' : Blk W0 37 w.heap.size [.slice d.sa K.n d.sc, .slice d.pa K.m d.pc] := kD
  have hz0 : w.heap.size < W0.heap.size := by omega
  unfold dval at LC
  clear kD z0
  go_wp2_with (refine wpList_load_row rfl 37 _ rfl w.heap.size rfl 37 #[.slice d.sa K.n d.sc, .slice d.pa K.m d.pc] (0, 0) _ kD' Tryz.underlying37 rfl sD ?_)
  refine LC.mono ?_
  rintro e w1 hP
  obtain ⟨b1, cs, hcl, hc1, hcase⟩ := hP
  have kD1 := kD'.below b1
  have d1 : Below w.heap.size w w1 := q0.trans (b1.mono q0.size)
  have q2 : Below w1.heap.size w1 (w1.alloc (Obj.cells cs.toArray 207)) := (Below.refl _ _).alloc (Nat.le_refl _) _
  have k2 := blk_new w1 207 cs.toArray
  have sC : (Tryz.prog.info? 207).map (·.size) = some cs.toArray.size := by rw [List.size_toArray, hcl]; exact sizeTr
  have soC : trz.toArray.size = cs.toArray.size := by rw [List.size_toArray, List.size_toArray, hcl]; rfl
  have d2 : Below w.heap.size w (w1.alloc (Obj.cells cs.toArray 207)) := d1.trans (q2.mono d1.size)
  have kD2 := kD1.below q2
  have k2' : Blk (w1.alloc (Obj.cells cs.toArray 207)) 207 w1.heap.size cs := by
    have : Blk (w1.alloc (Obj.cells cs.toArray 207)) 207 w1.heap.size cs.toArray.toList := k2
    simpa using this
  have H2 : Hid _ := And.intro d2 (And.intro kD2 (And.intro k2' q2))
  clear LC kD' kD1 b1 d1 d2 kD2 k2 k2' q2 q0
  rcases hcase with ⟨hl, rfl⟩ | ⟨hl, hcs, rfl⟩ | ⟨T, hl, hT, rfl⟩
  · have hTL : Hid (tpL K root = []) := by show tpL K root = []; unfold tpL; rw [hl]
    have hTB : Hid (tpB K root = false) := by show tpB K root = false; unfold tpB; rw [hl]; rfl
    go_upto_region 2 with (refine wpList_storeNew rfl 207 _ _ rfl w1 trz.toArray cs.toArray 207 rfl rfl sC soC (all_one hc1) ?_)
    change Code.wp _ _ _ _ (w1.alloc (Obj.cells cs.toArray 207))
    generalize w1.alloc (Obj.cells cs.toArray 207) = W2 at *
    generalize hgb : w1.heap.size = gb at *
    clear hgb
    have q3 : Below W2.heap.size W2 (W2.alloc (Obj.cells #[] 3)) := (Below.refl _ _).alloc (Nat.le_refl _) _
    have HF : Hid _ := And.intro (H2.out.1.trans (q3.mono H2.out.1.size)) (own1_lit0 3 w.heap.size W2 H2.out.1.size)
    clear q3 H2
    go_wp2_with fail
    go_ret2
    rw [hTL.out, hTB.out]
    exact ⟨_, 0, rfl, HF.out.1, HF.out.2⟩
  · have HCS : Hid _ := hcs
    clear hcs
    have hTL : Hid (tpL K root = mkd [] (nPg K)) := by show tpL K root = _; unfold tpL; rw [hl]; rfl
    have hTB : Hid (tpB K root = true) := by show tpB K root = true; unfold tpB; rw [hl]; rfl
    have hN4 : K.n ≤ 4096 := by
      cases hk : dOkB K with
      | true => exact (dOk_of hk).1.2.1
      | false => unfold ldT at hl; rw [hk] at hl; cases hl
    go_upto_region 2 with (refine wpList_storeNew rfl 207 _ _ rfl w1 trz.toArray cs.toArray 207 rfl rfl sC soC (all_one hc1) ?_)
    change Code.wp _ _ _ _ (w1.alloc (Obj.cells cs.toArray 207))
    generalize w1.alloc (Obj.cells cs.toArray 207) = W2 at *
    generalize hgb : w1.heap.size = gb at *
    clear hgb
    have PGC := l2Pages_calls d K W2 hN4
    unfold dval at PGC
    have kD2 := H2.out.2.1
    go_wp2_with (refine wpList_load_row rfl 37 _ rfl w.heap.size rfl 37 #[.slice d.sa K.n d.sc, .slice d.pa K.m d.pc] (0, 0) _ kD2 Tryz.underlying37 rfl sD ?_)
    refine PGC.mono ?_
    rintro e w3 ⟨rfl, b3⟩
    have hN1 : nPg K ≤ 1024 := by unfold nPg; omega
    have MK := run_madeBo (nPg K) (by omega) w3
    have q4 : Below w3.heap.size w3 (w3.alloc (.cells (madeCells #[.bool false] (nPg K)) 4)) := (Below.refl _ _).alloc (Nat.le_refl _) _
    have m4 := own_madeBo 0 (nPg K) (by omega) w3 (Nat.zero_le _)
    have u4 : Below W2.heap.size W2 (w3.alloc (.cells (madeCells #[.bool false] (nPg K)) 4)) := b3.trans (q4.mono b3.size)
    have k4 := H2.out.2.2.1.below u4
    have d4 : Below w.heap.size w (w3.alloc (.cells (madeCells #[.bool false] (nPg K)) 4)) := H2.out.1.trans (u4.mono H2.out.1.size)
    have hz3 := H2.out.1.size
    have hz4 := b3.size
    clear PGC b3 q4 kD2
    go_upto_region 5 with fail
    generalize w3.alloc (.cells (madeCells #[.bool false] (nPg K)) 4) = W4 at *
    generalize hmb : w3.heap.size = mb at *
    clear MK
    have c1 : W4.cell? ⟨gb, 1, none⟩ = some (.int .i64 (-1)) := (k4.cell 1).trans (by rw [HCS.out]; rfl)
    have PC : Calls Tryz.prog 177 #[.pointer (some ⟨gb, 0, none⟩), .int .i64 (-1), .slice (some ⟨mb, 0, none⟩) (nPg K) (nPg K)] W4 fun e w' => e = .returned (.tuple #[]) ∧ OnlyB mb W4 w' ∧ Own1 4 0 w' (some ⟨mb, 0, none⟩) (nPg K) (nPg K) (mkB [] (nPg K)) := (pages_neg gb mb (nPg K) W4).mono (fun e w' hh => by obtain ⟨rfl, rfl⟩ := hh; exact ⟨rfl, OnlyB.refl _ _, m4⟩)
    clear m4
    go_wp2_with fail
    refine PC.mono ?_
    rintro e w5 ⟨rfl, o5, m5⟩
    clear PC c1
    have d5 : Below w.heap.size w w5 := d4.trans (o5.below (by omega) d4.size)
    have MC := l3Marked_calls 0 mb (nPg K) _ w5 (by omega) m5
    have D5 : Hid _ := d5
    clear d4 d5 o5 m5 u4 k4
    go_wp2_with fail
    refine MC.mono ?_
    rintro e w6 ⟨a6, c6, rfl, b6, o6⟩
    have HF : Hid _ := And.intro (D5.out.trans (b6.mono D5.out.size)) (o6.mono D5.out.size)
    clear MC b6 o6
    go_wp2_with fail
    go_ret2
    rw [hTL.out, hTB.out]
    exact ⟨a6, c6, rfl, HF.out.1, HF.out.2⟩
  · have hTL : Hid (tpL K root = mkd (pgsT T) (nPg K)) := by show tpL K root = _; unfold tpL; rw [hl]; rfl
    have hTB : Hid (tpB K root = true) := by show tpB K root = true; unfold tpB; rw [hl]; rfl
    have HT : Hid _ := hT
    have HOK : Hid (dOk K) := by
      cases hk : dOkB K with
      | true => exact dOk_of hk
      | false => unfold ldT at hl; rw [hk] at hl; cases hl
    have hN4 : K.n ≤ 4096 := HOK.out.1.2.1
    clear hT
    go_upto_region 2 with (refine wpList_storeNew rfl 207 _ _ rfl w1 trz.toArray cs.toArray 207 rfl rfl sC soC (all_one hc1) ?_)
    change Code.wp _ _ _ _ (w1.alloc (Obj.cells cs.toArray 207))
    generalize w1.alloc (Obj.cells cs.toArray 207) = W2 at *
    generalize hgb : w1.heap.size = gb at *
    have HGB : Hid (w1.heap.size = gb) := hgb
    clear hgb
    obtain ⟨ns, nv, na, nc, seen, tall, sb, p, hcs, hnl, hRp, hrd, hst⟩ := HT.out.ex
    have HEX : Hid _ := And.intro hcs (And.intro hRp (And.intro hrd hst))
    clear hcs hRp hrd hst
    have PGC := l2Pages_calls d K W2 hN4
    unfold dval at PGC
    have kD2 := H2.out.2.1
    go_wp2_with (refine wpList_load_row rfl 37 _ rfl w.heap.size rfl 37 #[.slice d.sa K.n d.sc, .slice d.pa K.m d.pc] (0, 0) _ kD2 Tryz.underlying37 rfl sD ?_)
    refine PGC.mono ?_
    rintro e w3 ⟨rfl, b3⟩
    have hsb3 : sb < w3.heap.size := by
      have hb1 : Below w1.heap.size w1 w3 := by rw [HGB.out]; exact H2.out.2.2.2.trans (b3.mono (by have := H2.out.2.2.2.size; have := HGB.out; omega))
      exact (HEX.out.2.2.2 gb w3 (H2.out.2.2.1.below b3) hb1).mks.lt rfl
    have hN1 : nPg K ≤ 1024 := by unfold nPg; omega
    have MK := run_madeBo (nPg K) (by omega) w3
    have q4 : Below w3.heap.size w3 (w3.alloc (.cells (madeCells #[.bool false] (nPg K)) 4)) := (Below.refl _ _).alloc (Nat.le_refl _) _
    have m4 := own_madeBo 0 (nPg K) (by omega) w3 (Nat.zero_le _)
    have u4 : Below W2.heap.size W2 (w3.alloc (.cells (madeCells #[.bool false] (nPg K)) 4)) := b3.trans (q4.mono b3.size)
    have k4 := H2.out.2.2.1.below u4
    have d4 : Below w.heap.size w (w3.alloc (.cells (madeCells #[.bool false] (nPg K)) 4)) := H2.out.1.trans (u4.mono H2.out.1.size)
    have hz3 := H2.out.1.size
    have hz4 := b3.size
    clear PGC b3 q4 kD2
    go_upto_region 5 with fail
    generalize w3.alloc (.cells (madeCells #[.bool false] (nPg K)) 4) = W4 at *
    generalize hmb : w3.heap.size = mb at *
    clear MK
    have st4 := HEX.out.2.2.2 gb W4 k4 (by rw [HGB.out]; exact H2.out.2.2.2.trans (u4.mono (by have := H2.out.2.2.2.size; have := HGB.out; omega)))
    have hok4 : dOk K := HOK.out
    have PW := pgD_ok H0.out hok4
    have TO := rdT_ok PW _ _ _ _ _ _ HEX.out.2.2.1
    have hsbm : mb ≠ sb := by omega
    have c1 : W4.cell? ⟨gb, 1, none⟩ = some (.int .i64 p) := (k4.cell 1).trans (by rw [HEX.out.1]; rfl)
    have PC := (pg_all (mb := mb) hsbm hnl hN1 T).1 TO.isT TO.full TO.sm p [] W4 st4 m4 HEX.out.2.1 (fun x hx => by have := TO.pgs x hx; exact ⟨by omega, this.2⟩)
    rw [List.append_nil] at PC
    clear st4 PW TO
    clear m4
    go_wp2_with fail
    refine PC.mono ?_
    rintro e w5 ⟨rfl, o5, m5⟩
    clear PC c1
    have d5 : Below w.heap.size w w5 := d4.trans (o5.below (by omega) d4.size)
    have MC := l3Marked_calls 0 mb (nPg K) _ w5 (by omega) m5
    have D5 : Hid _ := d5
    clear d4 d5 o5 m5 u4 k4
    go_wp2_with fail
    refine MC.mono ?_
    rintro e w6 ⟨a6, c6, rfl, b6, o6⟩
    have HF : Hid _ := And.intro (D5.out.trans (b6.mono D5.out.size)) (o6.mono D5.out.size)
    clear MC b6 o6
    go_wp2_with fail
    go_ret2
    rw [hTL.out, hTB.out]
    exact ⟨a6, c6, rfl, HF.out.1, HF.out.2⟩
end Go.Proofs.YtnohmedccbogkaaGreatDoor

namespace Go.Proofs.YtnohmedccbogkaaGreatDoor
open Go.RowKit
set_option linter.unusedVariables false
theorem rdK_ents {r : St → Int → Option (Tr × St)} (hr : ∀ st id t st', r st id = some (t, st') → (entsT t).length ≤ 256 * (pgsT t).length) : ∀ (ls : List (ByteArray × Int)) (st : St) (t : Tr) (st' : St), rdK r ls st = some (t, st') → (entsT t).length ≤ 256 * (pgsT t).length
  | [], st, t, st', h => by rw [rdK] at h; cases h; simp [entsT]
  | (s, id) :: ls, st, t, st', h => by
    rw [rdK] at h
    obtain ⟨x, h1, h2⟩ := Option.bind_eq_some_iff.1 h
    obtain ⟨y, h3, h4⟩ := Option.bind_eq_some_iff.1 h2
    cases h4
    have a := hr st id x.1 x.2 h1
    have b := rdK_ents hr ls x.2 y.1 y.2 h3
    rw [entsT, pgsT, List.length_append, List.length_append]
    omega
theorem rdT_ents {P : Pg} (hb : ∀ t, (P.bd t).length ≤ 256) : ∀ (f : Nat) (steps : Int) (st : St) (id : Int) (t : Tr) (st' : St), rdT P f steps st id = some (t, st') → (entsT t).length ≤ 256 * (pgsT t).length
  | 0, steps, st, id, t, st', h => by rw [rdT] at h; cases h
  | f + 1, steps, st, id, t, st', h => by
    rw [rdT] at h
    cases hp : pgOk P st id with
    | false => rw [if_neg (by rw [hp]; decide)] at h; cases h
    | true =>
      rw [if_pos hp] at h
      by_cases hk : P.kd id = 2
      · rw [if_pos hk] at h
        by_cases ht : st.tall < 0 ∨ st.tall = steps
        · rw [if_pos ht] at h
          obtain ⟨es, h1, h2⟩ := Option.bind_eq_some_iff.1 h
          by_cases he : es.isEmpty = true
          · rw [if_pos he] at h2; cases h2
          · rw [if_neg he] at h2
            cases h2
            have F := (lfP_facts _ _ es (Nat.le_refl _) h1).1
            have := hb id
            simp [entsT, pgsT]
            omega
        · rw [if_neg ht] at h; cases h
      · rw [if_neg hk] at h
        obtain ⟨ls, h1, h2⟩ := Option.bind_eq_some_iff.1 h
        obtain ⟨y, h3, h4⟩ := Option.map_eq_some_iff.1 h2
        cases h4
        have := rdK_ents (fun st id t st' => rdT_ents hb f (steps + 1) st id t st') ls ⟨id :: st.seen, st.tall⟩ y.1 y.2 h3
        rw [entsT, pgsT, List.length_cons]
        omega
def enO : Option Tr → List (ByteArray × ByteArray)
  | none => []
  | some T => entsT T
noncomputable def enL (K : DK) (root : Int) : List (ByteArray × ByteArray) := match ldT K root with | none => [] | some x => enO x
theorem entries_neg (g : Nat) (a : Option Addr) (n c : Nat) (w : World) : Calls Tryz.prog 146 #[.pointer (some ⟨g, 0, none⟩), .int .i64 (-1), .slice a n c] w fun e w' => e = .returned (.slice a n c) ∧ w' = w := by
  go_enter Tryz.func146, Tryz.ntmps146
  go_wp2_with fail
  go_ret
  exact ⟨rfl, rfl⟩
set_option maxHeartbeats 3000000 in
set_option maxRecDepth 100000 in
theorem specEntries_calls (d : DV) (K : DK) (root : Int) (w : World) (h : RDisk w d K) :
    Calls Tryz.prog 79 #[dval d K, .int .i64 root] w fun e w' => ∃ a c, e = .returned (.tuple #[.slice a (enL K root).length c, .bool (tpB K root)]) ∧ Below w.heap.size w w' ∧ ORow 93 2 w.heap.size w' a (enL K root).length c (enF (enL K root)) ∧ (enL K root).length ≤ 262144 := by
  obtain ⟨W1, hW1⟩ : ∃ W, W = w.alloc (Obj.cells #[.slice d.sa K.n d.sc, .slice d.pa K.m d.pc] 37) := ⟨_, rfl⟩
  obtain ⟨W0, hW0⟩ : ∃ W, W = W1.alloc (Obj.cells #[] 93) := ⟨_, rfl⟩
  have q1 : Below w.heap.size w W1 := by rw [hW1]; exact (Below.refl _ _).alloc (Nat.le_refl _) _
  have q2 : Below W1.heap.size W1 W0 := by rw [hW0]; exact (Below.refl _ _).alloc (Nat.le_refl _) _
  have z1 : W1.heap.size = w.heap.size + 1 := by rw [hW1]; simp
  have kD : Blk W0 37 w.heap.size [.slice d.sa K.n d.sc, .slice d.pa K.m d.pc] := (by rw [hW1]; exact blk_new w _ _ : Blk W1 37 w.heap.size [.slice d.sa K.n d.sc, .slice d.pa K.m d.pc]).below q2
  have r0 : ORow 93 2 w.heap.size W0 (some ⟨w.heap.size + 1, 0, none⟩) 0 0 (enF []) := by rw [hW0, ← z1]; exact orow_lit0 _ _ _ _ (by omega) _
  have q0 : Below w.heap.size w W0 := q1.trans (q2.mono q1.size)
  have sD : (Tryz.prog.info? 37).map (·.size) = some (#[Value.slice d.sa K.n d.sc, Value.slice d.pa K.m d.pc] : Array Value).size := sizeDk
  have LC := l3Load_calls d K root W0 (h.below q0)
  have H0 : Hid _ := h
  have hz0 : w.heap.size + 1 < W0.heap.size := by rw [hW0]; simp [z1]
  unfold dval at LC ⊢
  clear q1 q2 z1
  go_enter Tryz.func79, Tryz.ntmps79
  go_upto_region 2 with fail
  change Code.wp _ _ _ _ ((w.alloc (Obj.cells #[.slice d.sa K.n d.sc, .slice d.pa K.m d.pc] 37)).alloc (Obj.cells #[] 93))
  rw [← hW1, ← hW0]
  clear hW1 hW0
  go_wp2_with (refine wpList_load_row rfl 37 _ rfl w.heap.size rfl 37 #[.slice d.sa K.n d.sc, .slice d.pa K.m d.pc] (0, 0) _ kD Tryz.underlying37 rfl sD ?_)
  refine LC.mono ?_
  rintro e w1 hP
  obtain ⟨b1, cs, hcl, hc1, hcase⟩ := hP
  have d1 : Below w.heap.size w w1 := q0.trans (b1.mono q0.size)
  have HZ1 : Hid (w.heap.size + 1 < w1.heap.size) := by show w.heap.size + 1 < w1.heap.size; have := b1.size; omega
  have q2 : Below w1.heap.size w1 (w1.alloc (Obj.cells cs.toArray 207)) := (Below.refl _ _).alloc (Nat.le_refl _) _
  have k2 := blk_new w1 207 cs.toArray
  have sC : (Tryz.prog.info? 207).map (·.size) = some cs.toArray.size := by rw [List.size_toArray, hcl]; exact sizeTr
  have soC : trz.toArray.size = cs.toArray.size := by rw [List.size_toArray, List.size_toArray, hcl]; rfl
  have d2 : Below w.heap.size w (w1.alloc (Obj.cells cs.toArray 207)) := d1.trans (q2.mono d1.size)
  have k2' : Blk (w1.alloc (Obj.cells cs.toArray 207)) 207 w1.heap.size cs := by
    have : Blk (w1.alloc (Obj.cells cs.toArray 207)) 207 w1.heap.size cs.toArray.toList := k2
    simpa using this
  have r2 := (r0.below b1).below q2
  have H2 : Hid _ := And.intro d2 (And.intro r2 (And.intro k2' q2))
  clear LC kD b1 d1 d2 k2 k2' q2 q0 r0 r2
  rcases hcase with ⟨hl, rfl⟩ | ⟨hl, hcs, rfl⟩ | ⟨T, hl, hT, rfl⟩
  · have hEL : Hid (enL K root = []) := by show enL K root = []; unfold enL; rw [hl]
    have hTB : Hid (tpB K root = false) := by show tpB K root = false; unfold tpB; rw [hl]; rfl
    go_upto_region 3 with (refine wpList_storeNew rfl 207 _ _ rfl w1 trz.toArray cs.toArray 207 rfl rfl sC soC (all_one hc1) ?_)
    change Code.wp _ _ _ _ (w1.alloc (Obj.cells cs.toArray 207))
    generalize w1.alloc (Obj.cells cs.toArray 207) = W2 at *
    generalize hgb : w1.heap.size = gb at *
    clear hgb
    go_wp2_with fail
    go_ret2
    rw [hEL.out, hTB.out]
    exact ⟨_, 0, rfl, H2.out.1, H2.out.2.1, by simp⟩
  · have hEL : Hid (enL K root = []) := by show enL K root = []; unfold enL; rw [hl]; rfl
    have hTB : Hid (tpB K root = true) := by show tpB K root = true; unfold tpB; rw [hl]; rfl
    have HCS : Hid _ := hcs
    clear hcs
    go_upto_region 3 with (refine wpList_storeNew rfl 207 _ _ rfl w1 trz.toArray cs.toArray 207 rfl rfl sC soC (all_one hc1) ?_)
    change Code.wp _ _ _ _ (w1.alloc (Obj.cells cs.toArray 207))
    generalize w1.alloc (Obj.cells cs.toArray 207) = W2 at *
    generalize hgb : w1.heap.size = gb at *
    clear hgb
    have c1 : W2.cell? ⟨gb, 1, none⟩ = some (.int .i64 (-1)) := (H2.out.2.2.1.cell 1).trans (by rw [HCS.out]; rfl)
    have EN := entries_neg gb (some ⟨w.heap.size + 1, 0, none⟩) 0 0 W2
    go_wp2_with fail
    refine EN.mono ?_
    rintro e w3 ⟨rfl, hw3⟩
    obtain rfl := hw3.symm
    clear hw3 EN c1
    go_wp2_with fail
    go_ret2
    rw [hEL.out, hTB.out]
    exact ⟨_, 0, rfl, H2.out.1, H2.out.2.1, by simp⟩
  · have hEL : Hid (enL K root = entsT T) := by show enL K root = entsT T; unfold enL; rw [hl]; rfl
    have hTB : Hid (tpB K root = true) := by show tpB K root = true; unfold tpB; rw [hl]; rfl
    have HT : Hid _ := hT
    have HOK : Hid (dOk K) := by
      cases hk : dOkB K with
      | true => exact dOk_of hk
      | false => unfold ldT at hl; rw [hk] at hl; cases hl
    clear hT
    go_upto_region 3 with (refine wpList_storeNew rfl 207 _ _ rfl w1 trz.toArray cs.toArray 207 rfl rfl sC soC (all_one hc1) ?_)
    change Code.wp _ _ _ _ (w1.alloc (Obj.cells cs.toArray 207))
    generalize w1.alloc (Obj.cells cs.toArray 207) = W2 at *
    generalize hgb : w1.heap.size = gb at *
    have HGB : Hid (w1.heap.size = gb) := hgb
    clear hgb
    obtain ⟨ns, nv, na, nc, seen, tall, sb, p, hcs, hnl, hRp, hrd, hst⟩ := HT.out.ex
    have hok4 : dOk K := HOK.out
    have PW := pgD_ok H0.out hok4
    have TK := rdT_ok PW _ _ _ _ _ _ hrd
    have hel := rdT_ents (fun t => vL_le hok4 t) _ _ _ _ _ _ hrd
    have st2 := hst gb W2 H2.out.2.2.1 (by rw [HGB.out]; exact H2.out.2.2.2)
    have hsn : (pgsT T).length ≤ 1024 := by
      have h1 := TK.seen.length_eq
      rw [List.append_nil] at h1
      have h2 := st2.ok.le
      have h3 := PW.le
      have h4 : seen.length = (pgsT T).length := h1
      omega
    have hel2 : (entsT T).length ≤ 262144 := by omega
    have hz2 := H2.out.1.size
    have EC := (et_all hnl T).1 TK.isT TK.full TK.sm p [] (some ⟨w.heap.size + 1, 0, none⟩) 0 w.heap.size W2 st2 H2.out.2.1 hz2 hRp (by simpa using (by omega : (entsT T).length ≤ 1048576))
    have c1 : W2.cell? ⟨gb, 1, none⟩ = some (.int .i64 p) := (H2.out.2.2.1.cell 1).trans (by rw [hcs]; rfl)
    have HEL2 : Hid _ := hel2
    have hz1 : w.heap.size + 1 < gb := by have := HGB.out; have := HZ1.out; omega
    clear hcs hnl hRp hrd hst hok4 PW TK hel st2 hsn hel2
    rw [List.nil_append] at EC
    go_wp2_with fail
    refine EC.mono ?_
    rintro e w3 ⟨a3, c3, rfl, h3⟩
    have hQ := h3.own
    rw [List.nil_append] at hQ
    have d3 : Below w.heap.size w w3 := H2.out.1.trans (h3.fr.below hz2 (fun k hk => by simp [rb] at hk; omega))
    have FIN : Hid _ := And.intro d3 hQ
    clear EC h3 hQ d3 c1
    go_wp2_with fail
    go_ret2
    rw [hEL.out, hTB.out]
    exact ⟨a3, c3, rfl, FIN.out.1, FIN.out.2, HEL2.out⟩
end Go.Proofs.YtnohmedccbogkaaGreatDoor

namespace Go.Proofs.YtnohmedccbogkaaGreatDoor
open Go.RowKit
set_option linter.unusedVariables false
set_option maxHeartbeats 8000000 in
set_option maxRecDepth 100000 in
theorem kids_calls (P : Pg) (B0 ty fn : Nat) (v : Value) (S : World → Prop) (X : Nat → Prop) (HS : Src P B0 ty fn v S X) (g m N : Nat) (src : Value) (f : Nat) (HN : NdC P S X B0 g m N src f)
    (steps : Nat) (l : List Int) (gc B : Nat) (st : St) (x : LSg) (w : World) (hw : Wk S B0 g m N src w st x) (hc : Cur w gc B l) (hB : B ≤ w.heap.size) (hl : l.length ≤ 1048576) (hgc : gc ≠ g) (hgm : gc ≠ m) (hgB : B0 ≤ gc) (hf : N < f + st.seen.length) (hs : steps ≤ st.seen.length) :
    Calls Tryz.prog 208 #[.pointer (some ⟨g, 0, none⟩), .pointer (some ⟨gc, 0, none⟩), .int .i64 (steps : Nat)] w (KdP P S X B0 g m N src f steps l st x gc w) := by
  have E := links_calls gc B l w hc hB hl
  have hg := hw.blk.lt
  have hmw := hw.set.lt
  have hX : ∀ k, X k → k < w.heap.size := fun k e => by have := HS.low k e; have := hw.gB; omega
  have hIB := hc.byte
  have hkc : ∃ xs, Blk w 162 gc xs := by
    obtain ⟨a, n, c, h⟩ := hc
    exact ⟨_, h.blk⟩
  obtain ⟨xs, hkc⟩ := hkc
  have H0 : Hid _ := And.intro hw (And.intro hIB hX)
  have HKC : Hid (Blk w 162 gc xs) := hkc
  clear hc hw hkc hIB hX
  go_enter Tryz.func208, Tryz.ntmps208
  go_wp2_with fail
  refine E.mono ?_
  rintro e w1 ⟨o1, hor⟩
  clear E
  have k1 := H0.out.1.keep HS (OnlyS.ofB o1) (fun e => hgc e.symm) (fun e => hgm e.symm) (fun k e => by subst e; exact hgB) (keepT_only o1 (show Blk w 162 gc xs from HKC.out) (by decide))
  have s1 := (OnlyS.ofB o1).mono (Z2 := (fun k => X k ∨ k = g ∨ k = m ∨ k = gc)) (fun k _ e => Or.inr (Or.inr (Or.inr e)))
  have hz1 := o1.size
  clear o1 HKC
  rcases hor with ⟨ls, la, lc, hin, rfl, hr⟩ | ⟨hno, rfl⟩
  rotate_left
  · have hno2 : ((inP l).bind fun ls => wkK (wkT P f (steps : Nat)) ls true st x) = none := by rw [hno]; rfl
    clear hno k1
    go_wp2
    exact ⟨rfl, s1, Or.inr ⟨hno2, rfl⟩⟩
  have hres : ((inP l).bind fun ls => wkK (wkT P f (steps : Nat)) ls true st x) = wkK (wkT P f (steps : Nat)) ls true st x := by rw [hin]; rfl
  have hlen := inP_len hin
  have hids := inP_ids H0.out.2.1 hin
  have HX : Hid _ := H0.out.2.2
  have H1 : Hid _ := And.intro k1 (And.intro s1 (And.intro hr (And.intro hres hids)))
  clear hin k1 s1 hr hres hids H0
  go_wp2_with fail
  go_loopw [7, 13] (fun s7 s13 wr => ∃ (i : Nat) (a : Option Addr) (c : Nat) (us : List (ByteArray × Value)) (ts : List (ByteArray × Tr)) (F : List Nat) (st1 : St) (x1 : LSg), s7 = .slice a us.length c ∧ s13 = .int .i64 (i : Nat) ∧ i ≤ ls.length ∧ KdI P S X B0 g m N src f steps st x gc w ls la lc i a c us ts F st1 x1 wr ∧ wkK (wkT P f (steps : Nat)) ls true st x = (wkK (wkT P f (steps : Nat)) (ls.drop i) (i == 0) st1 x1).map fun z => (consL ts z.1, z.2)) (fun _ s _ => ls.length - (intOf s).toNat)
  case atStart =>
    refine ⟨0, none, 0, [], [], [], st, x, rfl, by rfl, by omega, ⟨rfl, H1.out.2.1, H1.out.1, orow_nil _ _ _ _ _, ?_, by simp [rb], by simp, H1.out.2.2.1, Nat.le_refl _⟩, ?_⟩
    · show IRep w1 .nil [] []
      rw [IRep]
      exact ⟨rfl, rfl⟩
    · show _ = Option.map _ (wkK (wkT P f (steps : Nat)) ls true st x)
      generalize wkK (wkT P f (steps : Nat)) ls true st x = r
      cases r <;> rfl
  case round =>
    obtain ⟨i, a, c, us, ts, F, st1, x1, rfl, rfl, hi, hI, heq⟩ := hrel
    obtain ⟨wR, hwX⟩ : ∃ wX, wX = wr := ⟨_, rfl⟩
    subst hwX
    have hwz := hI.fr.size
    have HRS : Hid _ := H1.out.2.2.2.1
    have HID : Hid _ := H1.out.2.2.2.2
    clear H1
    have hul := hI.len
    have HI : Hid _ := hI
    by_cases hlt : i < ls.length
    · have hlt' : (i : Int) < (ls.length : Int) := by omega
      obtain ⟨b, rfl, hbB, hbl⟩ := orow_at hI.lnk (by omega)
      have hcl := fun j v hv => (hI.lnk.reads (lnF_ok ls _)).cells i hlt j v hv
      rw [show lnF ls i = [.string (ls.getD i l0).1, .int .i64 (ls.getD i l0).2] from rfl] at hcl
      have hdr : ls.drop i = ls.getD i l0 :: ls.drop (i + 1) := by
        rw [List.drop_eq_getElem_cons hlt]
        simp [List.getD, hlt]
      have hmem : ls.getD i l0 ∈ ls := by
        have : ls.getD i l0 = ls[i] := by simp [List.getD, hlt]
        rw [this]; exact List.getElem_mem _
      obtain ⟨id0, id1⟩ := HID.out _ hmem
      generalize ls.getD i l0 = en at *
      obtain ⟨sg, id⟩ := en
      have cc0 : wR.cell? ⟨b, i * 2, none⟩ = some (.string sg) := by have := hcl 0 _ rfl; simpa using this
      have cc1 : wR.cell? ⟨b, i * 2 + 1, none⟩ = some (.int .i64 id) := by have := hcl 1 _ rfl; simpa using this
      have heq2 : wkK (wkT P f (steps : Nat)) ls true st x = (if (i == 0) = true ∨ sl x1.1 sg = true then (wkT P f (steps : Nat) st1 (x1.1, if (i == 0) = true then x1.2 else sg) id).bind fun y => (wkK (wkT P f (steps : Nat)) (ls.drop (i + 1)) false y.2.1 y.2.2).map fun z => (.cons sg y.1 z.1, z.2) else none).map fun z => (consL ts z.1, z.2) := by rw [heq, hdr, wkK]
      have kE := blk_new wR 230 #[.string sg, .int .i64 id]
      have q2 : Below wR.heap.size wR (wR.alloc (Obj.cells #[.string sg, .int .i64 id] 230)) := (Below.refl _ _).alloc (Nat.le_refl _) _
      have z2 : (wR.alloc (Obj.cells #[.string sg, .int .i64 id] 230)).heap.size = wR.heap.size + 1 := by simp
      have hI2 := hI.below HS q2
      have HEQ : Hid _ := heq2
      clear hcl hdr hmem heq heq2 q2 HI hI
      go_upto_region 5 with (first | (refine wpList_storeNew rfl 230 _ _ rfl wR #[.string (strOfNums []), .int .i64 0] #[.string sg, .int .i64 id] 230 rfl rfl sizeLn rfl rfl ?_))
      change Code.wp _ _ _ _ (wR.alloc (Obj.cells #[.string sg, .int .i64 id] 230))
      generalize wR.alloc (Obj.cells #[.string sg, .int .i64 id] 230) = W2 at *
      generalize heb : wR.heap.size = eb at *
      have kE' : Blk W2 230 eb [.string sg, .int .i64 id] := kE
      clear kE cc0 cc1 HID
      have hgeb : g ≠ eb := by omega
      have hmeb : m ≠ eb := by omega
      rcases Nat.eq_zero_or_pos i with h0 | h0
      · have h00 : ¬ (0 : Int) < (i : Int) := by omega
        have hi0 : (i == 0) = true := by rw [h0]; rfl
        have H00 : Hid (i = 0) := h0
        clear h0
        obtain ⟨x3, hx3⟩ : ∃ x3 : LSg, x3 = x1 := ⟨_, rfl⟩
        have E3 : Hid (wkK (wkT P f (steps : Nat)) ls true st x = ((wkT P f (steps : Nat) st1 x3 id).bind fun y => (wkK (wkT P f (steps : Nat)) (ls.drop (i + 1)) false y.2.1 y.2.2).map fun z => (.cons sg y.1 z.1, z.2)).map fun z => (consL ts z.1, z.2)) := by
          have := HEQ.out
          rw [hi0, if_pos (Or.inl rfl), if_pos rfl] at this
          rw [hx3]
          exact this
        rw [← hx3] at hI2
        have H3 : Hid _ := And.intro hI2 kE'
        clear hI2 kE' HEQ hx3 hi0
        obtain ⟨W3, hW3⟩ : ∃ W3, W3 = W2 := ⟨_, rfl⟩
        have z3 : W3.heap.size = eb + 1 := by rw [hW3]; exact z2
        rw [← hW3] at H3
        subst hW3
        go_upto_region 8 with fail
        have HN1 := HN steps id st1 x3 W3.drew (H3.out.1.wk.below HS ⟨rfl, rfl, rfl, Nat.le_refl _, fun _ _ => rfl⟩) (by have := H3.out.1.sn; omega) (Nat.le_trans hs H3.out.1.sn) (by omega) (by omega)
        have cs8 : W3.drew.cell? ⟨eb, 0, none⟩ = some (.string sg) ∧ W3.drew.cell? ⟨eb, 1, none⟩ = some (.int .i64 id) := ⟨Blk.cell H3.out.2 0, Blk.cell H3.out.2 1⟩
        refine wp_regionD (fun u => u.cell? ⟨eb, 0, none⟩ = some (.string sg) ∧ u.cell? ⟨eb, 1, none⟩ = some (.int .i64 id)) (fun k => decide (10 ≤ k)) (by kernel_rfl) ?_
        refine takeY 0 33 cs8 ?_
        simp only [Act.put, setL, List.set]
        refine takeY 1 34 cs8 ?_
        simp only [Act.put, setL, List.set]
        refine takeY 2 35 cs8 ?_
        simp only [Act.put, setL, List.set]
        refine takeY 3 36 cs8 ?_
        simp only [Act.put, setL, List.set]
        refine takeY 4 37 cs8 ?_
        simp only [Act.put, setL, List.set]
        refine takeY 5 38 cs8 ?_
        simp only [Act.put, setL, List.set]
        refine takeY 6 39 cs8 ?_
        simp only [Act.put, setL, List.set]
        refine wpAnyD_one 7 (by kernel_rfl) rfl (fun KK hK => ?_)
        rw [if_pos (show Region.wanted _ _ = true from rfl)]
        go_wp2_with fail
        refine Calls.mono HN1 ?_
        rintro e w6 ⟨o6, ⟨t, st6, z6, G, ty6, p6, hw6, rfl, r6, n6, i6, k6, s6⟩ | ⟨hno, rfl⟩⟩
        rotate_left
        · have hfr : OnlyS (fun k => X k ∨ k = g ∨ k = m ∨ k = gc) w w6 := (H3.out.1.fr.drew).transN o6 (fun k hk e => by rcases e with e | e | e; exact Or.inl e; exact Or.inr (Or.inl e); exact Or.inr (Or.inr (Or.inl e)))
          go_wp2
          exact ⟨rfl, hfr, Or.inr ⟨by rw [HRS.out, E3.out, hno]; rfl, rfl⟩⟩
        clear HN1
        have kE6 : Blk w6 230 eb [.string sg, .int .i64 id] := Blk.onlyS (show Blk W3.drew 230 eb [.string sg, .int .i64 id] from H3.out.2) o6 (fun e => by rcases e with e | e | e; exact absurd (HX.out eb e) (by omega); exact hgeb e.symm; exact hmeb e.symm)
        have ck6 : w6.cell? ⟨eb, 0, none⟩ = some (.string sg) ∧ w6.cell? ⟨eb, 1, none⟩ = some (.int .i64 id) := ⟨Blk.cell kE6 0, Blk.cell kE6 1⟩
        have hz6 : W3.heap.size ≤ w6.heap.size := o6.size
        have H6 : Hid _ := And.intro o6 (And.intro r6 (And.intro n6 (And.intro i6 (And.intro k6 (And.intro s6 hw6)))))
        clear o6 r6 n6 i6 k6 s6 hw6 kE6
        go_wp2_with fail
        refine hK.out _ _ (fun _ => ck6) ?_
        clear hK KK
        refine wpAnyD_one 8 (by kernel_rfl) rfl (fun KK hK => ?_)
        rw [if_pos (show Region.wanted _ _ = true from rfl)]
        refine wp_build_eq1 _ _ rfl (cs := #[.string sg, .iface ty6 (.pointer p6)]) ?bkb ?_
        case bkb =>
          simp only [List.map_toArray, List.map_cons, List.map_nil]
          exact built_kd sg ty6 (.pointer p6)
        refine hK.out _ _ (fun _ => ck6) ?_
        clear hK KK
        refine wpAnyD_one 9 (by kernel_rfl) rfl (fun KK hK => ?_)
        rw [if_pos (show Region.wanted _ _ = true from rfl)]
        refine wp_buildSlice_eq1 _ _ _ rfl (v := .slice (some ⟨w6.heap.size, 0, none⟩) 1 1) (w' := w6.alloc (Obj.cells [.string sg, .iface ty6 (.pointer p6)].toArray 276)) ?bsb ?_
        case bsb =>
          simp only [List.map_toArray, List.map_cons, List.map_nil]
          exact run_bsRow elKd (by omega) (.agg #[.string sg, .iface ty6 (.pointer p6)]) [.string sg, .iface ty6 (.pointer p6)] rfl rfl w6
        refine hK.out _ _ (fun _ => ⟨(((Below.refl w6.heap.size w6).alloc (Nat.le_refl _) _).cell (p := ⟨eb, 0, none⟩) (show eb < w6.heap.size by omega)).trans ck6.1, (((Below.refl w6.heap.size w6).alloc (Nat.le_refl _) _).cell (p := ⟨eb, 1, none⟩) (show eb < w6.heap.size by omega)).trans ck6.2⟩) ?_
        clear hK KK
        have row6 : ORow 276 2 w.heap.size w6 a us.length c (kdF us) := orow_rb H3.out.1.row (fun k hk => H6.out.1.block k (orow_rb_lt H3.out.1.row k hk).2 (fun e => by have h9 := (orow_rb_lt H3.out.1.row k hk).1; rcases e with e | e | e; exact absurd (HX.out k e) (by omega); omega; omega))
        rw [hul] at row6
        refine wpAnyD_one 10 (by kernel_rfl) rfl (fun KK hK => ?_)
        rw [if_pos (show Region.wanted _ _ = true from rfl)]
        refine wp_appRowL _ _ elKd rfl w.heap.size a i c (kdF us) rfl row6 [.string sg, .iface ty6 (.pointer p6)] rfl (by simp [Value.oneCell']) rfl (by omega) (by omega) (by omega) ?_
        intro b8 c8 w8 o8 bl8 g8 at8
        refine hK.out _ _ (fun h => absurd h (by decide)) ?_
        clear hK KK
        rw [← hul] at o8 g8
        have I8 := KdI.more HS (KdI.below HS H3.out.1 (wr' := W3.drew) ⟨rfl, rfl, rfl, Nat.le_refl _, fun _ _ => rfl⟩) H6.out.1 hg hmw (HX.out) H6.out.2.1 H6.out.2.2.1 H6.out.2.2.2.1 H6.out.2.2.2.2.1 H6.out.2.2.2.2.2.1 (s := sg) o8 g8 at8
        have E8 : wkK (wkT P f (steps : Nat)) ls true st x = (wkK (wkT P f (steps : Nat)) (ls.drop (i + 1)) (i + 1 == 0) st6 z6).map fun z => (consL (ts ++ [(sg, t)]) z.1, z.2) := by
          rw [E3.out, H6.out.2.2.2.2.2.2]
          show Option.map _ (Option.map _ (wkK (wkT P f (steps : Nat)) (ls.drop (i + 1)) false st6 z6)) = Option.map _ (wkK (wkT P f (steps : Nat)) (ls.drop (i + 1)) false st6 z6)
          generalize wkK (wkT P f (steps : Nat)) (ls.drop (i + 1)) false st6 z6 = r
          cases r with
          | none => rfl
          | some z => simp [consL_app]
        have FIN : Hid _ := And.intro I8 E8
        clear I8 E8 o8 g8 bl8 row6 H6 H3 E3 ck6
        refine wpAnyD_one 11 (by kernel_rfl) rfl (fun KK hK => ?_)
        rw [if_pos (show Region.wanted _ _ = true from rfl)]
        go_wp2_with fail
        refine hK.out _ _ (fun h => absurd h (by decide)) ?_
        clear hK KK
        refine wpAnyD_done (by kernel_rfl) ?_ _
        clear cs8
        go_wp2
        go_roundw
        case rel => exact ⟨i + 1, _, _, _, _, _, _, _, by rw [List.length_append, hul]; rfl, by go_num, by omega, FIN.out.1, FIN.out.2⟩
        case measure => simp [intOf]; omega
      · have h00 : (0 : Int) < (i : Int) := by omega
        have hi0 : (i == 0) = false := by rw [beq_eq_false_iff_ne]; omega
        have c1 : W2.cell? ⟨eb, 0, none⟩ = some (.string sg) := kE'.cell 0
        have c2 : W2.cell? ⟨g, 3, none⟩ = some (.string x1.1) := hI2.wk.blk.cell 3
        have c5 : W2.cell? ⟨g, 4, none⟩ = some (.string x1.2) := hI2.wk.blk.cell 4
        have c4 : W2.frozen? ⟨g, 4, none⟩ = false := hI2.wk.blk.free 4
        have H2 : Hid _ := And.intro hI2 kE'
        clear hI2 kE'
        go_upto_region 6 with fail
        cases d1 : sl x1.1 sg with
        | false =>
          have d1' : (!Op.bytesLess sg.toList x1.1.toList && !sg.toList == x1.1.toList) = false := (gtr_is sg x1.1).trans d1
          have FINW : Hid (KdP P S X B0 g m N src f steps l st x gc w (.panicked badE) W2.drew) := ⟨H2.out.1.fr.drew, Or.inr ⟨by rw [HRS.out, HEQ.out, hi0, if_neg (by rw [d1]; decide)]; rfl, rfl⟩⟩
          refine wp_regionD (fun u => u.cell? ⟨eb, 0, none⟩ = some (.string sg) ∧ u.cell? ⟨g, 3, none⟩ = some (.string x1.1)) (fun k => decide (7 ≤ k)) (by kernel_rfl) ?_
          have cs : W2.drew.cell? ⟨eb, 0, none⟩ = some (.string sg) ∧ W2.drew.cell? ⟨g, 3, none⟩ = some (.string x1.1) := ⟨c1, c2⟩
          refine takeY 0 20 cs ?_
          simp only [Act.put, setL, List.set]
          refine takeY 1 21 cs ?_
          simp only [Act.put, setL, List.set]
          refine takeY 2 22 cs ?_
          simp only [Act.put, setL, List.set]
          refine takeY 3 23 cs ?_
          simp only [Act.put, setL, List.set]
          refine takeY 4 24 cs ?_
          simp only [Act.put, setL, List.set]
          refine takeY 5 25 cs ?_
          simp only [Act.put, setL, List.set]
          refine takeY 6 26 cs ?_
          simp only [Act.put, setL, List.set]
          refine wpAnyD_one 7 (by kernel_rfl) rfl (fun KK hK => ?_)
          rw [if_pos (show Region.wanted _ _ = true from rfl)]
          go_wp2_with fail
          refine (need_no _).mono ?_
          rintro e w' ⟨rfl, rfl⟩
          go_wp2
          exact ⟨rfl, FINW.out⟩
        | true =>
          have d1' : (!Op.bytesLess sg.toList x1.1.toList && !sg.toList == x1.1.toList) = true := (gtr_is sg x1.1).trans d1
          obtain ⟨x3, hx3⟩ : ∃ x3 : LSg, x3 = (x1.1, sg) := ⟨_, rfl⟩
          have E3 : Hid (wkK (wkT P f (steps : Nat)) ls true st x = ((wkT P f (steps : Nat) st1 x3 id).bind fun y => (wkK (wkT P f (steps : Nat)) (ls.drop (i + 1)) false y.2.1 y.2.2).map fun z => (.cons sg y.1 z.1, z.2)).map fun z => (consL ts z.1, z.2)) := by
            have := HEQ.out
            rw [hi0, if_pos (Or.inr d1), if_neg Bool.false_ne_true] at this
            rw [hx3]
            exact this
          go_quiet (first | (go_at_call 161; exact Calls.quiet_of_same (need_yes _)))
          have hI2' : KdI P S X B0 g m N src f steps st x gc w ls (some ⟨b, 0, none⟩) lc i a c us ts F st1 x1 (W2.drewN nq) := H2.out.1.below HS (below_drewNT (Below.refl _ _) nq)
          have hI3 := hI2'.sign HS hg sg
          rw [← hx3] at hI3
          have kE3 : Blk ((W2.drewN nq).setCell ⟨g, 4, none⟩ (.string sg)) 230 eb [.string sg, .int .i64 id] := Blk.only (show Blk (W2.drewN nq) 230 eb [.string sg, .int .i64 id] from H2.out.2) (onlyB_setCell (W2.drewN nq) g 4 (.string sg)) (Ne.symm hgeb)
          have z3 : ((W2.drewN nq).setCell ⟨g, 4, none⟩ (.string sg)).heap.size = eb + 1 := by rw [← z2]; simp
          have H3 : Hid _ := And.intro hI3 kE3
          clear hI3 kE3 hI2' HEQ H2 d1' hi0
          go_upto_region 8 with fail
          generalize (W2.drewN nq).setCell ⟨g, 4, none⟩ (.string sg) = W3 at *
          clear c1 c2 c4 c5 hx3 d1
          have HN1 := HN steps id st1 x3 W3.drew (H3.out.1.wk.below HS ⟨rfl, rfl, rfl, Nat.le_refl _, fun _ _ => rfl⟩) (by have := H3.out.1.sn; omega) (Nat.le_trans hs H3.out.1.sn) (by omega) (by omega)
          have cs8 : W3.drew.cell? ⟨eb, 0, none⟩ = some (.string sg) ∧ W3.drew.cell? ⟨eb, 1, none⟩ = some (.int .i64 id) := ⟨Blk.cell H3.out.2 0, Blk.cell H3.out.2 1⟩
          refine wp_regionD (fun u => u.cell? ⟨eb, 0, none⟩ = some (.string sg) ∧ u.cell? ⟨eb, 1, none⟩ = some (.int .i64 id)) (fun k => decide (10 ≤ k)) (by kernel_rfl) ?_
          refine takeY 0 33 cs8 ?_
          simp only [Act.put, setL, List.set]
          refine takeY 1 34 cs8 ?_
          simp only [Act.put, setL, List.set]
          refine takeY 2 35 cs8 ?_
          simp only [Act.put, setL, List.set]
          refine takeY 3 36 cs8 ?_
          simp only [Act.put, setL, List.set]
          refine takeY 4 37 cs8 ?_
          simp only [Act.put, setL, List.set]
          refine takeY 5 38 cs8 ?_
          simp only [Act.put, setL, List.set]
          refine takeY 6 39 cs8 ?_
          simp only [Act.put, setL, List.set]
          refine wpAnyD_one 7 (by kernel_rfl) rfl (fun KK hK => ?_)
          rw [if_pos (show Region.wanted _ _ = true from rfl)]
          go_wp2_with fail
          refine Calls.mono HN1 ?_
          rintro e w6 ⟨o6, ⟨t, st6, z6, G, ty6, p6, hw6, rfl, r6, n6, i6, k6, s6⟩ | ⟨hno, rfl⟩⟩
          rotate_left
          · have hfr : OnlyS (fun k => X k ∨ k = g ∨ k = m ∨ k = gc) w w6 := (H3.out.1.fr.drew).transN o6 (fun k hk e => by rcases e with e | e | e; exact Or.inl e; exact Or.inr (Or.inl e); exact Or.inr (Or.inr (Or.inl e)))
            go_wp2
            exact ⟨rfl, hfr, Or.inr ⟨by rw [HRS.out, E3.out, hno]; rfl, rfl⟩⟩
          clear HN1
          have kE6 : Blk w6 230 eb [.string sg, .int .i64 id] := Blk.onlyS (show Blk W3.drew 230 eb [.string sg, .int .i64 id] from H3.out.2) o6 (fun e => by rcases e with e | e | e; exact absurd (HX.out eb e) (by omega); exact hgeb e.symm; exact hmeb e.symm)
          have ck6 : w6.cell? ⟨eb, 0, none⟩ = some (.string sg) ∧ w6.cell? ⟨eb, 1, none⟩ = some (.int .i64 id) := ⟨Blk.cell kE6 0, Blk.cell kE6 1⟩
          have hz6 : W3.heap.size ≤ w6.heap.size := o6.size
          have H6 : Hid _ := And.intro o6 (And.intro r6 (And.intro n6 (And.intro i6 (And.intro k6 (And.intro s6 hw6)))))
          clear o6 r6 n6 i6 k6 s6 hw6 kE6
          go_wp2_with fail
          refine hK.out _ _ (fun _ => ck6) ?_
          clear hK KK
          refine wpAnyD_one 8 (by kernel_rfl) rfl (fun KK hK => ?_)
          rw [if_pos (show Region.wanted _ _ = true from rfl)]
          refine wp_build_eq1 _ _ rfl (cs := #[.string sg, .iface ty6 (.pointer p6)]) ?bkc ?_
          case bkc =>
            simp only [List.map_toArray, List.map_cons, List.map_nil]
            exact built_kd sg ty6 (.pointer p6)
          refine hK.out _ _ (fun _ => ck6) ?_
          clear hK KK
          refine wpAnyD_one 9 (by kernel_rfl) rfl (fun KK hK => ?_)
          rw [if_pos (show Region.wanted _ _ = true from rfl)]
          refine wp_buildSlice_eq1 _ _ _ rfl (v := .slice (some ⟨w6.heap.size, 0, none⟩) 1 1) (w' := w6.alloc (Obj.cells [.string sg, .iface ty6 (.pointer p6)].toArray 276)) ?bsc ?_
          case bsc =>
            simp only [List.map_toArray, List.map_cons, List.map_nil]
            exact run_bsRow elKd (by omega) (.agg #[.string sg, .iface ty6 (.pointer p6)]) [.string sg, .iface ty6 (.pointer p6)] rfl rfl w6
          refine hK.out _ _ (fun _ => ⟨(((Below.refl w6.heap.size w6).alloc (Nat.le_refl _) _).cell (p := ⟨eb, 0, none⟩) (show eb < w6.heap.size by omega)).trans ck6.1, (((Below.refl w6.heap.size w6).alloc (Nat.le_refl _) _).cell (p := ⟨eb, 1, none⟩) (show eb < w6.heap.size by omega)).trans ck6.2⟩) ?_
          clear hK KK
          have row6 : ORow 276 2 w.heap.size w6 a us.length c (kdF us) := orow_rb H3.out.1.row (fun k hk => H6.out.1.block k (orow_rb_lt H3.out.1.row k hk).2 (fun e => by have h9 := (orow_rb_lt H3.out.1.row k hk).1; rcases e with e | e | e; exact absurd (HX.out k e) (by omega); omega; omega))
          rw [hul] at row6
          refine wpAnyD_one 10 (by kernel_rfl) rfl (fun KK hK => ?_)
          rw [if_pos (show Region.wanted _ _ = true from rfl)]
          refine wp_appRowL _ _ elKd rfl w.heap.size a i c (kdF us) rfl row6 [.string sg, .iface ty6 (.pointer p6)] rfl (by simp [Value.oneCell']) rfl (by omega) (by omega) (by omega) ?_
          intro b8 c8 w8 o8 bl8 g8 at8
          refine hK.out _ _ (fun h => absurd h (by decide)) ?_
          clear hK KK
          rw [← hul] at o8 g8
          have I8 := KdI.more HS (KdI.below HS H3.out.1 (wr' := W3.drew) ⟨rfl, rfl, rfl, Nat.le_refl _, fun _ _ => rfl⟩) H6.out.1 hg hmw (HX.out) H6.out.2.1 H6.out.2.2.1 H6.out.2.2.2.1 H6.out.2.2.2.2.1 H6.out.2.2.2.2.2.1 (s := sg) o8 g8 at8
          have E8 : wkK (wkT P f (steps : Nat)) ls true st x = (wkK (wkT P f (steps : Nat)) (ls.drop (i + 1)) (i + 1 == 0) st6 z6).map fun z => (consL (ts ++ [(sg, t)]) z.1, z.2) := by
            rw [E3.out, H6.out.2.2.2.2.2.2]
            show Option.map _ (Option.map _ (wkK (wkT P f (steps : Nat)) (ls.drop (i + 1)) false st6 z6)) = Option.map _ (wkK (wkT P f (steps : Nat)) (ls.drop (i + 1)) false st6 z6)
            generalize wkK (wkT P f (steps : Nat)) (ls.drop (i + 1)) false st6 z6 = r
            cases r with
            | none => rfl
            | some z => simp [consL_app]
          have FIN : Hid _ := And.intro I8 E8
          clear I8 E8 o8 g8 bl8 row6 H6 H3 E3 ck6
          refine wpAnyD_one 11 (by kernel_rfl) rfl (fun KK hK => ?_)
          rw [if_pos (show Region.wanted _ _ = true from rfl)]
          go_wp2_with fail
          refine hK.out _ _ (fun h => absurd h (by decide)) ?_
          clear hK KK
          refine wpAnyD_done (by kernel_rfl) ?_ _
          clear cs8
          go_wp2
          go_roundw
          case rel => exact ⟨i + 1, _, _, _, _, _, _, _, by rw [List.length_append, hul]; rfl, by go_num, by omega, FIN.out.1, FIN.out.2⟩
          case measure => simp [intOf]; omega
    · have hi2 : i = ls.length := by omega
      have hfin : Hid (((inP l).bind fun ls => wkK (wkT P f (steps : Nat)) ls true st x) = some (consL ts .nil, st1, x1)) := by
        show ((inP l).bind fun ls => wkK (wkT P f (steps : Nat)) ls true st x) = some (consL ts .nil, st1, x1)
        rw [HRS.out, heq, hi2, List.drop_length, wkK]
        rfl
      have hnl : ¬ ((i : Int) < (ls.length : Int)) := by omega
      clear hI heq hul
      go_wp2_with fail
      go_ret
      exact ⟨HI.out.fr, Or.inl ⟨_, _, _, F, us, a, c, hfin.out, rfl, HI.out.row, HI.out.rep, HI.out.nd, HI.out.hi, HI.out.wk, HI.out.sn⟩⟩
end Go.Proofs.YtnohmedccbogkaaGreatDoor

namespace Go.Proofs.YtnohmedccbogkaaGreatDoor
open Go.RowKit
set_option linter.unusedVariables false
theorem keepT_S {t : Nat} {Z : Nat → Prop} {w w' : World} (ho : OnlyS Z w w') (hz : ∀ k, Z k → ∀ cs fr, w.heap[k]? ≠ some (.cells cs t fr)) : KeepT t w w' :=
  ⟨ho.size, fun k cs fr hk => by
    rw [ho.block k (Array.getElem?_eq_some_iff.1 hk).1 (fun e => hz k e cs fr hk)]
    exact hk⟩
theorem Blk.notT {w : World} {t g t2 : Nat} {xs : List Value} (h : Blk w t g xs) (hn : t ≠ t2) : ∀ cs fr, w.heap[g]? ≠ some (.cells cs t2 fr) := by
  intro cs fr e
  unfold Blk at h
  rw [h] at e
  cases e
  exact hn rfl
theorem SetI.putd {w w' : World} {m : Nat} {seen : List Int} {id : Int} {D : DataW Nat} (hD : w.ownsMap Tryz.prog 3 unitElem m seen.length D) (he : ∀ i : Int, Maps.has D (.int .i64 i) = seen.contains i)
    (h : w'.ownsMap Tryz.prog 3 unitElem m (seen.length + 1) (D.put (.int .i64 id) (.agg []))) : SetI w' m (id :: seen) :=
  ⟨_, h, fun i => by
    by_cases hi : i = id
    · subst hi
      rw [Maps.has_put_same hD.isMap (by trivial)]
      simp
    · rw [Maps.has_put_other (by intro e; cases e; exact hi rfl), he]
      simp [hi]⟩
theorem zeroU (w : World) : (zeroValue 236).run Tryz.prog w = .ok (.agg #[]) w := by kernel_rfl
theorem lawI : Maps.Keyed Tryz.prog 3 := Maps.int_keyed Tryz.underlying3
theorem built_pl (id : Int) : Tryz.prog.built 262 [(0, .int .i64 id)] = some #[.int .i64 id] := by kernel_rfl
theorem wkN_eq {P : Pg} {f steps : Nat} {st : St} {x : LSg} {id : Int} {l : List Int} (h1 : pgOk P st id = true) (h : P.kd id ≠ 2) (hl : P.bd id = l) : wkT P (f + 1) (steps : Nat) st x id = ((inP l).bind fun ls => wkK (wkT P f ((steps + 1 : Nat) : Int)) ls true ⟨id :: st.seen, st.tall⟩ x).map fun y => (.node id y.1, y.2.1, y.2.2) := by
  rw [wkT_node h1 h, hl]
  cases inP l with
  | none => rfl
  | some ls => rfl
theorem built_cu (a : Option Addr) (n c : Nat) : Tryz.prog.built 162 [(0, .slice a n c)] = some #[.slice a n c] := by kernel_rfl
theorem built_lf (id : Int) (a : Option Addr) (n c : Nat) : Tryz.prog.built 302 [(0, .agg #[.int .i64 id]), (1, .slice a n c)] = some #[.int .i64 id, .slice a n c] := by kernel_rfl
theorem built_in (id : Int) (a : Option Addr) (n c : Nat) : Tryz.prog.built 265 [(0, .agg #[.int .i64 id]), (1, .slice a n c)] = some #[.int .i64 id, .slice a n c] := by kernel_rfl
theorem Bs.blt {w : World} {a : Option Addr} {n c : Nat} {l : List Int} (h : Bs w a n c l) : ∀ b off, 0 < n → a = some ⟨b, off, none⟩ → b < w.heap.size := by
  intro b off hn e
  obtain ⟨b1, off1, e1, hb, _⟩ := h.at_ hn
  rw [e1] at e
  cases e
  exact hb
variable {S : World → Prop} {X : Nat → Prop} {B0 g m N ty fn : Nat} {src v : Value} {P : Pg} {st : St} {x z : LSg} {w w' : World}
theorem Wk.srcPut (HS : Src P B0 ty fn v S X) (h : Wk S B0 g m N src w st x) (hg : w.grownBy w' (some m)) : S w' := by
  obtain ⟨es, c, hm⟩ := h.set.obj
  have ho := OnlyS.ofGrown hg
  exact HS.keep w w' h.src (ho.below (by have := h.blk.lt; have := h.gB; omega) (fun k e => by cases e; exact h.mB)) (keepT_map hg hm)
theorem Wk.wrote (HS : Src P B0 ty fn v S X) (h : Wk S B0 g m N src w st x) {gc t : Nat} {xs : List Value} (ho : OnlyS (fun k => k = g ∨ k = gc) w w') (hkc : Blk w t gc xs) (ht : t ≠ 5) (hgB : B0 ≤ gc) (hgm : gc ≠ m) (hb : Blk w' 271 g (wkc src m st.tall z)) : Wk S B0 g m N src w' st z :=
  ⟨hb, h.set.same (ho.block m h.set.lt (fun e => by rcases e with e | e; exact h.gm e.symm; exact hgm e.symm)), HS.keep w w' h.src (ho.below (by have := h.blk.lt; have := h.gB; omega) (fun k e => by rcases e with rfl | rfl; exact h.gB; exact hgB)) (keepT_S ho (fun k e => by rcases e with rfl | rfl; exact h.blk.notT (by decide); exact hkc.notT ht)), h.gB, h.mB, h.ok⟩
set_option maxHeartbeats 8000000 in
set_option maxRecDepth 100000 in
theorem node_step (PW : PgW P N) (HS : Src P B0 ty fn v S X) (f : Nat) (HN : NdC P S X B0 g m N (.iface ty v) f) : NdC P S X B0 g m N (.iface ty v) (f + 1) := by
  intro steps id st x w hw hf hs hlo hhi
  have hle := hw.ok.le
  have hNle := PW.le
  have hg := hw.blk.lt
  have hmw := hw.set.lt
  have hgm := hw.gm
  have hgB := hw.gB
  obtain ⟨D, hD, hDe⟩ := hw.set
  have hsee := hDe id
  have hkey : keyOf Tryz.prog 3 (.int .i64 id) = some (.int .i64 id) := Maps.keyOf_int_mk Tryz.underlying3 (by have e1 : IntKind.i64.min = -9223372036854775808 := rfl; have e2 : IntKind.i64.max = 9223372036854775807 := rfl; simp only [Lit.wf, Bool.and_eq_true, decide_eq_true_eq]; omega)
  have c1 : w.cell? ⟨g, 1, none⟩ = some (.map (some m)) := hw.blk.cell 1
  have H0 : Hid (Wk S B0 g m N (.iface ty v) w st x) := hw
  have HDE : Hid _ := hDe
  have q1 : Below w.heap.size w (w.alloc (Obj.cells #[] 236)) := (Below.refl _ _).alloc (Nat.le_refl _) _
  have K1 := hw.below HS q1
  have D1 := hD.alloc (.cells #[] 236)
  have FINP : Hid (∀ w', OnlyS (fun k => X k ∨ k = g ∨ k = m) w w' → pgOk P st id = false → NdP P S X B0 g m N (.iface ty v) (f + 1) steps st x id w (.panicked badE) w') := fun w' ho hq => ⟨ho, Or.inr ⟨wkT_bad hq, rfl⟩⟩
  have HB : Hid (Maps.has D (.int .i64 id) = st.seen.contains id) := hsee
  clear hw hDe hsee
  go_enter Tryz.func184, Tryz.ntmps184
  go_upto_region 2 with (first | (at_lookup; refine wpList_lookup_own_unit _ rfl _ _ 269 rfl 3 236 lawI Tryz.underlying269 (zeroU _) m _ D rfl hD _ _ rfl hkey ?_) | fail)
  change Code.wp _ _ _ _ (w.alloc (Obj.cells #[] 236))
  have HQ1 : Hid _ := q1
  have hz1 : w.heap.size ≤ (w.alloc (Obj.cells #[] 236)).heap.size := q1.size
  generalize w.alloc (Obj.cells #[] 236) = W1 at *
  have hsn : SetI W1 m st.seen := ⟨D, D1, HDE.out⟩
  have s1 : OnlyS (fun k => X k ∨ k = g ∨ k = m) w W1 := OnlyS.ofBelow HQ1.out
  clear hD c1 q1
  generalize Maps.has D (.int .i64 id) = bb at *
  cases bb with
  | true =>
    have hq : pgOk P st id = false := by
      rw [← Bool.not_eq_true, pgOk_iff]; intro h; exact h.2.2.1 (List.contains_iff_mem.1 HB.out.symm)
    clear D1 K1 hsn
    go_wp2_with fail
    all_goals (refine (need_no _).mono ?_; rintro e w' ⟨rfl, rfl⟩; go_wp2; exact ⟨rfl, FINP.out _ s1 hq⟩)
  | false =>
    have hns : id ∉ st.seen := fun h => by have := HB.out; rw [List.contains_iff_mem.2 h] at this; cases this
    by_cases h2 : 2 ≤ id
    · have c1 : W1.cell? ⟨g, 1, none⟩ = some (.map (some m)) := K1.blk.cell 1
      have HK1 : Hid _ := And.intro K1 hsn
      have hsl : st.seen.length < maxLen := by unfold maxLen; omega
      clear K1 hsn
      go_wp2_with fail
      refine (need_yes _).mono ?_
      rintro e w' ⟨rfl, rfl⟩
      go_upto_region 4 with (first | (at_mapUpdate; refine wpList_mapUpdate_own _ rfl _ _ _ 269 rfl 3 236 lawI Tryz.underlying269 (unitElem (H := Nat)) m _ D rfl D1 hsl _ _ _ rfl rfl hkey _ [] unitElem_mk ?_; intro W3 D3 g3) | fail)
      have S3 := HK1.out.1.srcPut HS g3
      have set3 := SetI.putd D1 HDE.out D3
      have s3 : OnlyS (fun k => X k ∨ k = g ∨ k = m) w W3 := s1.transN (OnlyS.ofGrown g3) (fun k _ e => by cases e; exact Or.inr (Or.inr rfl))
      have kW3 := HK1.out.1.blk.onlyS (OnlyS.ofGrown g3) (fun e => by cases e; exact hgm rfl)
      have c0 : W3.cell? ⟨g, 0, none⟩ = some (.iface ty v) := kW3.cell 0
      have PG := HS.page W3 id S3 hlo hhi
      have hmth := HS.meth
      have hent := HS.ent
      have H3 : Hid _ := And.intro set3 (And.intro s3 g3)
      clear set3 s3 g3 kW3 c1 D3 D1 hkey hsl S3 s1
      go_wp2_with fail
      refine PG.mono ?_
      clear PG
      rintro e w4 ⟨s4, o4, ⟨hok, ab, cb, rfl, hbs⟩ | ⟨hno, kk, ab, nb, cb, ad, rfl⟩⟩
      rotate_left
      · have hq : pgOk P st id = false := by
          rw [← Bool.not_eq_true, pgOk_iff, hno]; intro h; exact absurd h.1 (by decide)
        have s4' : OnlyS (fun k => X k ∨ k = g ∨ k = m) w w4 := H3.out.2.1.transN o4 (fun k _ e => Or.inl e)
        go_wp2_with fail
        refine (need_no _).mono ?_; rintro e w' ⟨rfl, rfl⟩; go_wp2; exact ⟨rfl, FINP.out _ s4' hq⟩
      · obtain ⟨hi0, hiN⟩ := PW.ok id hok
        have K3 : Wk S B0 g m N (.iface ty v) W3 ⟨id :: st.seen, st.tall⟩ x := HK1.out.1.see HS (by omega) hiN hns H3.out.1 H3.out.2.2
        have K4 := K3.ofPage s4 o4 HS.low
        have s4' : OnlyS (fun k => X k ∨ k = g ∨ k = m) w w4 := H3.out.2.1.transN o4 (fun k _ e => Or.inl e)
        have hbl := PW.len id
        have c2 : w4.cell? ⟨g, 2, none⟩ = some (.int .i64 st.tall) := K4.blk.cell 2
        have f2 := K4.blk.free 2
        have hz4 := s4'.size
        generalize hl : P.bd id = l at hbs hbl ⊢
        generalize hkd : P.kd id = kd at ⊢
        have HL : Hid (P.bd id = l) := hl
        have HKD : Hid (P.kd id = kd) := hkd
        have HK4 : Hid _ := And.intro K4 (And.intro hbs s4')
        clear hl hkd K4 hbs s4' K3 HK1 H3 o4 s4
        by_cases hk2 : kd = 2
        · subst hk2
          have pOK : Hid (pgOk P st id = true) := pgOk_iff.2 ⟨hok, h2, hns, Or.inl HKD.out⟩
          by_cases ht1 : st.tall < 0
          · have HT : Hid (st.tall < 0 ∨ st.tall = (steps : Nat)) := Or.inl ht1
            go_wp2_with fail
            refine (need_yes _).mono ?_
            rintro e w' ⟨rfl, hw⟩
            obtain rfl := hw.symm
            clear hw
            go_wp2_with fail
            refine (need_yes _).mono ?_
            rintro e w' ⟨rfl, hw⟩
            obtain rfl := hw.symm
            clear hw
            have o5 := onlyB_setCell w4 g 2 (.int .i64 (steps : Nat))
            have K5 : Wk S B0 g m N (.iface ty v) (w4.setCell ⟨g, 2, none⟩ (.int .i64 (steps : Nat))) ⟨id :: st.seen, (steps : Nat)⟩ x := HK4.out.1.put HS o5 (HK4.out.1.blk.set 2 _) rfl
            have t5 := HK4.out.2.1.keep (keepT_only o5 HK4.out.1.blk (by decide))
            have s5 := HK4.out.2.2.transN (OnlyS.ofB o5) (fun k _ e => Or.inr (Or.inl e))
            have hz5 := s5.size
            have H5 : Hid _ := And.intro K5 (And.intro t5 s5)
            clear K5 t5 s5 o5 HK4
            go_upto_region 9 with fail
            generalize w4.setCell ⟨g, 2, none⟩ (.int .i64 (steps : Nat)) = W5 at *
            clear c2 f2
            have q6 : Below W5.heap.size W5 (W5.alloc (.cells #[.slice ab l.length cb] 162)) := (Below.refl _ _).alloc (Nat.le_refl _) _
            have K6 := H5.out.1.below HS q6
            have kC := blk_new W5 162 #[.slice ab l.length cb]
            have cur6 : Cur (W5.alloc (.cells #[.slice ab l.length cb] 162)) W5.heap.size W5.heap.size l := ⟨ab, l.length, cb, ⟨kC, H5.out.2.1.bs.below q6, H5.out.2.1.bs.blt⟩⟩
            have WE := went_calls g W5.heap.size W5.heap.size l (.iface ty v) m (steps : Nat) x _ K6.blk cur6 q6.size hbl (by omega)
            have hb1 := built_pl id
            have hb2 := built_cu ab l.length cb
            have hb3 := built_lf id
            have H6 : Hid _ := And.intro K6 (And.intro kC q6)
            clear K6 kC cur6 q6
            go_wp2_with fail
            refine WE.mono ?_
            clear WE
            rintro e w7 ⟨o7, ⟨es, ae, ce, z, hle7, rfl, hrow, hblk7⟩ | ⟨hno, rfl⟩⟩
            rotate_left
            · have s7 : OnlyS (fun k => X k ∨ k = g ∨ k = m) w w7 := (H5.out.2.2.trans (OnlyS.ofBelow H6.out.2.2)).transN o7 (fun k hk e => by rcases e with e | e; exact Or.inr (Or.inl e); omega)
              have FIN : Hid (NdP P S X B0 g m N (.iface ty v) (f + 1) steps st x id w (.panicked badE) w7) := ⟨s7, Or.inr ⟨by rw [wkT_leaf pOK.out HKD.out HT.out, HL.out, hno]; rfl, rfl⟩⟩
              clear o7 hno s7
              go_wp2
              exact ⟨rfl, FIN.out⟩
            have K7 := H6.out.1.wrote HS o7 H6.out.2.1 (by decide) (by omega) (by omega) hblk7
            have s7 : OnlyS (fun k => X k ∨ k = g ∨ k = m) w w7 := (H5.out.2.2.trans (OnlyS.ofBelow H6.out.2.2)).transN o7 (fun k hk e => by rcases e with e | e; exact Or.inr (Or.inl e); omega)
            have q8 : Below w7.heap.size w7 (w7.alloc (.cells #[.int .i64 id, .slice ae es.length ce] 302)) := (Below.refl _ _).alloc (Nat.le_refl _) _
            have k8 := blk_new w7 302 #[.int .i64 id, .slice ae es.length ce]
            have hz7 := s7.size
            have hrl := orow_rb_lt hrow
            have FIN : Hid (NdP P S X B0 g m N (.iface ty v) (f + 1) steps st x id w (.returned (lfI w7.heap.size)) (w7.alloc (.cells #[.int .i64 id, .slice ae es.length ce] 302))) := by
              refine ⟨s7.trans (OnlyS.ofBelow q8), Or.inl ⟨.leaf id es, ⟨id :: st.seen, (steps : Nat)⟩, z, w7.heap.size :: rb ae, _, _, by rw [wkT_leaf pOK.out HKD.out HT.out, HL.out, hle7]; rfl, rfl, ?_, ?_, ?_, K7.below HS q8, by simp⟩⟩
              · rw [IRep]
                exact ⟨w7.heap.size, ae, ce, rfl, rfl, k8, (hrow.below q8).mono (Nat.zero_le _)⟩
              · rw [List.nodup_cons]
                exact ⟨fun hm => by have := (hrl _ hm).2; omega, by cases ae <;> simp [rb]⟩
              · intro k hk
                rcases List.mem_cons.1 hk with rfl | hk
                · omega
                · have h1 := (hrl k hk).1
                  have h2 := H5.out.2.2.size
                  have h3 := H6.out.2.2.size
                  omega
            clear K7 s7 q8 k8 hrl o7 hrow hblk7 hle7
            go_wp2_with fail
            go_ret
            exact FIN.out
          · by_cases ht2 : st.tall = (steps : Nat)
            · have HT : Hid (st.tall < 0 ∨ st.tall = (steps : Nat)) := Or.inr ht2
              go_wp2_with fail
              refine (need_yes _).mono ?_
              rintro e w' ⟨rfl, hw⟩
              obtain rfl := hw.symm
              clear hw
              go_wp2_with fail
              refine (need_yes _).mono ?_
              rintro e w' ⟨rfl, hw⟩
              obtain rfl := hw.symm
              clear hw
              have o5 := onlyB_setCell w4 g 2 (.int .i64 (steps : Nat))
              have K5 : Wk S B0 g m N (.iface ty v) (w4.setCell ⟨g, 2, none⟩ (.int .i64 (steps : Nat))) ⟨id :: st.seen, (steps : Nat)⟩ x := HK4.out.1.put HS o5 (HK4.out.1.blk.set 2 _) rfl
              have t5 := HK4.out.2.1.keep (keepT_only o5 HK4.out.1.blk (by decide))
              have s5 := HK4.out.2.2.transN (OnlyS.ofB o5) (fun k _ e => Or.inr (Or.inl e))
              have hz5 := s5.size
              have H5 : Hid _ := And.intro K5 (And.intro t5 s5)
              clear K5 t5 s5 o5 HK4
              go_upto_region 9 with fail
              generalize w4.setCell ⟨g, 2, none⟩ (.int .i64 (steps : Nat)) = W5 at *
              clear c2 f2
              have q6 : Below W5.heap.size W5 (W5.alloc (.cells #[.slice ab l.length cb] 162)) := (Below.refl _ _).alloc (Nat.le_refl _) _
              have K6 := H5.out.1.below HS q6
              have kC := blk_new W5 162 #[.slice ab l.length cb]
              have cur6 : Cur (W5.alloc (.cells #[.slice ab l.length cb] 162)) W5.heap.size W5.heap.size l := ⟨ab, l.length, cb, ⟨kC, H5.out.2.1.bs.below q6, H5.out.2.1.bs.blt⟩⟩
              have WE := went_calls g W5.heap.size W5.heap.size l (.iface ty v) m (steps : Nat) x _ K6.blk cur6 q6.size hbl (by omega)
              have hb1 := built_pl id
              have hb2 := built_cu ab l.length cb
              have hb3 := built_lf id
              have H6 : Hid _ := And.intro K6 (And.intro kC q6)
              clear K6 kC cur6 q6
              go_wp2_with fail
              refine WE.mono ?_
              clear WE
              rintro e w7 ⟨o7, ⟨es, ae, ce, z, hle7, rfl, hrow, hblk7⟩ | ⟨hno, rfl⟩⟩
              rotate_left
              · have s7 : OnlyS (fun k => X k ∨ k = g ∨ k = m) w w7 := (H5.out.2.2.trans (OnlyS.ofBelow H6.out.2.2)).transN o7 (fun k hk e => by rcases e with e | e; exact Or.inr (Or.inl e); omega)
                have FIN : Hid (NdP P S X B0 g m N (.iface ty v) (f + 1) steps st x id w (.panicked badE) w7) := ⟨s7, Or.inr ⟨by rw [wkT_leaf pOK.out HKD.out HT.out, HL.out, hno]; rfl, rfl⟩⟩
                clear o7 hno s7
                go_wp2
                exact ⟨rfl, FIN.out⟩
              have K7 := H6.out.1.wrote HS o7 H6.out.2.1 (by decide) (by omega) (by omega) hblk7
              have s7 : OnlyS (fun k => X k ∨ k = g ∨ k = m) w w7 := (H5.out.2.2.trans (OnlyS.ofBelow H6.out.2.2)).transN o7 (fun k hk e => by rcases e with e | e; exact Or.inr (Or.inl e); omega)
              have q8 : Below w7.heap.size w7 (w7.alloc (.cells #[.int .i64 id, .slice ae es.length ce] 302)) := (Below.refl _ _).alloc (Nat.le_refl _) _
              have k8 := blk_new w7 302 #[.int .i64 id, .slice ae es.length ce]
              have hz7 := s7.size
              have hrl := orow_rb_lt hrow
              have FIN : Hid (NdP P S X B0 g m N (.iface ty v) (f + 1) steps st x id w (.returned (lfI w7.heap.size)) (w7.alloc (.cells #[.int .i64 id, .slice ae es.length ce] 302))) := by
                refine ⟨s7.trans (OnlyS.ofBelow q8), Or.inl ⟨.leaf id es, ⟨id :: st.seen, (steps : Nat)⟩, z, w7.heap.size :: rb ae, _, _, by rw [wkT_leaf pOK.out HKD.out HT.out, HL.out, hle7]; rfl, rfl, ?_, ?_, ?_, K7.below HS q8, by simp⟩⟩
                · rw [IRep]
                  exact ⟨w7.heap.size, ae, ce, rfl, rfl, k8, (hrow.below q8).mono (Nat.zero_le _)⟩
                · rw [List.nodup_cons]
                  exact ⟨fun hm => by have := (hrl _ hm).2; omega, by cases ae <;> simp [rb]⟩
                · intro k hk
                  rcases List.mem_cons.1 hk with rfl | hk
                  · omega
                  · have h1 := (hrl k hk).1
                    have h2 := H5.out.2.2.size
                    have h3 := H6.out.2.2.size
                    omega
              clear K7 s7 q8 k8 hrl o7 hrow hblk7 hle7
              go_wp2_with fail
              go_ret
              exact FIN.out
            · have hte : (st.tall == (steps : Nat)) = false := by simp [ht2]
              have FIN : Hid (NdP P S X B0 g m N (.iface ty v) (f + 1) steps st x id w (.panicked badE) w4) := ⟨HK4.out.2.2, Or.inr ⟨wkT_tall HKD.out (by omega), rfl⟩⟩
              go_wp2_with fail
              refine (need_yes _).mono ?_; rintro e w' ⟨rfl, hw⟩; obtain rfl := hw.symm; clear hw
              go_wp2_with fail
              rw [show decide (st.tall < 0) = false by simp [ht1]]
              refine (need_no _).mono ?_; rintro e w' ⟨rfl, hw⟩; obtain rfl := hw.symm; clear hw; go_wp2; exact ⟨rfl, FIN.out⟩
        · have hk2' : (kd == 2) = false := by simp [hk2]
          by_cases hk3 : kd = 3
          · subst hk3
            have pOK : Hid (pgOk P st id = true) := pgOk_iff.2 ⟨hok, h2, hns, Or.inr HKD.out⟩
            have q6 : Below w4.heap.size w4 (w4.alloc (.cells #[.slice ab l.length cb] 162)) := (Below.refl _ _).alloc (Nat.le_refl _) _
            have K6 := HK4.out.1.below HS q6
            have kC := blk_new w4 162 #[.slice ab l.length cb]
            have cur6 : Cur (w4.alloc (.cells #[.slice ab l.length cb] 162)) w4.heap.size w4.heap.size l := ⟨ab, l.length, cb, ⟨kC, HK4.out.2.1.bs.below q6, HK4.out.2.1.bs.blt⟩⟩
            have KC : Calls Tryz.prog 208 #[.pointer (some ⟨g, 0, none⟩), .pointer (some ⟨w4.heap.size, 0, none⟩), .int .i64 ((steps : Int) + 1)] (w4.alloc (.cells #[.slice ab l.length cb] 162)) (KdP P S X B0 g m N (.iface ty v) f (steps + 1) l ⟨id :: st.seen, st.tall⟩ x w4.heap.size (w4.alloc (.cells #[.slice ab l.length cb] 162))) :=
              kids_calls P B0 ty fn v S X HS g m N (.iface ty v) f HN (steps + 1) l w4.heap.size w4.heap.size ⟨id :: st.seen, st.tall⟩ x _ K6 cur6 q6.size hbl (by omega) (by omega) (by omega) (by simp only [List.length_cons]; omega) (by simp only [List.length_cons]; omega)
            have hb1 := built_pl id
            have hb2 := built_cu ab l.length cb
            have hb3 := built_in id
            have HQ6 : Hid _ := q6
            have hsb : (steps : Int) + 1 ≤ 1025 := by omega
            have z6 : Hid ((w4.alloc (.cells #[.slice ab l.length cb] 162)).heap.size = w4.heap.size + 1) := by show (w4.alloc (.cells #[.slice ab l.length cb] 162)).heap.size = w4.heap.size + 1; simp
            clear K6 kC cur6 q6 c2 f2
            go_wp2_with fail
            refine (need_yes _).mono ?_
            rintro e w' ⟨rfl, hw⟩
            obtain rfl := hw.symm
            clear hw
            go_wp2_with fail
            refine KC.mono ?_
            clear KC
            rintro e w7 ⟨o7, ⟨t, st7, z, F, us, ak, ck, hkk, rfl, hrow, hrep, hnd, hhi, K7, hsn⟩ | ⟨hno, rfl⟩⟩
            rotate_left
            · have s7 : OnlyS (fun k => X k ∨ k = g ∨ k = m) w w7 := (HK4.out.2.2.trans (OnlyS.ofBelow HQ6.out)).transN o7 (fun k hk e => by rcases e with e | e | e | e; exact Or.inl e; exact Or.inr (Or.inl e); exact Or.inr (Or.inr e); omega)
              have FIN : Hid (NdP P S X B0 g m N (.iface ty v) (f + 1) steps st x id w (.panicked badE) w7) := ⟨s7, Or.inr ⟨(wkN_eq pOK.out (by rw [HKD.out]; decide) HL.out).trans (by rw [hno]; rfl), rfl⟩⟩
              clear o7 hno s7
              go_wp2
              exact ⟨rfl, FIN.out⟩
            have s7 : OnlyS (fun k => X k ∨ k = g ∨ k = m) w w7 := (HK4.out.2.2.trans (OnlyS.ofBelow HQ6.out)).transN o7 (fun k hk e => by rcases e with e | e | e | e; exact Or.inl e; exact Or.inr (Or.inl e); exact Or.inr (Or.inr e); omega)
            have q8 : Below w7.heap.size w7 (w7.alloc (.cells #[.int .i64 id, .slice ak us.length ck] 265)) := (Below.refl _ _).alloc (Nat.le_refl _) _
            have k8 := blk_new w7 265 #[.int .i64 id, .slice ak us.length ck]
            have hz7 := s7.size
            have hrl := orow_rb_lt hrow
            have FIN : Hid (NdP P S X B0 g m N (.iface ty v) (f + 1) steps st x id w (.returned (inI w7.heap.size)) (w7.alloc (.cells #[.int .i64 id, .slice ak us.length ck] 265))) := by
              refine ⟨s7.trans (OnlyS.ofBelow q8), Or.inl ⟨.node id t, st7, z, w7.heap.size :: (rb ak ++ F), _, _, (wkN_eq pOK.out (by rw [HKD.out]; decide) HL.out).trans (by rw [hkk]; rfl), rfl, ?_, ?_, ?_, K7.below HS q8, by have h9 := hsn; simp only [List.length_cons] at h9; omega⟩⟩
              · rw [IRep]
                exact ⟨w7.heap.size, ak, ck, us, F, rfl, rfl, k8, (hrow.below q8).mono (Nat.zero_le _), hrep.below q8⟩
              · rw [List.nodup_cons]
                refine ⟨fun hm => ?_, hnd⟩
                rcases List.mem_append.1 hm with hm | hm
                · have := (hrl _ hm).2; omega
                · have := hrep.lt _ hm; omega
              · intro k hk
                have h9 := z6.out
                rcases List.mem_cons.1 hk with rfl | hk
                · omega
                · rcases List.mem_append.1 hk with hk | hk
                  · have h1 := (hrl k hk).1
                    omega
                  · have h1 := hhi k hk
                    omega
            clear K7 s7 q8 k8 hrl o7 hrow hkk hrep hnd hhi hsn
            go_wp2_with fail
            go_ret
            exact FIN.out
          · have hk3' : (kd == 3) = false := by simp [hk3]
            have hq : pgOk P st id = false := by
              rw [← Bool.not_eq_true, pgOk_iff, HKD.out]; intro h; rcases h.2.2.2 with h | h; exact hk2 h; exact hk3 h
            have FIN : Hid (NdP P S X B0 g m N (.iface ty v) (f + 1) steps st x id w (.panicked badE) w4) := FINP.out _ HK4.out.2.2 hq
            go_wp2_with fail
            refine (need_no _).mono ?_; rintro e w' ⟨rfl, hw⟩; obtain rfl := hw.symm; clear hw; go_wp2; exact ⟨rfl, FIN.out⟩
    · have hq : pgOk P st id = false := by
        rw [← Bool.not_eq_true, pgOk_iff]; intro h; exact h2 h.2.1
      clear D1 K1 hsn
      go_wp2_with fail
      refine (need_no _).mono ?_; rintro e w' ⟨rfl, rfl⟩; go_wp2; exact ⟨rfl, FINP.out _ s1 hq⟩
theorem node_calls (PW : PgW P N) (HS : Src P B0 ty fn v S X) : ∀ f : Nat, NdC P S X B0 g m N (.iface ty v) f
  | 0 => fun steps id st x w hw hf _ _ _ => absurd hf (by have := hw.ok.le; omega)
  | f + 1 => node_step PW HS f (node_calls PW HS f)
end Go.Proofs.YtnohmedccbogkaaGreatDoor

