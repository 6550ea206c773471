import Derived.Test.YtamifpbhmecloaaFD34
import Derived.Test.YtamifpbhmecloaaFD30
import Derived.Test.YtamifpbhmecloaaFD27
/- The device crashes. -/
namespace Go.Proofs.Ytamifpbhmecloaa
open Go.RowKit Go.MuLone Go.Maps
set_option linter.unusedVariables false

theorem chB_byte {l : List Int} (h : IsB l) (n : Nat) : 0 ≤ chB l n ∧ chB l n < 256 := by
  unfold chB
  split
  · omega
  · exact h _
theorem choiceByte_calls (a : Option Addr) (n c : Nat) (l : List Int) (w : World) (h : Bs w a n c l) (i : Nat) (hi : i ≤ 1048576) :
    Calls Try.prog 83 #[.slice a n c, .int .i64 (i : Int)] w fun e w' => e = .returned (.int .i64 (chB l i)) ∧ w' = w := by
  have hl := h.len_eq
  have hmx : n ≤ maxLen := Nat.le_trans h.le h.le'
  unfold maxLen at hmx
  by_cases hn : n = 0
  · subst hn
    have e0 : chB l i = 0 := by unfold chB; rw [if_pos hl]
    rw [e0]
    clear h hl e0
    go_enter Try.func83, Try.ntmps83
    go_wp2
    go_ret
    exact ⟨rfl, rfl⟩
  · have hB := h.byte (i % n)
    obtain ⟨b, off, rfl, _, hc⟩ := h.at_ (by omega)
    have hlt : i % n < n := Nat.mod_lt _ (by omega)
    have cc := hc (i % n) hlt
    have e0 : chB l i = l.getD (i % n) 0 := by unfold chB; rw [if_neg (by omega), hl]
    rw [e0]
    have hm : (i : Int).tmod (n : Int) = ((i % n : Nat) : Int) := by rw [Int.tmod_eq_emod_of_nonneg (by omega)]; omega
    have hz : ((n : Int) == 0) = false := by simp; omega
    clear h hl e0 hc
    generalize l.getD (i % n) 0 = y at *
    generalize i % n = r at *
    have h1 : (0 : Int) ≤ (r : Int) := by omega
    have h2 : (r : Int) < (n : Int) := by omega
    go_enter Try.func83, Try.ntmps83
    go_wp2
    go_ret
    exact ⟨rfl, rfl⟩

theorem zeroIS (w : World) : (zeroValue 92).run Try.prog w = .ok (.slice none 0 0) w := by kernel_rfl
theorem infoI0 : (Try.prog.info? 3).map (fun i => (i.zero, i.size, i.bytes)) = some (some (.int .i64 0), 1, 8) := by kernel_rfl
theorem wp_lookupG {H : Type} {P : Program} {w : World} {o : Oper} {a : Act} {KK : Act → World → Prop} {Q : Exit → Act → World → Prop}
    (m x : Operand) (t : TypeId) (hop : o.op = Op.lookup t m x false) {k E e : TypeId} {q : IntKind} (K : Keyed P k) (ht : P.underlying t = some (.map k E)) (hz : (zeroValue E).run P w = .ok (.slice none 0 0) w) (base b n : Nat) (D : DataW H)
    (hm : a.eval m = .map (some b)) (hown : w.ownsGroups P k base e q b n D) (hn : n < maxLen) (key : Value) (kl : Lit) (hx : a.eval x = key) (hkey : keyOf P k key = some kl)
    (hK : ∀ v zs, D.atKey kl .nil = rowDatum q v zs → w.ownsInts base e q v zs → zs.length ≤ n → w.groupBack P t k base e q b n D key kl v → KK (a.put o.dst v) w) : o.wp P a w KK Q := by
  obtain ⟨v, zs, hrun, hat, hoi, hzl, hback⟩ := hown.at K ht hz hn hkey
  unfold Oper.wp
  simp [execOp, hop, hm, hx, hrun, Result.andThen]
  exact hK v zs hat hoi hzl hback
theorem wp_mapBack {H : Type} {P : Program} {w : World} {o : Oper} {a : Act} {KK : Act → World → Prop} {Q : Exit → Act → World → Prop}
    (m x v : Operand) (t : TypeId) (hop : o.op = Op.mapUpdate t m x v) {w0 : World} {k : TypeId} {base : Nat} {e : TypeId} {q : IntKind} {b n : Nat} {D : DataW H} {key : Value} {kl : Lit} {u v' : Value} {zs' : List Int}
    (hback : w0.groupBack P t k base e q b n D key kl u) (hm : a.eval m = .map (some b)) (hx : a.eval x = key) (hv : a.eval v = v')
    (hgr : w0.grownBy w u.ownBlock) (hown' : w.ownsInts base e q v' zs') (hl' : zs'.length ≤ n + 1) (hloc : v'.ownBlock = u.ownBlock ∨ ∃ g, v'.ownBlock = some g ∧ w0.heap.size ≤ g)
    (hK : ∀ w2, w2.ownsGroups P k base e q b (n + 1) (D.put kl (rowDatum q v' zs')) → w.grownBy w2 (some b) → KK (a.put o.dst undef) w2) : o.wp P a w KK Q := by
  obtain ⟨w2, hrun, r1, r2⟩ := hback w v' zs' hgr hown' hl' hloc
  unfold Oper.wp
  simp [execOp, hop, hm, hx, hv, hrun, Result.andThen]
  exact hK w2 r1 r2
theorem wp_appAt {P : Program} {w : World} {o : Oper} {a : Act} {KK : Act → World → Prop} {Q : Exit → Act → World → Prop} (s x : Operand) (t : TypeId)
    (ho : o.op = .call { callee := .builtin .append, args := #[s, x], argTypes := #[t, t] })
    (base : Nat) (e : TypeId) (i : TypeInfo) (z : Value) (size bytes : Nat) (ht : P.underlying t = some (.slice e)) (hi : P.info? e = some i) (hz : i.zero = some z)
    (hsize : i.size = size) (hby : i.bytes = bytes) (hzs : z.cells.size = size) (hsz : 0 < size)
    (v : Value) (n : Nat) (xs : List Value) (hs : a.eval s = v) (hown : w.ownsRow base e size v n xs)
    (ad : Addr) (m c : Nat) (news : List Value) (hx : a.eval x = .slice (some ad) m c) (hl : news.length = m * size) (hnews : ∀ j u, news[j]? = some u → w.cell? (ad.add j) = some u) (h1 : ∀ u ∈ news, u.oneCell' = true)
    (h63 : n + m ≤ maxLen) (hbytes : (n + m) * bytes ≤ 140737488355328) (hbase : base ≤ w.heap.size)
    (h : ∀ v' w', w'.ownsRow base e size v' (n + m) (xs ++ news) → w.grownBy w' v.ownBlock → (v' = .slice none 0 0 ↔ v = .slice none 0 0 ∧ m = 0) → (v'.ownBlock = v.ownBlock ∨ v'.ownBlock = some w.heap.size) → KK (a.put o.dst v') w') : o.wp P a w KK Q := by
  obtain ⟨v', w', hr, h2, h3, h4, h5⟩ := run_append_own_at (P := P) w base t o.type e i z size bytes ht hi hz hsize hby hzs hsz v n xs hown ad m c news hl hnews h1 h63 hbytes hbase
  unfold Oper.wp execOp
  simp only [ho, resolve, invoke, builtin, Sem.run_bind, Sem.run_pure, Result.andThen_ok, List.map_toArray, List.map_cons, List.map_nil, hs, hx, hr]
  exact h v' w' h2 h3 h4 h5
theorem ints_shape {w : World} {base e : Nat} {v : Value} {zs : List Int} (h : w.ownsInts base e .i64 v zs) : ∃ va vc, v = .slice va zs.length vc := by
  rcases h.1.2 with ⟨rfl, h0⟩ | ⟨g, cap, cur, rfl, _⟩
  · exact ⟨none, 0, by rw [h0]⟩
  · exact ⟨_, _, rfl⟩

theorem ints_addr {w : World} {base e : Nat} {va : Option Addr} {vc : Nat} {zs : List Int} (h : w.ownsInts base e .i64 (.slice va zs.length vc) zs) (h0 : 0 < zs.length) : ∃ vg, va = some ⟨vg, 0, none⟩ ∧ ∀ i, i < zs.length → w.cell? ⟨vg, i, none⟩ = some (.int .i64 (zs.getD i 0)) := by
  rcases h.1.2 with ⟨e, h1⟩ | ⟨g, cap, cur, e, _⟩
  · omega
  · cases e
    refine ⟨g, rfl, fun i hi => ?_⟩
    rw [h.1.cellAt i (by omega)]
    simp [List.getD, List.getElem?_eq_getElem hi]
theorem getD_ofNat (l : List Nat) (i : Nat) : (l.map Int.ofNat).getD i 0 = ((l.getD i 0 : Nat) : Int) := by
  simp only [List.getD_eq_getElem?_getD, List.getElem?_map]
  cases l[i]? <;> rfl

theorem leaves_tmps {P : Program} {fn : Func} {R : Ending → World → Prop} (hr : fn.results = #[]) (t t' : Array Value) : ∀ (ds : List Deferred) (u : FrameMode) (w : World), Leaves P fn t R ds u w → Leaves P fn t' R ds u w := by
  intro ds
  induction ds with
  | nil =>
    intro u w h
    cases u with
    | run => exact h.elim
    | returning =>
      obtain ⟨v, h1, h2⟩ := h
      refine ⟨v, ?_, h2⟩
      simp [results, hr] at h1 ⊢
      exact h1
    | panicking c => exact h
  | cons d ds ih =>
    intro u w h
    obtain ⟨h1, fv, cap, f, args, h2, h3, h4⟩ := h
    refine ⟨h1, fv, cap, f, args, h2, h3, h4.mono ?_⟩
    intro e u' w' h5
    cases e with
    | returned v => exact ih _ _ h5
    | panicked c => exact ih _ _ h5
    | outgrown => exact h5

set_option maxRecDepth 100000 in
set_option maxHeartbeats 4000000 in
theorem crash_core (B g gs sc : Nat) (pa : Option Addr) (pc : Nat) (sA pA : Nat → Option Addr) (sN sC pN pC : Nat → Nat) (K : DK) (ca : Option Addr) (cn cc : Nat) (cl : List Int) (w0 w : World)
    (hx : IsDev w g 0 ⟨some ⟨gs, 0, none⟩, sc, sA, sN, sC, pa, pc, pA, pN, pC⟩ K)
    (h : ODisk B w ⟨some ⟨gs, 0, none⟩, sc, sA, sN, sC, pa, pc, pA, pN, pC⟩ K) (hok : dOk K) (hop : Bs w0 ca cn cc cl) (h0 : Below w0.heap.size w0 w) (hB0 : w0.heap.size ≤ B) (hB : B ≤ g) :
    Calls Try.prog 61 #[.pointer (some ⟨g, 0, none⟩), .slice ca cn cc] w fun e w' => e = .returned (.tuple #[]) ∧ Below B w w' ∧ ∃ d', IsDev w' g 0 d' (crK K cl) ∧ ODisk B w' d' (crK K cl) := by
  obtain ⟨⟨hn1, hn2, hm1⟩, _, hP⟩ := hok
  obtain ⟨i0, hi0, hz0, hz1, hz2⟩ := info_parts infoI0
  have hmm := @run_makeMap Try.prog
  have hgl := hx.lt
  have hx' : w.heap[g]? = some (.cells #[.int .i32 0, .int .u32 0, .slice (some ⟨gs, 0, none⟩) K.n sc, .slice pa K.m pc] 117 (0, 0)) := hx
  have hgs : gs ≠ g := fun e => row_not_box h.safe.row hx' (by decide) rfl e.symm
  have hBs : B ≤ gs := (row_blk h.safe.row rfl).1
  have hgsl : gs < w.heap.size := (row_blk h.safe.row rfl).2
  have x2 := hx.lock 1
  have h2 := h.lock hx 0 (.int .i32 1)
  have C0 : Hid _ := hx.c0
  have F0 : Hid _ := hx.f 0
  have q2 : Below B w _ := (Below.refl B w).setCell (p := ⟨g, 0, none⟩) hB (.int .i32 1)
  have z2 : (w.setCell ⟨g, 0, none⟩ (.int .i32 1)).heap.size = w.heap.size := World.size_setCell _ _ _
  have HP : Hid _ := hP
  clear hP hx'
  go_enter_defers Try.func61, Try.ntmps61
  go_wp2_with fail
  refine (lock_free muLib ⟨g, 0, none⟩ _ C0.out F0.out).mono ?_
  rintro e w' ⟨rfl, rfl⟩
  have op2 := hop.below (h0.trans (q2.mono hB0))
  generalize hW2 : w.setCell ⟨g, 0, none⟩ (.int .i32 1) = W2 at *
  clear hW2 C0 F0 hx h
  rw [← z2] at hgl hgsl
  have v3 := x2.c3
  have qm := (Below.refl W2.heap.size W2).alloc (Nat.le_refl _) (.map #[] 0)
  have vm3 := (x2.below qm).c3
  have HK : Hid _ := And.intro x2 (And.intro h2 (And.intro q2 op2))
  clear x2 h2 q2 op2 z2
  go_wp2
  go_loopw [5, 6, 25] (fun _ _ i wr => ∃ j : Nat, j ≤ K.m ∧ i = .int .i64 j ∧ Below W2.heap.size W2 wr ∧ W2.heap.size + 1 ≤ wr.heap.size ∧ wr.ownsGroups Try.prog 3 (W2.heap.size + 1) 3 .i64 W2.heap.size j (grpD K.At j)) (fun _ _ i _ => K.m - (intOf i).toNat)
  case atStart => exact ⟨0, Nat.zero_le _, rfl, qm, by simp, World.ownsGroups_made _ _ _ _ _⟩
  case round =>
    obtain ⟨j, hj, rfl, hb, hzr, ho⟩ := hrel
    clear v3 vm3 qm
    by_cases hlt : j < K.m
    · obtain ⟨gp, hpa, _⟩ := orecs_pos HK.out.2.1.pend (by omega)
      have hpa' : pa = some ⟨gp, 0, none⟩ := hpa
      subst hpa'
      have hp := (HK.out.2.1.below hb).pend
      have hPj := HP.out j hlt
      have k0 : wr.cell? ⟨gp, j * 2, none⟩ = some (.int .i64 (K.At j)) := by have := hp.cellInt j 0 hlt (by omega); exact this
      have k1 : wr.cell? ⟨gp, j * 2 + 1, none⟩ = some (.slice (pA j) (pN j) (pC j)) := hp.cellData j hlt
      have hkey := keyI hPj.1 (by have := hPj.2.1; omega)
      have hi1 : (0 : Int) ≤ (j : Int) := by omega
      have hi2 : (j : Int) < (K.m : Int) := by omega
      have zb := heap_alloc_new wr (.cells #[.int .i64 (K.At j), .slice (pA j) (pN j) (pC j)] 82)
      have l0 := cell_of_row _ _ 0 _ _ _ zb
      have HB : Hid _ := hb
      have HO : Hid (∀ o : Obj, ((wr.alloc o).drew).ownsGroups Try.prog 3 (W2.heap.size + 1) 3 .i64 W2.heap.size j (grpD K.At j)) := fun o => groups_kept (row := none) ho (gB_drew (gB_alloc (gB_refl _ _) o)) (fun g e => by cases e)
      clear ho hb hp hPj
      go_wp2_with fail
      have HWDz : Hid ((wr.alloc (.cells #[.int .i64 (K.At j), .slice (pA j) (pN j) (pC j)] 82)).drew.heap.size = wr.heap.size + 1) := by show (wr.alloc _).heap.size = _; simp
      have hD := HO.out (.cells #[.int .i64 (K.At j), .slice (pA j) (pN j) (pC j)] 82)
      have cs : (wr.alloc (.cells #[.int .i64 (K.At j), .slice (pA j) (pN j) (pC j)] 82)).drew.cell? ⟨wr.heap.size, 0, none⟩ = some (.int .i64 (K.At j)) := l0
      have BD : Hid (Below W2.heap.size W2 (wr.alloc (.cells #[.int .i64 (K.At j), .slice (pA j) (pN j) (pC j)] 82)).drew) := (HB.out.alloc HB.out.size _).drew
      have zbD : Hid ((wr.alloc (.cells #[.int .i64 (K.At j), .slice (pA j) (pN j) (pC j)] 82)).drew.heap[wr.heap.size]? = some (.cells #[.int .i64 (K.At j), .slice (pA j) (pN j) (pC j)] 82 (0, 0))) := zb
      clear zb l0 k0 k1 HO HB
      refine wp_regionD (fun v => v.cell? ⟨wr.heap.size, 0, none⟩ = some (.int .i64 (K.At j))) (fun k => decide (10 ≤ k)) (by kernel_rfl) ?_
      generalize hWD : (wr.alloc (.cells #[.int .i64 (K.At j), .slice (pA j) (pN j) (pC j)] 82)).drew = WD at *
      clear hWD
      have qa : Below WD.heap.size WD (WD.alloc (.cells #[.int .i64 (j : Int)] 3)) := (Below.refl _ _).alloc (Nat.le_refl _) _
      have cs2 : (WD.alloc (.cells #[.int .i64 (j : Int)] 3)).cell? ⟨wr.heap.size, 0, none⟩ = some (.int .i64 (K.At j)) := by rw [qa.cell (p := ⟨wr.heap.size, 0, none⟩) (by show wr.heap.size < _; have := HWDz.out; omega)]; exact cs
      have hD2 : (WD.alloc (.cells #[.int .i64 (j : Int)] 3)).ownsGroups Try.prog 3 (W2.heap.size + 1) 3 .i64 W2.heap.size j (grpD K.At j) := groups_kept (row := none) hD (gB_alloc (gB_refl _ _) _) (fun g e => by cases e)
      have KC : Hid (∀ (u w7 : World) (v : Value) (zs : List Int), (∀ b, b < WD.heap.size → u.heap[b]? = WD.heap[b]?) → WD.heap.size ≤ u.heap.size → u.ownsInts (W2.heap.size + 1) 3 .i64 v zs → u.grownBy w7 v.ownBlock → w7.cell? ⟨wr.heap.size, 0, none⟩ = some (.int .i64 (K.At j))) := fun u w7 v zs hu hus hv hg => by
        have hub : u.heap[wr.heap.size]? = some (.cells #[.int .i64 (K.At j), .slice (pA j) (pN j) (pC j)] 82 (0, 0)) := (hu _ (by have := HWDz.out; omega)).trans zbD.out
        have hne : v.ownBlock ≠ some wr.heap.size := row_ne_block hv.1 hub (by decide)
        have h7 : w7.heap[wr.heap.size]? = some (.cells #[.int .i64 (K.At j), .slice (pA j) (pN j) (pC j)] 82 (0, 0)) := (hg.block _ (by have := HWDz.out; omega) (fun e => hne e.symm)).trans hub
        exact cell_of_row _ _ 0 _ _ _ h7
      refine wpAnyD_takeT 0 30 (v := ?vva0) rfl rfl (by kernel_rfl) (by kernel_rfl) (by kernel_rfl) (by kernel_rfl) (fun _ _ _ h => leaves_tmps Try.results61 _ _ _ _ _ h) (Or.inl ⟨by rfl, ?hya0⟩) cs ?resta0
      case hya0 => (intro w hSw; (try dsimp only at hSw); go_simp; try with_reducible rfl)
      simp only [Act.put, List.setIfInBounds_toArray, List.set_cons_zero, List.set_cons_succ]
      refine wpAnyD_takeT 1 31 (v := ?vva1) rfl rfl (by kernel_rfl) (by kernel_rfl) (by kernel_rfl) (by kernel_rfl) (fun _ _ _ h => leaves_tmps Try.results61 _ _ _ _ _ h) (Or.inl ⟨by rfl, ?hya1⟩) cs ?resta1
      case hya1 => (intro w hSw; (try dsimp only at hSw); go_simp; try with_reducible rfl)
      simp only [Act.put, List.setIfInBounds_toArray, List.set_cons_zero, List.set_cons_succ]
      refine wpAnyD_takeT 2 32 (v := ?vva2) rfl rfl (by kernel_rfl) (by kernel_rfl) (by kernel_rfl) (by kernel_rfl) (fun _ _ _ h => leaves_tmps Try.results61 _ _ _ _ _ h) (Or.inl ⟨by rfl, ?hya2⟩) cs ?resta2
      case hya2 => (intro w hSw; (try dsimp only at hSw); go_simp; try with_reducible rfl)
      simp only [Act.put, List.setIfInBounds_toArray, List.set_cons_zero, List.set_cons_succ]
      refine wpAnyD_takeT 3 33 (v := ?vva3) rfl rfl (by kernel_rfl) (by kernel_rfl) (by kernel_rfl) (by kernel_rfl) (fun _ _ _ h => leaves_tmps Try.results61 _ _ _ _ _ h) (Or.inl ⟨by rfl, ?hya3⟩) cs ?resta3
      case hya3 => (intro w hSw; (try dsimp only at hSw); go_simp; try with_reducible rfl)
      simp only [Act.put, List.setIfInBounds_toArray, List.set_cons_zero, List.set_cons_succ]
      refine wpAnyD_takeT 4 34 (v := ?vva4) rfl rfl (by kernel_rfl) (by kernel_rfl) (by kernel_rfl) (by kernel_rfl) (fun _ _ _ h => leaves_tmps Try.results61 _ _ _ _ _ h) (Or.inl ⟨by rfl, ?hya4⟩) cs ?resta4
      case hya4 => (intro w hSw; (try dsimp only at hSw); go_simp; try with_reducible rfl)
      simp only [Act.put, List.setIfInBounds_toArray, List.set_cons_zero, List.set_cons_succ]
      refine wpAnyD_takeT 5 35 (v := ?vva5) rfl rfl (by kernel_rfl) (by kernel_rfl) (by kernel_rfl) (by kernel_rfl) (fun _ _ _ h => leaves_tmps Try.results61 _ _ _ _ _ h) (Or.inl ⟨by rfl, ?hya5⟩) cs ?resta5
      case hya5 => (intro w hSw; (try dsimp only at hSw); go_simp; try with_reducible rfl)
      simp only [Act.put, List.setIfInBounds_toArray, List.set_cons_zero, List.set_cons_succ]
      refine wpAnyD_takeT 7 37 (v := ?vva7) rfl rfl (by kernel_rfl) (by kernel_rfl) (by kernel_rfl) (by kernel_rfl) (fun _ _ _ h => leaves_tmps Try.results61 _ _ _ _ _ h) (Or.inl ⟨by rfl, ?hya7⟩) cs ?resta7
      case hya7 => (intro w hSw; (try dsimp only at hSw); go_simp; try with_reducible rfl)
      simp only [Act.put, List.setIfInBounds_toArray, List.set_cons_zero, List.set_cons_succ]
      have FINR : Hid (∀ (u w7 w8 : World) (v v' : Value) (zs : List Int), WD.grownBy u none → (grpD K.At j).atKey (.int .i64 (K.At j)) .nil = rowDatum .i64 v zs → u.ownsInts (W2.heap.size + 1) 3 .i64 v zs → u.grownBy w7 v.ownBlock → w7.ownsInts (W2.heap.size + 1) 3 .i64 v' (zs ++ [(j : Int)]) → w8.ownsGroups Try.prog 3 (W2.heap.size + 1) 3 .i64 W2.heap.size (j + 1) ((grpD K.At j).put (.int .i64 (K.At j)) (rowDatum .i64 v' (zs ++ [(j : Int)]))) → w7.grownBy w8 (some W2.heap.size) → Below W2.heap.size W2 w8 ∧ W2.heap.size + 1 ≤ w8.heap.size ∧ w8.ownsGroups Try.prog 3 (W2.heap.size + 1) 3 .i64 W2.heap.size (j + 1) (grpD K.At (j + 1))) := fun u w7 w8 v v' zs hu hat hoi hg7 hown' hown8 hg8 => by
        have hb7 : Below W2.heap.size W2 u := BD.out.grown hu BD.out.size (fun k hk => by cases hk)
        refine ⟨hb7.groups hoi hg7 hg8 hb7.size (Nat.le_succ _) (Nat.le_refl _), ?_, ?_⟩
        · have := hu.size
          have := hg7.size
          have := hg8.size
          have := HWDz.out
          omega
        · rw [← grp_step hoi hat hown']
          exact hown8
      refine wpAnyD_two 6 8 (by kernel_rfl) rfl rfl (fun KK hK => ?_) (fun KK hK => ?_)
      · rw [if_pos (show Region.wanted _ _ = true from rfl)]
        refine wp_lookupG _ _ 120 rfl law3 Try.underlying120 (zeroIS _) (W2.heap.size + 1) W2.heap.size j (grpD K.At j) rfl hD (by unfold maxLen; omega) _ _ rfl hkey ?_
        intro v zs hat hoi hzl hback
        refine hK.out _ _ (fun _ => cs) ?_
        clear hK KK
        refine wpAnyD_one 8 (by kernel_rfl) rfl (fun KK hK => ?_)
        rw [if_pos (show Region.wanted _ _ = true from rfl)]
        go_wp2_with fail
        refine hK.out _ _ (fun _ => cs2) ?_
        clear hK KK
        refine wpAnyD_one 9 (by kernel_rfl) rfl (fun KK hK => ?_)
        rw [if_pos (show Region.wanted _ _ = true from rfl)]
        refine wp_appAt _ _ 92 rfl (W2.heap.size + 1) 3 i0 (.int .i64 0) 1 8 Try.underlying92 hi0 hz0 hz1 hz2 rfl (by decide) _ _ _ rfl (hoi.1.alloc _) ⟨WD.heap.size, 0, none⟩ 1 1 [.int .i64 (j : Int)] rfl rfl (cell_one_new _ _ _) (ints_oneCell .i64 [(j : Int)]) (by unfold maxLen; omega) (by omega) (by simp; have := HWDz.out; omega) ?_
        intro v' w7 hown' hgrow _ hloc
        refine hK.out _ _ (fun _ => KC.out (WD.alloc (.cells #[.int .i64 (j : Int)] 3)) w7 v zs (fun b hb => Below.heap_alloc _ _ _ hb) (by simp) (hoi.alloc _) hgrow) ?_
        clear hK KK
        refine wpAnyD_one 10 (by kernel_rfl) rfl (fun KK hK => ?_)
        rw [if_pos (show Region.wanted _ _ = true from rfl)]
        refine wp_mapBack _ _ _ 120 rfl hback rfl rfl rfl ((World.grownBy_alloc _ _ _).trans hgrow) (hoi.appended hown' (WalkArith.wf_i64 (by omega))) (by simp; omega) (hloc.imp id (fun h => ⟨_, h, by simp⟩)) ?_
        intro w8 hown8 hgrow8
        refine hK.out _ _ (fun h => absurd h (by decide)) ?_
        clear hK KK
        have G8 : Hid _ := FINR.out WD w7 w8 v v' zs (gB_refl _ _) hat hoi ((World.grownBy_alloc _ _ _).trans hgrow) (hoi.appended hown' (WalkArith.wf_i64 (by omega))) hown8 hgrow8
        clear hown8 hgrow8 hback hown' hgrow hloc hat hoi hzl FINR KC hD hD2 cs cs2 qa zbD BD
        refine wpAnyD_done (by kernel_rfl) ?_ _
        go_wp2
        go_roundw
        case rel => exact ⟨j + 1, by omega, by go_num, G8.out⟩
        case measure => simp [intOf]; omega
      · rw [if_pos (show Region.wanted _ _ = true from rfl)]
        go_wp2_with fail
        refine hK.out _ _ (fun _ => cs2) ?_
        clear hK KK
        refine wpAnyD_one 6 (by kernel_rfl) rfl (fun KK hK => ?_)
        rw [if_pos (show Region.wanted _ _ = true from rfl)]
        refine wp_lookupG _ _ 120 rfl law3 Try.underlying120 (zeroIS _) (W2.heap.size + 1) W2.heap.size j (grpD K.At j) rfl hD2 (by unfold maxLen; omega) _ _ rfl hkey ?_
        intro v zs hat hoi hzl hback
        refine hK.out _ _ (fun _ => cs2) ?_
        clear hK KK
        refine wpAnyD_one 9 (by kernel_rfl) rfl (fun KK hK => ?_)
        rw [if_pos (show Region.wanted _ _ = true from rfl)]
        refine wp_appAt _ _ 92 rfl (W2.heap.size + 1) 3 i0 (.int .i64 0) 1 8 Try.underlying92 hi0 hz0 hz1 hz2 rfl (by decide) _ _ _ rfl hoi.1 ⟨WD.heap.size, 0, none⟩ 1 1 [.int .i64 (j : Int)] rfl rfl (cell_one_new _ _ _) (ints_oneCell .i64 [(j : Int)]) (by unfold maxLen; omega) (by omega) (by simp; have := HWDz.out; omega) ?_
        intro v' w7 hown' hgrow _ hloc
        refine hK.out _ _ (fun _ => KC.out (WD.alloc (.cells #[.int .i64 (j : Int)] 3)) w7 v zs (fun b hb => Below.heap_alloc _ _ _ hb) (by simp) hoi hgrow) ?_
        clear hK KK
        refine wpAnyD_one 10 (by kernel_rfl) rfl (fun KK hK => ?_)
        rw [if_pos (show Region.wanted _ _ = true from rfl)]
        refine wp_mapBack _ _ _ 120 rfl hback rfl rfl rfl (hgrow) (hoi.appended hown' (WalkArith.wf_i64 (by omega))) (by simp; omega) (hloc.imp id (fun h => ⟨_, h, by simp⟩)) ?_
        intro w8 hown8 hgrow8
        refine hK.out _ _ (fun h => absurd h (by decide)) ?_
        clear hK KK
        have G8 : Hid _ := FINR.out _ w7 w8 v v' zs (World.grownBy_alloc WD _ none) hat hoi hgrow (hoi.appended hown' (WalkArith.wf_i64 (by omega))) hown8 hgrow8
        clear hown8 hgrow8 hback hown' hgrow hloc hat hoi hzl FINR KC hD hD2 cs cs2 qa zbD BD
        refine wpAnyD_done (by kernel_rfl) ?_ _
        go_wp2
        go_roundw
        case rel => exact ⟨j + 1, by omega, by go_num, G8.out⟩
        case measure => simp [intOf]; omega
    · have e : j = K.m := by omega
      subst e
      obtain ⟨W3, hW3⟩ : ∃ W3, W3 = wr := ⟨_, rfl⟩
      subst hW3
      have x3 := HK.out.1.below hb
      have h3 := HK.out.2.1.below hb
      have b3 : Below B w W3 := HK.out.2.2.1.trans (hb.mono (by omega))
      have z3 : gs < W3.heap.size := by omega
      have zg3 : g < W3.heap.size := by omega
      have hgsW : gs < W2.heap.size := hgsl
      have HG : Hid (W3.ownsGroups Try.prog 3 (W2.heap.size + 1) 3 .i64 W2.heap.size K.m (grpD K.At K.m)) := ho
      have c2 := x3.c2
      have x3' : W3.heap[g]? = some (.cells #[.int .i32 1, .int .u32 0, .slice (some ⟨gs, 0, none⟩) K.n sc, .slice pa K.m pc] 117 (0, 0)) := x3
      have key : ∀ v : World, W3.grownBy v (some gs) → v.heap[g]? = some (.cells #[.int .i32 1, .int .u32 0, .slice (some ⟨gs, 0, none⟩) K.n sc, .slice pa K.m pc] 117 (0, 0)) := fun v hv => by
        rw [hv.block g zg3 (fun e => hgs (by cases e; rfl))]; exact x3'
      have KEY : Hid _ := key
      have H3 : Hid _ := h3
      have HBW : Hid (∀ v : World, W3.grownBy v (some gs) → Below B w v ∧ Bs v ca cn cc cl) := fun v hv => by
        have b4 : Below B w v := b3.grown hv (by omega) (fun k hk => by cases hk; exact hBs)
        exact ⟨b4, hop.below (h0.trans (b4.mono hB0))⟩
      clear ho hb HK x3 h3 b3 x3' key hzr hi0 hz0 hz1 hz2 hmm
      go_wp2
      go_loopw [7, 8, 9, 10, 47] (fun sn _ _ _ i wr => ∃ t : Nat, t ≤ K.n ∧ i = .int .i64 t ∧ sn = .int .i64 (seenN K t : Nat) ∧ W3.grownBy wr (some gs) ∧ wr.ownsRow B 22 1 (.slice (some ⟨gs, 0, none⟩) K.n sc) K.n (rowP (chQ K cl) pA sA pN sN pC sC K.n t)) (fun _ _ _ _ i _ => K.n - (intOf i).toNat)
      case atStart => exact ⟨0, Nat.zero_le _, rfl, rfl, gB_refl _ _, by have := H3.out.safe.row; rw [flat0_map, ← rowP_zero (chQ K cl) pA] at this; exact this⟩
      case round =>
        obtain ⟨t, ht, rfl, rfl, hb, ho⟩ := hrel
        have xr := KEY.out wr hb
        clear c2
        by_cases hlt : t < K.n
        · have hgr := groups_kept HG.out hb (fun g e => by cases e; exact hgsW)
          have hkey := keyI (t := (t : Int)) (by omega) (by omega)
          obtain ⟨v, zs, hrun, hat, hoi, hzl, _⟩ := hgr.at law3 Try.underlying120 (zeroIS _) (by unfold maxLen; omega) hkey
          rw [grp_at] at hat
          have hz := datL_zs hoi hat
          obtain ⟨va, vc, hv⟩ := ints_shape hoi
          subst hv
          have hlen : zs.length = cnt K t := by rw [hz]; simp [cnt]
          have HOI : Hid _ := hoi
          rw [hlen] at hrun
          have hcm : cnt K t ≤ 5000 := by have := wIdx_len (At := K.At) (t := (t : Int)) K.m; unfold cnt; omega
          have hsnl := seenN_le K t
          have hi1 : (0 : Int) ≤ (t : Int) := by omega
          have hi2 : (t : Int) < (K.n : Int) := by omega
          clear hgr hkey hat hoi hzl
          by_cases hc0 : cnt K t = 0
          · have SN : Hid (seenN K (t + 1) = seenN K t) := by show seenN K (t + 1) = _; simp [seenN, hc0]
            have ST : Hid (wr.ownsRow B 22 1 (.slice (some ⟨gs, 0, none⟩) K.n sc) K.n (rowP (chQ K cl) pA sA pN sN pC sC K.n (t + 1))) := by
              show World.ownsRow _ _ _ _ _ _ _
              rw [rowP_none _ _ _ _ _ _ _ (chQ_none (chJ_cnt hc0))]
              exact ho
            have HB : Hid _ := hb
            rw [hc0] at hrun
            clear ho hb xr HOI hlen hc0 hcm hz
            go_wp2
            go_roundw
            case rel => exact ⟨t + 1, by omega, by go_num, by rw [SN.out], HB.out, ST.out⟩
            case measure => simp [intOf]; omega
          · have CB := choiceByte_calls ca cn cc cl wr (HBW.out wr hb).2 (seenN K t) (by omega)
            have hy := chB_byte (HBW.out wr hb).2.byte (seenN K t)
            have SN : Hid (seenN K (t + 1) = seenN K t + 1) := by show seenN K (t + 1) = _; simp [seenN, hc0]
            have hm : (chB cl (seenN K t)).tmod ((cnt K t : Int) + 1) = ((chJ K cl t : Nat) : Int) := by
              obtain ⟨Y, hY⟩ := Int.eq_ofNat_of_zero_le hy.1
              unfold chJ
              rw [hY, Int.tmod_eq_emod_of_nonneg (by omega)]
              simp
            have hcz : (((cnt K t : Nat) : Int) == 0) = false := by simp; omega
            have hcz2 : ¬ (((cnt K t : Nat) : Int) + 1 = 0) := by omega
            have HJ : Hid _ := And.intro (chJ_lt K cl t) (And.intro hlen hz)
            have HC0 : Hid _ := hc0
            clear hlen hc0 hz
            generalize hCt : cnt K t = Ct at *
            generalize hSn : seenN K t = Sn at *
            generalize chB cl Sn = y at *
            have HB : Hid _ := hb
            have HO : Hid _ := ho
            clear ho hb
            go_wp2_with fail
            refine CB.mono ?_
            rintro e w5 ⟨rfl, hw5⟩
            obtain rfl := hw5.symm
            clear CB hrun
            by_cases hJ0 : chJ K cl t = 0
            · have ST : Hid (wr.ownsRow B 22 1 (.slice (some ⟨gs, 0, none⟩) K.n sc) K.n (rowP (chQ K cl) pA sA pN sN pC sC K.n (t + 1))) := by
                show World.ownsRow _ _ _ _ _ _ _
                rw [rowP_none _ _ _ _ _ _ _ (chQ_none hJ0)]
                exact HO.out
              rw [hJ0] at hm
              clear hJ0
              go_wp2
              go_roundw
              case rel => exact ⟨t + 1, by omega, by go_num, by rw [SN.out]; go_num, HB.out, ST.out⟩
              case measure => simp [intOf]; omega
            · have hch := chQ_some hJ0
              obtain ⟨hqm, hqt⟩ := chQ_ok hch
              obtain ⟨r, hr⟩ : ∃ r, chJ K cl t = r + 1 := ⟨chJ K cl t - 1, by omega⟩
              rw [hr, show r + 1 - 1 = r by omega] at hch hqm hqt
              have hrl : r < zs.length := by have := HJ.out.1; have := HJ.out.2.1; omega
              obtain ⟨vg, hva, hcv⟩ := ints_addr HOI.out (by omega)
              subst hva
              have kv := hcv r hrl
              rw [HJ.out.2.2, getD_ofNat] at kv
              generalize (wIdx K.At (t : Int) K.m).getD r 0 = q at *
              obtain ⟨gp, hpa, _⟩ := orecs_pos H3.out.pend (by omega)
              have hpa' : pa = some ⟨gp, 0, none⟩ := hpa
              subst hpa'
              have hp := H3.out.pend
              have hgp : gp ≠ gs := fun e => types_ne hp.row H3.out.safe.row (by decide) gp rfl (by rw [e]; rfl)
              have HOd : wr.drew.ownsRow B 22 1 (.slice (some ⟨gs, 0, none⟩) K.n sc) K.n (rowP (chQ K cl) pA sA pN sN pC sC K.n t) := HO.out
              have k1 : wr.drew.cell? ⟨gp, q * 2 + 1, none⟩ = some (.slice (pA q) (pN q) (pC q)) := HB.out.cell (a := ⟨gp, q * 2 + 1, none⟩) (hp.cellData q hqm) (fun e => hgp (by cases e; rfl))
              have ko : wr.drew.cell? ⟨gs, t, none⟩ = some (.slice (sA t) (sN t) (sC t)) := by rw [HOd.cellAt t (by omega), rowP_get _ _ _ _ _ _ _ _ _ _ hlt, pkTo_at, pkTo_at, pkTo_at]
              have fo : wr.drew.frozen? ⟨gs, t, none⟩ = false := HOd.frozenAt t
              have st := (HOd.stored t (.slice (pA q) (pN q) (pC q))).1
              rw [rowP_set _ _ _ _ _ _ _ hch] at st
              have BS : Hid _ := gB_set (gB_drew HB.out) t (.slice (pA q) (pN q) (pC q))
              have d2 : wr.drew.cell? ⟨g, 2, none⟩ = some (.slice (some ⟨gs, 0, none⟩) K.n sc) := by rw [cell_of_row wr.drew _ 2 _ _ _ xr]; rfl
              have d3 : wr.drew.cell? ⟨g, 3, none⟩ = some (.slice (some ⟨gp, 0, none⟩) K.m pc) := by rw [cell_of_row wr.drew _ 3 _ _ _ xr]; rfl
              have kv' : wr.drew.cell? ⟨vg, r, none⟩ = some (.int .i64 (q : Int)) := kv
              rw [hr] at hm
              have hm' : y.tmod ((Ct : Int) + 1) = (r : Int) + 1 := by rw [hm]; simp
              have j1 : (0 : Int) < (r : Int) + 1 := by omega
              have j2 : (0 : Int) ≤ (r : Int) := by omega
              have j3 : (r : Int) < (Ct : Int) := by have := HJ.out.1; omega
              have j4 : (0 : Int) ≤ (q : Int) := by omega
              have j5 : (q : Int) < (K.m : Int) := by omega
              have hwr : IntKind.i64.wrap (r : Int) = (r : Int) := by simp [IntKind.wrap, IntKind.bits, IntKind.signed]; omega
              have ST : Hid _ := st
              clear st hch hqt hr hm hcv hp HO HB xr hJ0 HOd kv
              go_wp2_with fail
              refine wp_regionD (fun v => v = wr.drew) (fun k => decide (20 ≤ k)) (by kernel_rfl) ?_
              generalize wr.drew = WD at *
              refine wpAnyD_takeT 0 65 (v := ?vvz0) rfl rfl (by kernel_rfl) (by kernel_rfl) (by kernel_rfl) (by kernel_rfl) (fun _ _ _ h => leaves_tmps Try.results61 _ _ _ _ _ h) (Or.inl ⟨by rfl, ?hyz0⟩) rfl ?restz0
              case hyz0 => (intro w hSw; (try dsimp only at hSw); rw [hSw]; go_simp; try with_reducible rfl)
              simp only [Act.put, List.setIfInBounds_toArray, List.set_cons_zero, List.set_cons_succ]
              refine wpAnyD_takeT 1 66 (v := ?vvz1) rfl rfl (by kernel_rfl) (by kernel_rfl) (by kernel_rfl) (by kernel_rfl) (fun _ _ _ h => leaves_tmps Try.results61 _ _ _ _ _ h) (Or.inl ⟨by rfl, ?hyz1⟩) rfl ?restz1
              case hyz1 => (intro w hSw; (try dsimp only at hSw); rw [hSw]; go_simp; try with_reducible rfl)
              simp only [Act.put, List.setIfInBounds_toArray, List.set_cons_zero, List.set_cons_succ]
              refine wpAnyD_takeT 2 67 (v := ?vvz2) rfl rfl (by kernel_rfl) (by kernel_rfl) (by kernel_rfl) (by kernel_rfl) (fun _ _ _ h => leaves_tmps Try.results61 _ _ _ _ _ h) (Or.inl ⟨by rfl, ?hyz2⟩) rfl ?restz2
              case hyz2 => (intro w hSw; (try dsimp only at hSw); rw [hSw]; go_simp; try with_reducible rfl)
              simp only [Act.put, List.setIfInBounds_toArray, List.set_cons_zero, List.set_cons_succ]
              refine wpAnyD_takeT 3 68 (v := ?vvz3) rfl rfl (by kernel_rfl) (by kernel_rfl) (by kernel_rfl) (by kernel_rfl) (fun _ _ _ h => leaves_tmps Try.results61 _ _ _ _ _ h) (Or.inl ⟨by rfl, ?hyz3⟩) rfl ?restz3
              case hyz3 => (intro w hSw; (try dsimp only at hSw); rw [hSw]; go_simp; try with_reducible rfl)
              simp only [Act.put, List.setIfInBounds_toArray, List.set_cons_zero, List.set_cons_succ]
              refine wpAnyD_takeT 4 69 (v := ?vvz4) rfl rfl (by kernel_rfl) (by kernel_rfl) (by kernel_rfl) (by kernel_rfl) (fun _ _ _ h => leaves_tmps Try.results61 _ _ _ _ _ h) (Or.inl ⟨by rfl, ?hyz4⟩) rfl ?restz4
              case hyz4 => (intro w hSw; (try dsimp only at hSw); rw [hSw]; go_simp; try with_reducible rfl)
              simp only [Act.put, List.setIfInBounds_toArray, List.set_cons_zero, List.set_cons_succ]
              refine wpAnyD_takeT 5 70 (v := ?vvz5) rfl rfl (by kernel_rfl) (by kernel_rfl) (by kernel_rfl) (by kernel_rfl) (fun _ _ _ h => leaves_tmps Try.results61 _ _ _ _ _ h) (Or.inl ⟨by rfl, ?hyz5⟩) rfl ?restz5
              case hyz5 => (intro w hSw; (try dsimp only at hSw); rw [hSw]; go_simp; try with_reducible rfl)
              simp only [Act.put, List.setIfInBounds_toArray, List.set_cons_zero, List.set_cons_succ]
              refine wpAnyD_takeT 6 71 (v := ?vvz6) rfl rfl (by kernel_rfl) (by kernel_rfl) (by kernel_rfl) (by kernel_rfl) (fun _ _ _ h => leaves_tmps Try.results61 _ _ _ _ _ h) (Or.inl ⟨by rfl, ?hyz6⟩) rfl ?restz6
              case hyz6 => (intro w hSw; (try dsimp only at hSw); rw [hSw]; go_simp; try with_reducible rfl)
              simp only [Act.put, List.setIfInBounds_toArray, List.set_cons_zero, List.set_cons_succ]
              refine wpAnyD_takeT 7 72 (v := ?vvz7) rfl rfl (by kernel_rfl) (by kernel_rfl) (by kernel_rfl) (by kernel_rfl) (fun _ _ _ h => leaves_tmps Try.results61 _ _ _ _ _ h) (Or.inl ⟨by rfl, ?hyz7⟩) rfl ?restz7
              case hyz7 => (intro w hSw; (try dsimp only at hSw); rw [hSw]; go_simp; try with_reducible rfl)
              simp only [Act.put, List.setIfInBounds_toArray, List.set_cons_zero, List.set_cons_succ]
              refine wpAnyD_takeT 8 73 (v := ?vvz8) rfl rfl (by kernel_rfl) (by kernel_rfl) (by kernel_rfl) (by kernel_rfl) (fun _ _ _ h => leaves_tmps Try.results61 _ _ _ _ _ h) (Or.inl ⟨by rfl, ?hyz8⟩) rfl ?restz8
              case hyz8 => (intro w hSw; (try dsimp only at hSw); rw [hSw]; go_simp; try with_reducible rfl)
              simp only [Act.put, List.setIfInBounds_toArray, List.set_cons_zero, List.set_cons_succ]
              refine wpAnyD_takeT 9 74 (v := ?vvz9) rfl rfl (by kernel_rfl) (by kernel_rfl) (by kernel_rfl) (by kernel_rfl) (fun _ _ _ h => leaves_tmps Try.results61 _ _ _ _ _ h) (Or.inl ⟨by rfl, ?hyz9⟩) rfl ?restz9
              case hyz9 => (intro w hSw; (try dsimp only at hSw); rw [hSw]; go_simp; try with_reducible rfl)
              simp only [Act.put, List.setIfInBounds_toArray, List.set_cons_zero, List.set_cons_succ]
              refine wpAnyD_takeT 10 75 (v := ?vvz10) rfl rfl (by kernel_rfl) (by kernel_rfl) (by kernel_rfl) (by kernel_rfl) (fun _ _ _ h => leaves_tmps Try.results61 _ _ _ _ _ h) (Or.inl ⟨by rfl, ?hyz10⟩) rfl ?restz10
              case hyz10 => (intro w hSw; (try dsimp only at hSw); rw [hSw]; go_simp; try with_reducible rfl)
              simp only [Act.put, List.setIfInBounds_toArray, List.set_cons_zero, List.set_cons_succ]
              refine wpAnyD_takeT 11 76 (v := ?vvz11) rfl rfl (by kernel_rfl) (by kernel_rfl) (by kernel_rfl) (by kernel_rfl) (fun _ _ _ h => leaves_tmps Try.results61 _ _ _ _ _ h) (Or.inl ⟨by rfl, ?hyz11⟩) rfl ?restz11
              case hyz11 => (intro w hSw; (try dsimp only at hSw); rw [hSw]; go_simp; try with_reducible rfl)
              simp only [Act.put, List.setIfInBounds_toArray, List.set_cons_zero, List.set_cons_succ]
              refine wpAnyD_takeT 12 77 (v := ?vvz12) rfl rfl (by kernel_rfl) (by kernel_rfl) (by kernel_rfl) (by kernel_rfl) (fun _ _ _ h => leaves_tmps Try.results61 _ _ _ _ _ h) (Or.inl ⟨by rfl, ?hyz12⟩) rfl ?restz12
              case hyz12 => (intro w hSw; (try dsimp only at hSw); rw [hSw]; go_simp; try with_reducible rfl)
              simp only [Act.put, List.setIfInBounds_toArray, List.set_cons_zero, List.set_cons_succ]
              refine wpAnyD_takeT 13 78 (v := ?vvz13) rfl rfl (by kernel_rfl) (by kernel_rfl) (by kernel_rfl) (by kernel_rfl) (fun _ _ _ h => leaves_tmps Try.results61 _ _ _ _ _ h) (Or.inl ⟨by rfl, ?hyz13⟩) rfl ?restz13
              case hyz13 => (intro w hSw; (try dsimp only at hSw); rw [hSw]; go_simp; try with_reducible rfl)
              simp only [Act.put, List.setIfInBounds_toArray, List.set_cons_zero, List.set_cons_succ]
              refine wpAnyD_takeT 14 79 (v := ?vvz14) rfl rfl (by kernel_rfl) (by kernel_rfl) (by kernel_rfl) (by kernel_rfl) (fun _ _ _ h => leaves_tmps Try.results61 _ _ _ _ _ h) (Or.inl ⟨by rfl, ?hyz14⟩) rfl ?restz14
              case hyz14 => (intro w hSw; (try dsimp only at hSw); rw [hSw]; go_simp; try with_reducible rfl)
              simp only [Act.put, List.setIfInBounds_toArray, List.set_cons_zero, List.set_cons_succ]
              refine wpAnyD_takeT 15 80 (v := ?vvz15) rfl rfl (by kernel_rfl) (by kernel_rfl) (by kernel_rfl) (by kernel_rfl) (fun _ _ _ h => leaves_tmps Try.results61 _ _ _ _ _ h) (Or.inl ⟨by rfl, ?hyz15⟩) rfl ?restz15
              case hyz15 => (intro w hSw; (try dsimp only at hSw); rw [hSw]; go_simp; try with_reducible rfl)
              simp only [Act.put, List.setIfInBounds_toArray, List.set_cons_zero, List.set_cons_succ]
              refine wpAnyD_takeT 16 81 (v := ?vvz16) rfl rfl (by kernel_rfl) (by kernel_rfl) (by kernel_rfl) (by kernel_rfl) (fun _ _ _ h => leaves_tmps Try.results61 _ _ _ _ _ h) (Or.inl ⟨by rfl, ?hyz16⟩) rfl ?restz16
              case hyz16 => (intro w hSw; (try dsimp only at hSw); rw [hSw]; go_simp; try with_reducible rfl)
              simp only [Act.put, List.setIfInBounds_toArray, List.set_cons_zero, List.set_cons_succ]
              refine wpAnyD_takeT 17 82 (v := ?vvz17) rfl rfl (by kernel_rfl) (by kernel_rfl) (by kernel_rfl) (by kernel_rfl) (fun _ _ _ h => leaves_tmps Try.results61 _ _ _ _ _ h) (Or.inl ⟨by rfl, ?hyz17⟩) rfl ?restz17
              case hyz17 => (intro w hSw; (try dsimp only at hSw); rw [hSw]; go_simp; try with_reducible rfl)
              simp only [Act.put, List.setIfInBounds_toArray, List.set_cons_zero, List.set_cons_succ]
              refine wpAnyD_takeT 18 83 (v := ?vvz18) rfl rfl (by kernel_rfl) (by kernel_rfl) (by kernel_rfl) (by kernel_rfl) (fun _ _ _ h => leaves_tmps Try.results61 _ _ _ _ _ h) (Or.inl ⟨by rfl, ?hyz18⟩) rfl ?restz18
              case hyz18 => (intro w hSw; (try dsimp only at hSw); rw [hSw]; go_simp; try with_reducible rfl)
              simp only [Act.put, List.setIfInBounds_toArray, List.set_cons_zero, List.set_cons_succ]
              refine wpAnyD_takeT 19 84 (v := ?vvz19) rfl rfl (by kernel_rfl) (by kernel_rfl) (by kernel_rfl) (by kernel_rfl) (fun _ _ _ h => leaves_tmps Try.results61 _ _ _ _ _ h) (Or.inl ⟨by rfl, ?hyz19⟩) rfl ?restz19
              case hyz19 => (intro w hSw; (try dsimp only at hSw); rw [hSw]; go_simp; try with_reducible rfl)
              simp only [Act.put, List.setIfInBounds_toArray, List.set_cons_zero, List.set_cons_succ]
              refine wpAnyD_one 20 (by kernel_rfl) rfl (fun KK hK => ?_)
              rw [if_pos (show Region.wanted _ _ = true from rfl)]
              go_wp2_with fail
              refine hK.out _ _ (fun h => absurd h (by decide)) ?_
              clear hK KK
              refine wpAnyD_done (by kernel_rfl) ?_ _
              clear k1 ko fo d2 d3 kv'
              go_wp2
              go_roundw
              case rel => exact ⟨t + 1, by omega, by go_num, by rw [SN.out]; go_num, BS.out, ST.out⟩
              case measure => simp [intOf]; omega
        · have e : t = K.n := by omega
          subst e
          have a1 : wr.cell? ⟨g, 3, none⟩ = some (.slice pa K.m pc) := by rw [cell_of_row _ _ 3 _ _ _ xr]; rfl
          have af : wr.frozen? ⟨g, 3, none⟩ = false := frozen_of_row _ _ 3 _ _ xr
          have x5 : IsDev (wr.setCell ⟨g, 3, none⟩ (.slice none 0 0)) g 1 ⟨some ⟨gs, 0, none⟩, sc, pk (chQ K cl) pA sA, pk (chQ K cl) pN sN, pk (chQ K cl) pC sC, none, 0, pA, pN, pC⟩ (crK K cl) := heap_setCell_same _ _ 3 _ _ (.slice none 0 0) xr
          have s5 := (crashed (fun t q h => chQ_ok h) H3.out rfl hb ho).setOther xr (by decide) (by decide) 3 (.slice none 0 0)
          have o5 : ODisk B (wr.setCell ⟨g, 3, none⟩ (.slice none 0 0)) ⟨some ⟨gs, 0, none⟩, sc, pk (chQ K cl) pA sA, pk (chQ K cl) pN sN, pk (chQ K cl) pC sC, none, 0, pA, pN, pC⟩ (crK K cl) := ⟨s5, orecs_nil _ _ _ _ _ _ _ _ _, fun i j hi hj => absurd hj (Nat.not_lt_zero _)⟩
          have b5 := (HBW.out wr hb).1.setCell (p := ⟨g, 3, none⟩) hB (.slice none 0 0)
          have x6 := x5.lock 0
          have o6 := o5.lock x5 0 (.int .i32 0)
          have b6 := b5.setCell (p := ⟨g, 0, none⟩) hB (.int .i32 0)
          have C5 : Hid _ := x5.c0
          have F5 : Hid _ := x5.f 0
          have FIN : Hid _ := And.intro b6 (And.intro x6 o6)
          clear x5 o5 b5 s5 x6 o6 b6 xr hb ho
          go_wp2_with fail
          refine leaves_cons (f := 80) (args := #[.pointer (some ⟨g, 0, none⟩)]) (by simp) (by simp [go_sem]) ?_
          refine (unlock_deferred muLib ⟨g, 0, none⟩ .returning _ C5.out F5.out).mono ?_
          rintro e u' w'' ⟨rfl, rfl, rfl⟩
          exact ⟨_, results_none rfl _ _ _, rfl, FIN.out.1, _, FIN.out.2.1, FIN.out.2.2⟩
end Go.Proofs.Ytamifpbhmecloaa

/- Crash, in the program. -/
namespace Go.Proofs.Ytamifpbhmecloaa
open Go.RowKit
set_option linter.unusedVariables false

/-- What Crash answers. -/
noncomputable def outCr (K : DK) (c : List Int) : DK := match dOkB K with | true => crK K c | false => K
theorem outCr_yes {K : DK} (h : dOk K) (c : List Int) : outCr K c = crK K c := by unfold outCr; rw [dOk_true h]
theorem outCr_no {K : DK} (h : ¬ dOk K) (c : List Int) : outCr K c = K := by unfold outCr; rw [dOk_false h]
theorem alloc2 (w : World) (o0 o1 : Obj) : ((w.alloc o0).alloc o1).heap[w.heap.size]? = some o0 ∧ ((w.alloc o0).alloc o1).heap[w.heap.size + 1]? = some o1 := by
  have h0 := heap_alloc_new w o0
  have h1 := heap_alloc_new (w.alloc o0) o1
  simp only [World.size_alloc] at h1
  refine ⟨?_, h1⟩
  rw [Below.heap_alloc _ _ _ (by simp)]; exact h0
theorem crash_calls (B g : Nat) (d : DV) (K : DK) (ca : Option Addr) (cn cc : Nat) (cl : List Int) (w0 w : World) (hx : IsDev w g 0 d K) (h : ODisk B w d K) (hok : dOk K) (hop : Bs w0 ca cn cc cl) (h0 : Below w0.heap.size w0 w) (hB0 : w0.heap.size ≤ B) (hB : B ≤ g) :
    Calls Try.prog 61 #[.pointer (some ⟨g, 0, none⟩), .slice ca cn cc] w fun e w' => e = .returned (.tuple #[]) ∧ Below B w w' ∧ ∃ d', IsDev w' g 0 d' (crK K cl) ∧ ODisk B w' d' (crK K cl) := by
  obtain ⟨gs, hsa, _⟩ := orecs_pos h.safe (by have := hok.1.1; omega)
  obtain ⟨sa, sc, sA, sN, sC, pa, pc, pA, pN, pC⟩ := d
  have hsa' : sa = some ⟨gs, 0, none⟩ := hsa
  subst hsa'
  exact crash_core B g gs sc pa pc sA pA sN sC pN pC K ca cn cc cl w0 w hx h hok hop h0 hB0 hB

set_option maxRecDepth 100000 in
set_option maxHeartbeats 2000000 in
theorem implCrash_calls (d : DV) (K : DK) (oa : Option Addr) (on oc : Nat) (ol : List Int) (w : World) (h : RDisk w d K) (hs : Small d K) (hop : Bs w oa on oc ol) :
    Calls Try.prog 18 #[dval d K, .slice oa on oc] w fun e w' => ∃ d', e = .returned (.tuple #[dval d' (outCr K ol), .bool (dOkB K)]) ∧ Below w.heap.size w w' ∧ ODisk w.heap.size w' d' (outCr K ol) ∧ Small d' (outCr K ol) := by
  have q0 : Below w.heap.size w ((w.alloc (.cells #[.slice d.sa K.n d.sc, .slice d.pa K.m d.pc] 26)).alloc (.cells #[.slice none 0 0, .slice none 0 0] 26)) := ((Below.refl w.heap.size w).alloc (by simp) _).alloc (by simp) _
  obtain ⟨y0, y2⟩ := alloc2 w (.cells #[.slice d.sa K.n d.sc, .slice d.pa K.m d.pc] 26) (.cells #[.slice none 0 0, .slice none 0 0] 26)
  have z0 : ((w.alloc (.cells #[.slice d.sa K.n d.sc, .slice d.pa K.m d.pc] 26)).alloc (.cells #[.slice none 0 0, .slice none 0 0] 26)).heap.size = w.heap.size + 1 + 1 := by simp
  have Q0 : Hid _ := q0
  clear q0
  unfold dval
  go_enter Try.func18, Try.ntmps18
  go_wp2_with fail
  generalize hW0 : (w.alloc (.cells #[.slice d.sa K.n d.sc, .slice d.pa K.m d.pc] 26)).alloc (.cells #[.slice none 0 0, .slice none 0 0] 26) = W0 at *
  clear hW0
  refine (implDiskOk_calls d K W0 (h.below Q0.out)).mono ?_
  rintro e w1 ⟨rfl, b1⟩
  have d1 : Below w.heap.size w w1 := Q0.out.trans (b1.mono Q0.out.size)
  have u0 := (b1.block w.heap.size (by omega)).trans y0
  have u2 := (b1.block (w.heap.size + 1) (by omega)).trans y2
  have z1 := b1.size
  rw [z0] at z1
  clear b1 y0 y2 Q0 z0
  have c0 := cell_of_row _ _ 0 _ _ _ u0
  have c1 := cell_of_row _ _ 1 _ _ _ u0
  by_cases hok : dOk K
  · have EK : Hid _ := outCr_yes hok ol
    have EB : Hid _ := dOk_true hok
    rw [dOk_true hok]
    go_wp2_with fail
    refine (newDevice_calls d K w1 (h.below d1) hs).mono ?_
    rintro e w2 ⟨g, d2, rfl, b2, x2, o2, hg⟩
    have d2' : Below w.heap.size w w2 := d1.trans (b2.mono d1.size)
    have u2 := (b2.block (w.heap.size + 1) (by omega)).trans u2
    clear c0 c1 u0 b2
    go_wp2_with fail
    refine (crash_calls w1.heap.size g d2 K oa on oc ol w w2 x2 o2 hok hop d2' d1.size hg).mono ?_
    rintro e w3 ⟨rfl, b3, d3, x3, o3⟩
    have u2 := (b3.block (w.heap.size + 1) (by omega)).trans u2
    have d3' : Below w.heap.size w w3 := d2'.trans (b3.mono d1.size)
    clear x2 o2 b3 d2'
    have hok5 : dOk (crK K ol) := crK_ok ol hok
    have S5 : Hid _ := small_ok o3.reads hok5
    clear hok5
    generalize crK K ol = K5 at *
    go_wp2_with fail
    refine (handOver_calls w1.heap.size g d3 K5 w3 x3 o3 hg).mono ?_
    rintro e w4 ⟨rfl, b4, o4⟩
    have u2 := (b4.block (w.heap.size + 1) (by omega)).trans u2
    have D5 : Hid (Below w.heap.size w w4) := d3'.trans (b4.mono d1.size)
    have O5 : Hid _ := o4
    have l0 := cell_of_row _ _ 0 _ _ _ u2
    have l1 := cell_of_row _ _ 1 _ _ _ u2
    have f0 := frozen_of_row _ _ 0 _ _ u2
    have f1 := frozen_of_row _ _ 1 _ _ u2
    unfold dval
    clear b4 o4 x3 o3 d3' hs hop h u2
    go_wp2
    have t3 := (D5.out.setCell (p := ⟨w.heap.size + 1, 0, none⟩) (by show w.heap.size ≤ w.heap.size + 1; omega) (.slice d3.sa K5.n d3.sc)).setCell (p := ⟨w.heap.size + 1, 1, none⟩) (by show w.heap.size ≤ w.heap.size + 1; omega) (.slice d3.pa K5.m d3.pc)
    have s1 := (O5.out.safe.setBelow (q := ⟨w.heap.size + 1, 0, none⟩) (by show w.heap.size + 1 < w1.heap.size; omega) (.slice d3.sa K5.n d3.sc)).setBelow (q := ⟨w.heap.size + 1, 1, none⟩) (by show w.heap.size + 1 < w1.heap.size; omega) (.slice d3.pa K5.m d3.pc)
    have s2 := (O5.out.pend.setBelow (q := ⟨w.heap.size + 1, 0, none⟩) (by show w.heap.size + 1 < w1.heap.size; omega) (.slice d3.sa K5.n d3.sc)).setBelow (q := ⟨w.heap.size + 1, 1, none⟩) (by show w.heap.size + 1 < w1.heap.size; omega) (.slice d3.pa K5.m d3.pc)
    refine bodyPost_ret (v := .tuple #[.agg #[.slice d3.sa K5.n d3.sc, .slice d3.pa K5.m d3.pc], .bool true]) (by simp [results, Try.results18, go_sem, l0, l1]) rfl ?_
    rw [EK.out, EB.out]
    exact ⟨d3, rfl, t3, ⟨s1.mono (by omega), s2.mono (by omega), O5.out.sepX⟩, S5.out⟩
  · have EK : Hid _ := outCr_no hok ol
    have EB : Hid _ := dOk_false hok
    rw [dOk_false hok]
    go_wp2_with fail
    refine (copyDisk_calls d K w1 (h.below d1) hs).mono ?_
    rintro e w2 ⟨d2, rfl, b2, o2, e1, e2⟩
    have S5 : Hid _ := hs.congr e1 e2
    clear e1 e2
    have D5 : Hid (Below w.heap.size w w2) := d1.trans (b2.mono d1.size)
    have u2 := (b2.block (w.heap.size + 1) (by omega)).trans u2
    have O5 : Hid _ := o2
    have l0 := cell_of_row _ _ 0 _ _ _ u2
    have l1 := cell_of_row _ _ 1 _ _ _ u2
    have f0 := frozen_of_row _ _ 0 _ _ u2
    have f1 := frozen_of_row _ _ 1 _ _ u2
    unfold dval
    clear b2 o2 u0 u2 c0 c1 hs hop h d1
    go_wp2
    have t3 := (D5.out.setCell (p := ⟨w.heap.size + 1, 0, none⟩) (by show w.heap.size ≤ w.heap.size + 1; omega) (.slice d2.sa K.n d2.sc)).setCell (p := ⟨w.heap.size + 1, 1, none⟩) (by show w.heap.size ≤ w.heap.size + 1; omega) (.slice d2.pa K.m d2.pc)
    have s1 := (O5.out.safe.setBelow (q := ⟨w.heap.size + 1, 0, none⟩) (by show w.heap.size + 1 < w1.heap.size; omega) (.slice d2.sa K.n d2.sc)).setBelow (q := ⟨w.heap.size + 1, 1, none⟩) (by show w.heap.size + 1 < w1.heap.size; omega) (.slice d2.pa K.m d2.pc)
    have s2 := (O5.out.pend.setBelow (q := ⟨w.heap.size + 1, 0, none⟩) (by show w.heap.size + 1 < w1.heap.size; omega) (.slice d2.sa K.n d2.sc)).setBelow (q := ⟨w.heap.size + 1, 1, none⟩) (by show w.heap.size + 1 < w1.heap.size; omega) (.slice d2.pa K.m d2.pc)
    refine bodyPost_ret (v := .tuple #[.agg #[.slice d2.sa K.n d2.sc, .slice d2.pa K.m d2.pc], .bool false]) (by simp [results, Try.results18, go_sem, l0, l1]) rfl ?_
    rw [EK.out, EB.out]
    exact ⟨d2, rfl, t3, ⟨s1.mono (by omega), s2.mono (by omega), O5.out.sepX⟩, S5.out⟩
end Go.Proofs.Ytamifpbhmecloaa

