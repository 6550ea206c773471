import Derived.Test.YtnohmedccbogkaaGreatDoorCs0
namespace Go.Proofs.YtnohmedccbogkaaGreatDoor
open Go.RowKit
set_option linter.unusedVariables false
theorem Bs.cut {w : World} {b off n cap : Nat} {l : List Int} (h : Bs w (some ⟨b, off, none⟩) n cap l) (i m : Nat) (hi : i + m ≤ n) (cap' : Nat) (hc : m ≤ cap') (hc' : cap' ≤ maxLen) : Bs w (some ⟨b, off + i, none⟩) m cap' ((l.drop i).take m) := by
  refine ⟨by simp [h.len_eq]; omega, hc, hc', fun e => (by cases e), fun hp => ?_, ?_⟩
  · obtain ⟨b1, off1, e, hl, hcell⟩ := h.at_ (by omega)
    cases e
    refine ⟨b, off + i, rfl, hl, fun j hj => ?_⟩
    rw [Nat.add_assoc, hcell (i + j) (by omega)]
    simp [List.getD, hj]
  · refine isB_take (fun j => ?_) m
    have := h.byte (i + j)
    simpa [List.getD] using this
theorem Bs.only {w w' : World} {a : Option Addr} {n c g : Nat} {l : List Int} (h : Bs w a n c l) (ho : OnlyB g w w') (hg : ∀ b off, 0 < n → a = some ⟨b, off, none⟩ → b ≠ g) : Bs w' a n c l :=
  ⟨h.len_eq, h.le, h.le', h.nil, fun hp => by
    obtain ⟨b, off, e, hl, hc⟩ := h.at_ hp
    refine ⟨b, off, e, Nat.lt_of_lt_of_le hl ho.size, fun i hi => ?_⟩
    rw [World.cell?_of_block (a := ⟨b, off + i, none⟩) (ho.block b hl (hg b off hp e))]
    exact hc i hi, h.byte⟩
def badE : List PanicEntry := [{ v := .iface 237 (.agg #[]), recovered := false }]
theorem need_yes (w : World) : Calls Tryz.prog 161 #[.bool true] w fun e w' => e = .returned (.tuple #[]) ∧ w' = w := by
  go_enter Tryz.func161, Tryz.ntmps161
  go_wp2
  go_end0
  exact ⟨rfl, rfl⟩
theorem need_no (w : World) : Calls Tryz.prog 161 #[.bool false] w fun e w' => e = .panicked badE ∧ w' = w := by
  go_enter Tryz.func161, Tryz.ntmps161
  go_wp2
  exact ⟨rfl, rfl, rfl⟩
structure CurA (w : World) (g B : Nat) (a : Option Addr) (n c : Nat) (l : List Int) : Prop where
  blk : Blk w 162 g [.slice a n c]
  bs : Bs w a n c l
  low : ∀ b off, 0 < n → a = some ⟨b, off, none⟩ → b < B
def Cur (w : World) (g B : Nat) (l : List Int) : Prop := ∃ a n c, CurA w g B a n c l
theorem CurA.ne {w : World} {g B : Nat} {a : Option Addr} {n c : Nat} {l : List Int} (h : CurA w g B a n c l) : ∀ b off, 0 < n → a = some ⟨b, off, none⟩ → b ≠ g := fun b off hp e hb => by
  obtain ⟨b1, off1, e1, hl, hc⟩ := h.bs.at_ hp
  rw [e] at e1
  cases e1
  subst hb
  have := hc 0 hp
  rw [h.blk.cell] at this
  cases off with
  | zero => simp at this
  | succ k => simp at this
theorem Cur.below {w w' : World} {g B : Nat} {l : List Int} (h : Cur w g B l) (ho : Below w.heap.size w w') : Cur w' g B l := by
  obtain ⟨a, n, c, h⟩ := h
  exact ⟨a, n, c, h.blk.below ho, h.bs.below ho, h.low⟩
theorem Cur.only {w w' : World} {g B k : Nat} {l : List Int} (h : Cur w g B l) (ho : OnlyB k w w') (hB : B ≤ k) (hk : g ≠ k) : Cur w' g B l := by
  obtain ⟨a, n, c, h⟩ := h
  exact ⟨a, n, c, h.blk.only ho hk, h.bs.only ho (fun b off hp e hb => by have := h.low b off hp e; omega), h.low⟩
theorem Cur.belowB {w w' : World} {g B N : Nat} {l : List Int} (h : Cur w g B l) (hb : Below N w w') (hB : B ≤ N) (hg : g < N) : Cur w' g B l := by
  obtain ⟨a, n, c, h⟩ := h
  refine ⟨a, n, c, (hb.block g hg).trans h.blk, ⟨h.bs.len_eq, h.bs.le, h.bs.le', h.bs.nil, fun hp => ?_, h.bs.byte⟩, h.low⟩
  obtain ⟨b, off, e, hl, hc⟩ := h.bs.at_ hp
  have hlo := h.low b off hp e
  refine ⟨b, off, e, Nat.lt_of_lt_of_le hl hb.size, fun i hi => ?_⟩
  rw [World.cell?_of_block (a := ⟨b, off + i, none⟩) (hb.block b (by omega))]
  exact hc i hi
theorem OnlyB.thenN {g N : Nat} {w w1 w2 : World} (h : OnlyB g w w1) (hb : Below N w1 w2) (hN : w.heap.size ≤ N) : OnlyB g w w2 :=
  ⟨hb.os.trans h.os, hb.tape.trans h.tape, hb.output.trans h.output, Nat.le_trans h.size hb.size, fun k hk hn => (hb.block k (by omega)).trans (h.block k hk hn)⟩
theorem Cur.lt {w : World} {g B : Nat} {l : List Int} (h : Cur w g B l) : g < w.heap.size := by
  obtain ⟨a, n, c, h⟩ := h
  exact h.blk.lt
theorem Cur.byte {w : World} {g B : Nat} {l : List Int} (h : Cur w g B l) : IsB l := by
  obtain ⟨a, n, c, h⟩ := h
  exact h.bs.byte
set_option maxHeartbeats 1000000 in
theorem take_yes (g B : Nat) (l : List Int) (k : Nat) (w : World) (h : Cur w g B l) (h1 : 1 ≤ k) (hk : k ≤ l.length) :
    Calls Tryz.prog 97 #[.pointer (some ⟨g, 0, none⟩), .int .i64 (k : Int)] w fun e w' => ∃ b off c', e = .returned (.slice (some ⟨b, off, none⟩) k c') ∧ OnlyB g w w' ∧ Cur w' g B (l.drop k) ∧ Bs w' (some ⟨b, off, none⟩) k c' (l.take k) ∧ b < w.heap.size ∧ b ≠ g ∧ b < B := by
  obtain ⟨a, n, c, h⟩ := h
  have hn := h.bs.len_eq
  obtain ⟨b, off, rfl, hl, _⟩ := h.bs.at_ (by omega)
  have hne := h.ne b off (by omega) rfl
  have hbB := h.low b off (by omega) rfl
  have hle := h.bs.le
  have hmx := h.bs.le'
  unfold maxLen at hmx
  have cc := h.blk.cell 0
  have fz := h.blk.free 0
  have hkk : decide (k ≤ n) = true := by simp; omega
  have P1 : Bs w (some ⟨b, off, none⟩) k c (l.take k) := by have := h.bs.cut 0 k (by omega) c (by omega) h.bs.le'; simpa using this
  have P2 : Bs w (some ⟨b, off + k, none⟩) (n - k) (c - k) (l.drop k) := by
    have := h.bs.cut k (n - k) (by omega) (c - k) (by omega) (by have := h.bs.le'; omega)
    rwa [List.take_of_length_le (by rw [List.length_drop]; omega)] at this
  have FIN : Hid (∀ a', (a' = some ⟨b, off + k, none⟩ ∨ (c = k ∧ a' = some ⟨b, off, none⟩)) → OnlyB g w (w.setCell ⟨g, 0, none⟩ (.slice a' (n - k) (c - k))) ∧ Cur (w.setCell ⟨g, 0, none⟩ (.slice a' (n - k) (c - k))) g B (l.drop k) ∧ Bs (w.setCell ⟨g, 0, none⟩ (.slice a' (n - k) (c - k))) (some ⟨b, off, none⟩) k c (l.take k)) := fun a' ha => by
    have o := onlyB_setCell w g 0 (.slice a' (n - k) (c - k))
    refine ⟨o, ⟨a', n - k, c - k, h.blk.set 0 _, ?_, fun b' off' hp e => ?_⟩, P1.only o (fun b' off' _ e => by cases e; exact hne)⟩
    rotate_left
    · rcases ha with rfl | ⟨hc, rfl⟩ <;> cases e <;> exact hbB
    rcases ha with rfl | ⟨hc, rfl⟩
    · exact P2.only o (fun b' off' _ e => by cases e; exact hne)
    · refine ⟨P2.len_eq, P2.le, P2.le', fun e => (by cases e), fun hp => by omega, P2.byte⟩
  clear h P1 P2
  go_enter Tryz.func97, Tryz.ntmps97
  go_wp2_with fail
  refine Calls.mono (need_yes w) ?_
  rintro e w1 ⟨rfl, hw⟩
  obtain rfl := hw.symm
  go_wp2
  · have hck : c - k = 0 := by omega
    go_ret
    have F := FIN.out (some ⟨b, off, none⟩) (Or.inr ⟨by assumption, rfl⟩)
    rw [hck] at F
    exact ⟨b, off, c, by simp_all, F.1, F.2.1, F.2.2, hl, hne, hbB⟩
  · go_ret
    have F := FIN.out (some ⟨b, off + k, none⟩) (Or.inl rfl)
    exact ⟨b, off, c, rfl, F.1, F.2.1, F.2.2, hl, hne, hbB⟩
theorem take_no (g B : Nat) (l : List Int) (k : Nat) (w : World) (h : Cur w g B l) (hk : l.length < k) (hk2 : k ≤ 1048576) :
    Calls Tryz.prog 97 #[.pointer (some ⟨g, 0, none⟩), .int .i64 (k : Int)] w fun e w' => e = .panicked badE ∧ w' = w := by
  obtain ⟨a, n, c, h⟩ := h
  have hn := h.bs.len_eq
  have hle := h.bs.le
  have hmx := h.bs.le'
  unfold maxLen at hmx
  have cc := h.blk.cell 0
  have fz := h.blk.free 0
  have hkk : decide (k ≤ n) = false := by simp; omega
  clear h
  go_enter Tryz.func97, Tryz.ntmps97
  go_wp2_with fail
  refine Calls.mono (need_no w) ?_
  rintro e w1 ⟨rfl, hw⟩
  obtain rfl := hw.symm
  go_wp2
  exact ⟨rfl, rfl, rfl⟩
end Go.Proofs.YtnohmedccbogkaaGreatDoor

namespace Go.Proofs.YtnohmedccbogkaaGreatDoor
open Go.RowKit
set_option linter.unusedVariables false
theorem sizeH : (Tryz.prog.info? 32).map (·.size) = some 32 := by kernel_rfl
theorem wpList_storeNew {P : Program} {ops : Array Oper} {rest : List Oper} {o : Oper} {a : Act} {Q : Exit → Act → World → Prop} (hgd : o.guard = none) (ty : TypeId) (x y : Operand) (ho : o.op = .store ty x y) (w : World)
    (c c' : Array Value) (t : TypeId) (hx : a.eval x = .pointer (some ⟨w.heap.size, 0, none⟩)) (hy : a.eval y = .agg c') (hi : (P.info? ty).map (·.size) = some c'.size)
    (hold : c.size = c'.size) (h1 : c'.all (·.oneCell') = true)
    (h : wpList P ops Q rest (a.put o.dst undef) (w.alloc (.cells c' t))) : wpList P ops Q (o :: rest) a (w.alloc (.cells c t)) := by
  refine wpList_store_row hgd ty x y ho w.heap.size c' hx hy t c (heap_alloc_last w _) hi hold h1 ?_
  rw [World.setRow_alloc_new]
  exact h
theorem onlyB_setRow (w : World) (g : Nat) (cs : Array Value) : OnlyB g w (w.setRow g cs) :=
  ⟨rfl, rfl, rfl, by simp [World.setRow], fun k hk hn => by simp [World.setRow, Array.getElem?_modify, Ne.symm hn]⟩
theorem Blk.setRow {w : World} {t g : Nat} {xs : List Value} (h : Blk w t g xs) (ys : List Value) : Blk (w.setRow g ys.toArray) t g ys := setRow_heap w g _ _ t _ h
theorem ob_all (l : List Int) : (ob l).toArray.all (·.oneCell') = true := by
  rw [Array.all_eq_true_iff_forall_mem]
  intro v hv
  exact ob_oneCell l v (by simpa using hv)
theorem ob_size (l : List Int) : (ob l).toArray.size = l.length := by simp [ob]
def upToA (l : List Int) (j : Nat) : List Int := l.take j ++ List.replicate (l.length - j) 0
theorem upToA_len (l : List Int) (j : Nat) (h : j ≤ l.length) : (upToA l j).length = l.length := by simp [upToA]; omega
theorem upToA_zero (l : List Int) : upToA l 0 = List.replicate l.length 0 := by simp [upToA]
theorem upToA_full (l : List Int) (j : Nat) (h : j = l.length) : upToA l j = l := by subst h; simp [upToA]
theorem upToA_set (l : List Int) (j : Nat) (h : j < l.length) : (upToA l j).set j (l.getD j 0) = upToA l (j + 1) := by
  have e : l.length - j = (l.length - (j + 1)) + 1 := by omega
  have e2 : (l.take j).length = j := by simp; omega
  unfold upToA
  have e3 : l.take (j + 1) = l.take j ++ [l.getD j 0] := by
    rw [List.take_succ_eq_append_getElem h]
    simp [List.getD, h]
  rw [e, List.replicate_succ, List.set_append_right _ _ (by omega), e2, Nat.sub_self, List.set_cons_zero, e3]
  simp only [List.append_assoc, List.singleton_append]
end Go.Proofs.YtnohmedccbogkaaGreatDoor

namespace Go.Proofs.YtnohmedccbogkaaGreatDoor
open Go.RowKit
set_option linter.unusedVariables false
theorem run_loadVar_at {P : Program} (w : World) (g off : Nat) (ty : TypeId) (cs : List Value) (d : TypeDesc) (hc : ∀ j v, cs[j]? = some v → w.cell? ⟨g, off + j, none⟩ = some v)
    (hu : P.underlying ty = some d) (hd : (match d with | .struct _ | .array _ _ => true | _ => false) = true) (hi : (P.info? ty).map (·.size) = some cs.length) :
    (loadVar ty ⟨g, off, none⟩).run P w = .ok (.agg cs.toArray) w := by
  have hl : (loadCells ⟨g, off, none⟩ cs.length).run P w = .ok cs.toArray w :=
    run_loadCells_list (P := P) w ⟨g, off, none⟩ cs (fun j v hv => by rw [Addr.add_lit]; exact hc j v hv)
  cases hq : P.info? ty with
  | none => simp [hq] at hi
  | some i =>
    have hs : i.size = cs.length := by simpa [hq] using hi
    have hagg : (isAgg ty).run P w = .ok true w := by
      unfold isAgg
      rw [Sem.run_bind, run_underlying hu w]
      cases d <;> simp_all
    simp [loadVar, Sem.run_bind, hagg, sizeOf, typeInfo, hq, hs, hl]
theorem wpList_load_at {P : Program} {ops : Array Oper} {rest : List Oper} {o : Oper} {a : Act} {w : World} {Q : Exit → Act → World → Prop} (hgd : o.guard = none) (ty : TypeId) (x : Operand) (ho : o.op = .load ty x)
    (g off : Nat) (hx : a.eval x = .pointer (some ⟨g, off, none⟩)) (cs : List Value) (d : TypeDesc) (hc : ∀ j v, cs[j]? = some v → w.cell? ⟨g, off + j, none⟩ = some v)
    (hu : P.underlying ty = some d) (hd : (match d with | .struct _ | .array _ _ => true | _ => false) = true) (hi : (P.info? ty).map (·.size) = some cs.length)
    (h : wpList P ops Q rest (a.put o.dst (.agg cs.toArray)) w) : wpList P ops Q (o :: rest) a w :=
  wpList_plain hgd fun _ hK => by
    unfold Oper.wp execOp
    simp only [ho, hx, Instr.loadAt, Instr.sureAddr, Sem.run_bind, Sem.run_pure, Result.andThen_ok, run_loadVar_at w g off ty cs d hc hu hd hi]
    exact hK _ _ h
theorem yield_load {P : Program} {w : World} {t : TypeId} {ρ : Operand → Value} {x : Operand} {o : Oper} {p v : Value} (ho : o.op = .load t x) (hx : ρ x = p) (h : (Instr.loadAt t p).run P w = .ok v w) : (execOp ρ o).run P w = .ok (.value v) w := by
  unfold execOp
  simp only [ho, hx, Sem.run_bind, h, Result.andThen_ok, Sem.run_pure]
end Go.Proofs.YtnohmedccbogkaaGreatDoor

namespace Go.Proofs.YtnohmedccbogkaaGreatDoor
open Go.RowKit
def num (v : Int) (k : Nat) : List Int := (List.range k).map fun i => v / 256 ^ i % 256
theorem num_len (v : Int) (k : Nat) : (num v k).length = k := by simp [num]
theorem num_snoc (v : Int) (k : Nat) : num v (k + 1) = num v k ++ [v / 256 ^ k % 256] := by simp [num, List.range_succ]
theorem num_isB (v : Int) (k : Nat) : IsB (num v k) := fun i => by
  by_cases h : i < k
  · simp [num, List.getD, h]; omega
  · simp [num, List.getD, h]
theorem div_pow_succ (v : Int) (k : Nat) : v / 256 ^ k / 256 = v / 256 ^ (k + 1) := by
  rw [Int.pow_succ, ← Int.ediv_ediv_of_nonneg (Int.pow_nonneg (by omega))]
theorem div_pow_bd (v : Int) (k : Nat) (h0 : 0 ≤ v) (h1 : v ≤ 9223372036854775807) : 0 ≤ v / 256 ^ k ∧ v / 256 ^ k ≤ 9223372036854775807 := by
  have hp : (0 : Int) < 256 ^ k := Int.pow_pos (by omega)
  refine ⟨Int.ediv_nonneg h0 (Int.le_of_lt hp), ?_⟩
  exact Int.le_trans (Int.ediv_le_self _ h0) h1
set_option maxHeartbeats 400000 in
theorem l2Num_calls (v : Int) (k : Nat) (w : World) (h0 : 0 ≤ v) (h1 : v ≤ 9223372036854775807) (hk : k ≤ 8) :
    Calls Tryz.prog 102 #[.int .i64 v, .int .i64 k] w fun e w' => ∃ a c, e = .returned (.slice a k c) ∧ Below w.heap.size w w' ∧ Own w.heap.size w' a k c (num v k) := by
  go_enter Tryz.func102, Tryz.ntmps102
  go_wp2
  go_loopw [0, 5, 6] (fun x o i wr => ∃ j a c, j ≤ k ∧ i = .int .i64 (j : Nat) ∧ o = .slice a j c ∧ x = .int .i64 (v / 256 ^ j) ∧ Below w.heap.size w wr ∧ Own w.heap.size wr a j c (num v j)) (fun _ _ i _ => k - (intOf i).toNat)
  case atStart => 
    refine ⟨0, _, 0, Nat.zero_le _, rfl, rfl, by simp, (Below.refl _ _).alloc (Nat.le_refl _) _, ?_⟩
    exact own_lit w [] 0 rfl (by omega) _ (Nat.le_refl _)
  case round =>
    obtain ⟨j, a, c, hj, rfl, rfl, rfl, hb, ho⟩ := hrel
    have hd := div_pow_bd v j h0 h1
    have HS : Hid (v / 256 ^ j / 256 = v / 256 ^ (j + 1)) := div_pow_succ v j
    have HN : Hid (num v (j + 1) = num v j ++ [v / 256 ^ j % 256]) := num_snoc v j
    generalize v / 256 ^ j = x at *
    by_cases hlt : j < k
    · go_wp2_with (at_builtin; refine wpList_app rfl _ _ rfl w.heap.size a j c (num v j) rfl ?own _ 1 1 [x % 256] rfl ?bs ?len ?B ?_)
      case own => exact World.ownsRow.alloc ho _
      case bs => exact bs_lit1 wr (x % 256) (by omega) (by omega)
      case len => omega
      case B => have := hb.size; simp; omega
      intro a' c' w' ho' hb' _
      have hb2 : Below w.heap.size w w' := (hb.alloc hb.size _).trans hb'
      clear ho hb hb'
      go_wp2
      go_roundw
      case rel => exact ⟨j + 1, a', c', by omega, by go_num, rfl, by rw [← HS.out], hb2, by rw [HN.out]; exact ho'⟩
      case measure => simp [intOf]; omega
    · have e : j = k := by omega
      subst e
      go_wp2
      go_ret
      exact ⟨a, c, rfl, hb, ho⟩
set_option maxHeartbeats 400000 in
theorem appendNumber_calls (B : Nat) (a : Option Addr) (n c : Nat) (xs : List Int) (v : Int) (k : Nat) (w : World) (hown : Own B w a n c xs) (hB : B ≤ w.heap.size) (hn : n ≤ 1048576) (h0 : 0 ≤ v) (h1 : v ≤ 9223372036854775807) (hk : k ≤ 8) :
    Calls Tryz.prog 163 #[.slice a n c, .int .i64 v, .int .i64 k] w fun e w' => ∃ a c, e = .returned (.slice a (n + k) c) ∧ Below B w w' ∧ Own B w' a (n + k) c (xs ++ num v k) := by
  go_enter Tryz.func163, Tryz.ntmps163
  go_wp2
  go_loopw [0, 1, 8] (fun o x i wr => ∃ j a c, j ≤ k ∧ i = .int .i64 (j : Nat) ∧ o = .slice a (n + j) c ∧ x = .int .i64 (v / 256 ^ j) ∧ Below B w wr ∧ Own B wr a (n + j) c (xs ++ num v j)) (fun _ _ i _ => k - (intOf i).toNat)
  case atStart => exact ⟨0, a, c, Nat.zero_le _, rfl, rfl, by simp, Below.refl _ _, by simpa [num] using hown⟩
  case round =>
    obtain ⟨j, a, c, hj, rfl, rfl, rfl, hb, ho⟩ := hrel
    have hd := div_pow_bd v j h0 h1
    have HS : Hid (v / 256 ^ j / 256 = v / 256 ^ (j + 1)) := div_pow_succ v j
    have HN : Hid (num v (j + 1) = num v j ++ [v / 256 ^ j % 256]) := num_snoc v j
    generalize v / 256 ^ j = x at *
    by_cases hlt : j < k
    · go_wp2_with (at_builtin; refine wpList_app rfl _ _ rfl B a (n + j) c (xs ++ num v j) rfl ?own _ 1 1 [x % 256] rfl ?bs ?len ?B ?_)
      case own => exact World.ownsRow.alloc ho _
      case bs => exact bs_lit1 wr (x % 256) (by omega) (by omega)
      case len => omega
      case B => have := hb.size; simp; omega
      intro a' c' w' ho' hb' _
      have hb2 : Below B w w' := (hb.alloc (Nat.le_trans hB hb.size) _).trans hb'
      clear ho hb hb'
      go_wp2
      go_roundw
      case rel => exact ⟨j + 1, a', c', by omega, by go_num, rfl, by rw [← HS.out], hb2, by rw [HN.out]; exact ho'⟩
      case measure => simp [intOf]; omega
    · have e : j = k := by omega
      subst e
      go_wp2
      go_ret
      exact ⟨a, c, rfl, hb, ho⟩
end Go.Proofs.YtnohmedccbogkaaGreatDoor

namespace Go.Proofs.YtnohmedccbogkaaGreatDoor
open Go.RowKit
set_option linter.unusedVariables false
def low : List Int → Int
  | [] => 0
  | x :: t => x + 256 * low t
theorem isB_tail {x : Int} {t : List Int} (h : IsB (x :: t)) : IsB t := fun i => by have := h (i + 1); simpa using this
theorem isB_head {x : Int} {t : List Int} (h : IsB (x :: t)) : 0 ≤ x ∧ x < 256 := by have := h 0; simpa using this
theorem low_bd : ∀ {l : List Int}, IsB l → 0 ≤ low l ∧ low l < 256 ^ l.length
  | [], _ => by simp [low]
  | x :: t, h => by
    have h1 := low_bd (isB_tail h)
    have h2 := isB_head h
    have e : (256 : Int) ^ (x :: t).length = 256 * 256 ^ t.length := by rw [List.length_cons, Int.pow_succ]; omega
    rw [e]
    simp only [low]
    omega
theorem num_cons (v : Int) : ∀ k, num v (k + 1) = v % 256 :: num (v / 256) k
  | 0 => by simp [num]
  | k + 1 => by
    have e : v / 256 ^ (k + 1) = v / 256 / 256 ^ k := by rw [Int.pow_succ, Int.mul_comm, ← Int.ediv_ediv_of_nonneg (by omega)]
    rw [num_snoc, num_cons v k, num_snoc (v / 256) k, List.cons_append, e]
theorem num_low : ∀ {l : List Int}, IsB l → num (low l) l.length = l
  | [], _ => rfl
  | x :: t, h => by
    have h2 := isB_head h
    rw [List.length_cons, num_cons]
    simp only [low]
    rw [show (x + 256 * low t) % 256 = x by omega, show (x + 256 * low t) / 256 = low t by omega, num_low (isB_tail h)]
theorem low_num : ∀ (k : Nat) (v : Int), 0 ≤ v → v < 256 ^ k → low (num v k) = v
  | 0, v, h0, h1 => by simp [num, low]; simp at h1; omega
  | k + 1, v, h0, h1 => by
    rw [num_cons]
    simp only [low]
    have e : (256 : Int) ^ (k + 1) = 256 * 256 ^ k := by rw [Int.pow_succ]; omega
    rw [low_num k (v / 256) (by omega) (by omega)]
    omega
theorem low_drop (l : List Int) (i : Nat) (h : i < l.length) : low (l.drop i) = l.getD i 0 + 256 * low (l.drop (i + 1)) := by
  rw [List.drop_eq_getElem_cons h]
  simp [low, List.getD_eq_getElem?_getD, h]
theorem isB_drop {l : List Int} (h : IsB l) (k : Nat) : IsB (l.drop k) := fun i => by
  have := h (k + i)
  simpa [List.getD_eq_getElem?_getD, List.getElem?_drop] using this
end Go.Proofs.YtnohmedccbogkaaGreatDoor

