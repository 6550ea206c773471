import Derived.Test.YtnohmedccbogkaaGreatDoorTi0
import Derived.Laws.CopyRow
/- Whole arrays, by value. -/
namespace Go.Proofs.YtnohmedccbogkaaGreatDoor
open Go.RowKit
set_option linter.unusedVariables false

theorem sizeH : (Tryz.prog.info? 32).map (·.size) = some 32 := by kernel_rfl

/-- A whole array into the block that was made last. -/
theorem wpList_storeNew {P : Program} {ops : Array Oper} {rest : List Oper} {o : Oper} {a : Act} {Q : Exit → Act → World → Prop} (hgd : o.guard = none) (ty : TypeId) (x y : Operand) (ho : o.op = .store ty x y) (w : World)
    (c c' : Array Value) (t : TypeId) (hx : a.eval x = .pointer (some ⟨w.heap.size, 0, none⟩)) (hy : a.eval y = .agg c') (hi : (P.info? ty).map (·.size) = some c'.size)
    (hold : c.size = c'.size) (h1 : c'.all (·.oneCell') = true)
    (h : wpList P ops Q rest (a.put o.dst undef) (w.alloc (.cells c' t))) : wpList P ops Q (o :: rest) a (w.alloc (.cells c t)) := by
  refine wpList_store_row hgd ty x y ho w.heap.size c' hx hy t c (heap_alloc_last w _) hi hold h1 ?_
  rw [World.setRow_alloc_new]
  exact h
theorem onlyB_setRow (w : World) (g : Nat) (cs : Array Value) : OnlyB g w (w.setRow g cs) :=
  ⟨rfl, rfl, rfl, by simp [World.setRow], fun k hk hn => by simp [World.setRow, Array.getElem?_modify, Ne.symm hn]⟩
theorem Blk.setRow {w : World} {t g : Nat} {xs : List Value} (h : Blk w t g xs) (ys : List Value) : Blk (w.setRow g ys.toArray) t g ys := setRow_heap w g _ _ t _ h
theorem ob_all (l : List Int) : (ob l).toArray.all (·.oneCell') = true := by
  rw [Array.all_eq_true_iff_forall_mem]
  intro v hv
  exact ob_oneCell l v (by simpa using hv)
theorem ob_size (l : List Int) : (ob l).toArray.size = l.length := by simp [ob]
/-- A row of bytes, written up to j. -/
def upToA (l : List Int) (j : Nat) : List Int := l.take j ++ List.replicate (l.length - j) 0
theorem upToA_len (l : List Int) (j : Nat) (h : j ≤ l.length) : (upToA l j).length = l.length := by simp [upToA]; omega
theorem upToA_zero (l : List Int) : upToA l 0 = List.replicate l.length 0 := by simp [upToA]
theorem upToA_full (l : List Int) (j : Nat) (h : j = l.length) : upToA l j = l := by subst h; simp [upToA]
theorem upToA_set (l : List Int) (j : Nat) (h : j < l.length) : (upToA l j).set j (l.getD j 0) = upToA l (j + 1) := by
  have e : l.length - j = (l.length - (j + 1)) + 1 := by omega
  have e2 : (l.take j).length = j := by simp; omega
  unfold upToA
  have e3 : l.take (j + 1) = l.take j ++ [l.getD j 0] := by
    rw [List.take_succ_eq_append_getElem h]
    simp [List.getD, h]
  rw [e, List.replicate_succ, List.set_append_right _ _ (by omega), e2, Nat.sub_self, List.set_cons_zero, e3]
  simp only [List.append_assoc, List.singleton_append]
end Go.Proofs.YtnohmedccbogkaaGreatDoor

/- A whole array or struct out of the middle of a block. -/
namespace Go.Proofs.YtnohmedccbogkaaGreatDoor
open Go.RowKit
set_option linter.unusedVariables false

/-- A whole array out of the middle of a block. -/
theorem run_loadVar_at {P : Program} (w : World) (g off : Nat) (ty : TypeId) (cs : List Value) (d : TypeDesc) (hc : ∀ j v, cs[j]? = some v → w.cell? ⟨g, off + j, none⟩ = some v)
    (hu : P.underlying ty = some d) (hd : (match d with | .struct _ | .array _ _ => true | _ => false) = true) (hi : (P.info? ty).map (·.size) = some cs.length) :
    (loadVar ty ⟨g, off, none⟩).run P w = .ok (.agg cs.toArray) w := by
  have hl : (loadCells ⟨g, off, none⟩ cs.length).run P w = .ok cs.toArray w :=
    run_loadCells_list (P := P) w ⟨g, off, none⟩ cs (fun j v hv => by rw [Addr.add_lit]; exact hc j v hv)
  cases hq : P.info? ty with
  | none => simp [hq] at hi
  | some i =>
    have hs : i.size = cs.length := by simpa [hq] using hi
    have hagg : (isAgg ty).run P w = .ok true w := by
      unfold isAgg
      rw [Sem.run_bind, run_underlying hu w]
      cases d <;> simp_all
    simp [loadVar, Sem.run_bind, hagg, sizeOf, typeInfo, hq, hs, hl]
theorem wpList_load_at {P : Program} {ops : Array Oper} {rest : List Oper} {o : Oper} {a : Act} {w : World} {Q : Exit → Act → World → Prop} (hgd : o.guard = none) (ty : TypeId) (x : Operand) (ho : o.op = .load ty x)
    (g off : Nat) (hx : a.eval x = .pointer (some ⟨g, off, none⟩)) (cs : List Value) (d : TypeDesc) (hc : ∀ j v, cs[j]? = some v → w.cell? ⟨g, off + j, none⟩ = some v)
    (hu : P.underlying ty = some d) (hd : (match d with | .struct _ | .array _ _ => true | _ => false) = true) (hi : (P.info? ty).map (·.size) = some cs.length)
    (h : wpList P ops Q rest (a.put o.dst (.agg cs.toArray)) w) : wpList P ops Q (o :: rest) a w :=
  wpList_plain hgd fun _ hK => by
    unfold Oper.wp execOp
    simp only [ho, hx, Instr.loadAt, Instr.sureAddr, Sem.run_bind, Sem.run_pure, Result.andThen_ok, run_loadVar_at w g off ty cs d hc hu hd hi]
    exact hK _ _ h
/-- A load, as what one operation yields. -/
theorem yield_load {P : Program} {w : World} {t : TypeId} {ρ : Operand → Value} {x : Operand} {o : Oper} {p v : Value} (ho : o.op = .load t x) (hx : ρ x = p) (h : (Instr.loadAt t p).run P w = .ok v w) : (execOp ρ o).run P w = .ok (.value v) w := by
  unfold execOp
  simp only [ho, hx, Sem.run_bind, h, Result.andThen_ok, Sem.run_pure]

end Go.Proofs.YtnohmedccbogkaaGreatDoor

/- Rows of elements of one size, whatever their cells. -/
namespace Go.Proofs.YtnohmedccbogkaaGreatDoor
open Go.RowKit
set_option linter.unusedVariables false

/-- The cells of a list of elements. -/
def rowV (f : Nat → List Value) : Nat → List Value
  | 0 => []
  | k + 1 => rowV f k ++ f k
/-- Each of the first n has s cells. -/
structure IsRow (s : Nat) (f : Nat → List Value) (n : Nat) : Prop where
  len : ∀ i, i < n → (f i).length = s
  one : ∀ i, i < n → ∀ u ∈ f i, u.oneCell' = true
theorem IsRow.mono {s : Nat} {f : Nat → List Value} {n k : Nat} (H : IsRow s f n) (hk : k ≤ n) : IsRow s f k := ⟨fun i hi => H.len i (by omega), fun i hi => H.one i (by omega)⟩
theorem rowV_len {s : Nat} {f : Nat → List Value} : ∀ n, IsRow s f n → (rowV f n).length = n * s
  | 0, _ => by simp [rowV]
  | n + 1, H => by
    rw [rowV, List.length_append, rowV_len n (H.mono (by omega)), H.len n (by omega), Nat.add_mul, Nat.one_mul]
theorem rowV_get {s : Nat} {f : Nat → List Value} : ∀ n, IsRow s f n → ∀ i q, i < n → q < s → (rowV f n)[i * s + q]? = (f i)[q]?
  | 0, _, i, _, hi, _ => by omega
  | n + 1, H, i, q, hi, hq => by
    rw [rowV]
    have hl := rowV_len n (H.mono (by omega))
    by_cases e : i = n
    · subst e
      rw [List.getElem?_append_right (by omega), hl, show i * s + q - i * s = q by omega]
    · have hm : (i + 1) * s ≤ n * s := Nat.mul_le_mul_right _ (by omega)
      rw [Nat.add_mul, Nat.one_mul] at hm
      rw [List.getElem?_append_left (by omega)]
      exact rowV_get n (H.mono (by omega)) i q (by omega) hq
theorem rowV_congr {f f' : Nat → List Value} : ∀ n, (∀ i, i < n → f i = f' i) → rowV f n = rowV f' n
  | 0, _ => rfl
  | n + 1, H => by rw [rowV, rowV, rowV_congr n (fun i hi => H i (by omega)), H n (by omega)]

/-- The slice reads as these elements. -/
structure RRow (w : World) (s : Nat) (a : Option Addr) (n c : Nat) (f : Nat → List Value) : Prop where
  ok : IsRow s f n
  le : n ≤ c
  le' : c ≤ maxLen
  nil : a = none → c = 0
  at_ : 0 < n → ∃ b off, a = some ⟨b, off, none⟩ ∧ b < w.heap.size ∧ ∀ i q, i < n → q < s → w.cell? ⟨b, off + i * s + q, none⟩ = (f i)[q]?
theorem RRow.cells {w : World} {s n c b off : Nat} {f : Nat → List Value} (H : RRow w s (some ⟨b, off, none⟩) n c f) (i : Nat) (hi : i < n) : ∀ j v, (f i)[j]? = some v → w.cell? ⟨b, off + i * s + j, none⟩ = some v := fun j v hv => by
  have hj : j < s := by have := (List.getElem?_eq_some_iff.1 hv).1; rw [H.ok.len i hi] at this; exact this
  obtain ⟨b', off', e, _, hc⟩ := H.at_ (by omega)
  cases e
  rw [hc i j hi hj, hv]

/-- The slice is a row of the call's own. -/
def ORow (e s B : Nat) (w : World) (a : Option Addr) (n c : Nat) (f : Nat → List Value) : Prop := w.ownsRow B e s (.slice a n c) n (rowV f n)
theorem ORow.reads {e s B : Nat} {w : World} {a : Option Addr} {n c : Nat} {f : Nat → List Value} (H : ORow e s B w a n c f) (ok : IsRow s f n) : RRow w s a n c f := by
  rcases H.2 with ⟨e1, h0⟩ | ⟨g, cap, cur, e1, hg, hh, h1, h2, h3, h4⟩
  · cases e1
    exact ⟨ok, by omega, Nat.zero_le _, fun _ => rfl, fun hp => absurd hp (by omega)⟩
  · cases e1
    refine ⟨ok, h1, h2, fun e => (by cases e), fun hp => ⟨g, 0, rfl, (Array.getElem?_eq_some_iff.1 hh).1, fun i q hi hq => ?_⟩⟩
    have hm : (i + 1) * s ≤ n * s := Nat.mul_le_mul_right _ (by omega)
    rw [Nat.add_mul, Nat.one_mul] at hm
    rw [show 0 + i * s + q = i * s + q by omega, World.ownsRow.cellAt H (i * s + q) (by omega)]
    exact rowV_get n ok i q hi hq
theorem ORow.below {e s B : Nat} {w w' : World} {a : Option Addr} {n c : Nat} {f : Nat → List Value} (H : ORow e s B w a n c f) (hb : Below w.heap.size w w') : ORow e s B w' a n c f := own_below H hb
theorem ORow.mono {e s B B' : Nat} {w : World} {a : Option Addr} {n c : Nat} {f : Nat → List Value} (H : ORow e s B w a n c f) (hB : B' ≤ B) : ORow e s B' w a n c f := World.ownsRow.mono H hB
theorem ORow.congr {e s B : Nat} {w : World} {a : Option Addr} {n c : Nat} {f f' : Nat → List Value} (H : ORow e s B w a n c f) (h : ∀ i, i < n → f i = f' i) : ORow e s B w a n c f' := by
  unfold ORow at H ⊢
  rw [← rowV_congr n h]
  exact H
theorem orow_nil (e s B : Nat) (w : World) (f : Nat → List Value) : ORow e s B w none 0 0 f := World.ownsRow_nil w B _ _
theorem orow_lit0 (e s B : Nat) (w : World) (hB : B ≤ w.heap.size) (f : Nat → List Value) : ORow e s B (w.alloc (.cells #[] e)) (some ⟨w.heap.size, 0, none⟩) 0 0 f := by
  have := World.ownsRow_lit (base := B) (e := e) (size := s) w #[] 0 hB (by unfold maxLen; omega) (by simp)
  simpa [ORow, rowV] using this
def updR (f : Nat → List Value) (n : Nat) (x : List Value) : Nat → List Value := fun i => if i = n then x else f i
theorem updR_same (f : Nat → List Value) (n : Nat) (x : List Value) : updR f n x n = x := by simp [updR]
theorem updR_lt (f : Nat → List Value) {n i : Nat} (x : List Value) (hi : i < n) : updR f n x i = f i := by simp [updR, Nat.ne_of_lt hi]
theorem rowV_updR (f : Nat → List Value) (n : Nat) (x : List Value) : rowV (updR f n x) (n + 1) = rowV f n ++ x := by
  rw [rowV, updR_same, rowV_congr n (fun i hi => updR_lt f x hi)]

/-- What a type's table says that rows need. -/
structure ElT (t e s : Nat) (z : Value) (bytes : Nat) : Prop where
  und : Tryz.prog.underlying t = some (.slice e)
  inf : (Tryz.prog.info? e).map (fun i => (i.zero, i.size, i.bytes)) = some (some z, s, bytes)
  cells : z.cells.size = s
  pos : 0 < s

/-- 'append(s, x)', s a row of the call's own, x's cells in the block that was made last. -/
theorem wp_appRow {w1 : World} {o : Oper} {act : Act} {KK : Act → World → Prop} {Q : Exit → Act → World → Prop} (so xo : Operand) {t e s bytes : Nat} {z : Value} (T : ElT t e s z bytes)
    (ho : o.op = .call { callee := .builtin .append, args := #[so, xo], argTypes := #[t, t] })
    (B : Nat) (a : Option Addr) (n c : Nat) (f : Nat → List Value) (hs : act.eval so = .slice a n c) (hown : ORow e s B w1 a n c f) (x : List Value) (hxl : x.length = s) (hx1 : ∀ u ∈ x, u.oneCell' = true)
    (hx : act.eval xo = .slice (some ⟨w1.heap.size, 0, none⟩) 1 1) (hn : n ≤ 1048576) (hbt : bytes ≤ 1048576) (hB : B ≤ w1.heap.size)
    (hh : ∀ a' c' w', ORow e s B w' a' (n + 1) c' (updR f n x) → Below B w1 w' → (w1.alloc (.cells x.toArray e)).grownBy w' (Value.slice a n c).ownBlock → KK (act.put o.dst (.slice a' (n + 1) c')) w') :
    o.wp Tryz.prog act (w1.alloc (.cells x.toArray e)) KK Q := by
  obtain ⟨i, hi, hz0, hz1, hz2⟩ := info_parts T.inf
  have q0 : Below w1.heap.size w1 (w1.alloc (.cells x.toArray e)) := (Below.refl _ _).alloc (Nat.le_refl _) _
  refine wp_append_own _ so xo _ ho B e i z s bytes T.und hi hz0 hz1 hz2 T.cells T.pos _ n (rowV f n) hs (own_below hown q0) ⟨w1.heap.size, 0, none⟩ 1 1 x hx (by rw [hxl, Nat.one_mul]) ?_ hx1 (by unfold maxLen; omega) ?_ (by simp; omega) ?_
  · intro j u hj
    rw [Addr.add_lit, Nat.zero_add]
    have : (w1.alloc (.cells x.toArray e)).cell? ⟨w1.heap.size, j, none⟩ = x.toArray[j]? := cell_of_row _ w1.heap.size j _ e (0, 0) (heap_alloc_new w1 _)
    rw [this, ← hj]
    simp
  · have : (n + 1) * bytes ≤ (n + 1) * 1048576 := Nat.mul_le_mul_left _ hbt
    omega
  · intro v' w' ho' hg' _
    rw [← rowV_updR] at ho'
    have hv : ∃ a' c', v' = .slice a' (n + 1) c' := by
      rcases ho'.2 with ⟨rfl, h0⟩ | ⟨g, cap, cur, rfl, _⟩
      · omega
      · exact ⟨_, _, rfl⟩
    obtain ⟨a', c', rfl⟩ := hv
    exact hh a' c' w' ho' ((q0.mono hB).trans ((Below.refl _ _).grown hg' (by simp; omega) (fun k hk => (World.ownsRow.lt (own_below hown q0) k hk).1))) hg'
theorem wpList_appRow {w1 : World} {ops : Array Oper} {rest : List Oper} {o : Oper} {act : Act} {Q : Exit → Act → World → Prop} (hgd : o.guard = none) (so xo : Operand) {t e s bytes : Nat} {z : Value} (T : ElT t e s z bytes)
    (ho : o.op = .call { callee := .builtin .append, args := #[so, xo], argTypes := #[t, t] })
    (B : Nat) (a : Option Addr) (n c : Nat) (f : Nat → List Value) (hs : act.eval so = .slice a n c) (hown : ORow e s B w1 a n c f) (x : List Value) (hxl : x.length = s) (hx1 : ∀ u ∈ x, u.oneCell' = true)
    (hx : act.eval xo = .slice (some ⟨w1.heap.size, 0, none⟩) 1 1) (hn : n ≤ 1048576) (hbt : bytes ≤ 1048576) (hB : B ≤ w1.heap.size)
    (hh : ∀ a' c' w', ORow e s B w' a' (n + 1) c' (updR f n x) → Below B w1 w' → (w1.alloc (.cells x.toArray e)).grownBy w' (Value.slice a n c).ownBlock → wpList Tryz.prog ops Q rest (act.put o.dst (.slice a' (n + 1) c')) w') :
    wpList Tryz.prog ops Q (o :: rest) act (w1.alloc (.cells x.toArray e)) :=
  wpList_plain hgd fun _ hK => wp_appRow so xo T ho B a n c f hs hown x hxl hx1 hx hn hbt hB fun a' c' w' h1 h2 h3 => hK _ _ (hh a' c' w' h1 h2 h3)


end Go.Proofs.YtnohmedccbogkaaGreatDoor

/- Rows of one type stay. -/
namespace Go.Proofs.YtnohmedccbogkaaGreatDoor
open Go.RowKit
set_option linter.unusedVariables false

/-- Every row of this type is as it was. -/
structure KeepT (t : Nat) (w w' : World) : Prop where
  size : w.heap.size ≤ w'.heap.size
  block : ∀ (k : Nat) (cs : Array Value) (fr : Nat × Nat), w.heap[k]? = some (.cells cs t fr) → w'.heap[k]? = some (.cells cs t fr)
theorem KeepT.refl (t : Nat) (w : World) : KeepT t w w := ⟨Nat.le_refl _, fun _ _ _ h => h⟩
theorem KeepT.trans {t : Nat} {a b c : World} (h : KeepT t a b) (k : KeepT t b c) : KeepT t a c := ⟨Nat.le_trans h.size k.size, fun i cs fr hi => k.block i cs fr (h.block i cs fr hi)⟩
theorem keepT_below {t : Nat} {w w' : World} (h : Below w.heap.size w w') : KeepT t w w' := ⟨h.size, fun k cs fr hk => by rw [h.block k (Array.getElem?_eq_some_iff.1 hk).1]; exact hk⟩
theorem keepT_grown {t e s B : Nat} {w w' : World} {v : Value} {n : Nat} {xs : List Value} (ho : w.ownsRow B e s v n xs) (hg : w.grownBy w' v.ownBlock) (he : e ≠ t) : KeepT t w w' :=
  ⟨hg.size, fun k cs fr hk => by
    rw [hg.block k (Array.getElem?_eq_some_iff.1 hk).1 (fun e1 => ?_)]
    · exact hk
    · rcases ho.2 with ⟨e2, _⟩ | ⟨g, cap, cur, e2, _, hh, _⟩
      · subst e2; simp [Value.ownBlock] at e1
      · subst e2
        simp [Value.ownBlock] at e1
        subst e1
        rw [hk] at hh
        cases hh
        exact he rfl⟩
theorem ownsRow_keepT {t s B : Nat} {w w' : World} {v : Value} {n : Nat} {xs : List Value} (h : w.ownsRow B t s v n xs) (hk : KeepT t w w') : w'.ownsRow B t s v n xs := by
  refine ⟨h.1, ?_⟩
  rcases h.2 with h2 | ⟨k, cap, cur, hv, hg, hh, r⟩
  · exact Or.inl h2
  · exact Or.inr ⟨k, cap, cur, hv, hg, hk.block k _ _ hh, r⟩
theorem Blk.keepT {w w' : World} {t g : Nat} {xs : List Value} (h : Blk w t g xs) (hk : KeepT t w w') : Blk w' t g xs := hk.block g _ _ h
theorem keepT_only {t e g : Nat} {w w' : World} {xs : List Value} (h : OnlyB g w w') (hg : Blk w e g xs) (he : e ≠ t) : KeepT t w w' :=
  ⟨h.size, fun k cs fr hk => by
    by_cases e1 : k = g
    · subst e1
      rw [hg] at hk
      cases hk
      exact absurd rfl he
    · exact (h.block k (Array.getElem?_eq_some_iff.1 hk).1 e1).trans hk⟩
theorem keepT_onlyC {t e g : Nat} {w w' : World} {cur : Array Value} {fr : Nat × Nat} (h : OnlyB g w w') (hg : w.heap[g]? = some (.cells cur e fr)) (he : e ≠ t) : KeepT t w w' :=
  ⟨h.size, fun k cs fr2 hk => by
    by_cases e1 : k = g
    · subst e1
      rw [hg] at hk
      cases hk
      exact absurd rfl he
    · exact (h.block k (Array.getElem?_eq_some_iff.1 hk).1 e1).trans hk⟩
end Go.Proofs.YtnohmedccbogkaaGreatDoor

