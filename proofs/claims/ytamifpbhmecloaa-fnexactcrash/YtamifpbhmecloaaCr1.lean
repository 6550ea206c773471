import Derived.Test.YtamifpbhmecloaaCr0
namespace Go.Proofs.Ytamifpbhmecloaa
open Go.RowKit

/-- The marks from k on. -/
def marks (k : Int) (n : Nat) : List Int := (List.range n).map fun i : Nat => (k + (i : Int)) % 256
theorem marks_len (k : Int) (n : Nat) : (marks k n).length = n := by simp [marks]
theorem marks_get (k : Int) (n j : Nat) (h : j < n) : (marks k n).getD j 0 = (k + j) % 256 := by simp [marks, List.getD, h]
theorem marks_isB (k : Int) (n : Nat) : IsB (marks k n) := fun i => by
  by_cases h : i < n
  · rw [marks_get k n i h]; omega
  · simp [marks, List.getD, h]
theorem marks_snoc (k : Int) (j : Nat) : marks k (j + 1) = marks k j ++ [(k + j) % 256] := by simp [marks, List.range_succ]
theorem marks_set (k : Int) (l : List Int) (j : Nat) (h : j < l.length) : (ob (marks k j ++ l.drop j)).set j (.int .u8 ((k + j) % 256)) = ob (marks k (j + 1) ++ l.drop (j + 1)) := by
  rw [show ob (marks k j ++ l.drop j) = ob (marks k j) ++ ob (l.drop j) by simp [ob]]
  rw [List.drop_eq_getElem_cons h]
  have e : (ob (marks k j)).length = j := by simp [ob, marks_len]
  rw [List.set_append_right _ _ (by omega), e, Nat.sub_self, marks_snoc]
  simp only [ob, List.map_cons, List.map_append, List.set_cons_zero, List.append_assoc, List.cons_append, List.nil_append]

theorem grownBy_trans {a b c : World} {row : Option Nat} (h : a.grownBy b row) (k : b.grownBy c row) : a.grownBy c row :=
  ⟨k.os.trans h.os, k.tape.trans h.tape, k.output.trans h.output, Nat.le_trans h.size k.size, fun i hi hne => (k.block i (Nat.lt_of_lt_of_le hi h.size) hne).trans (h.block i hi hne)⟩
theorem grownBy_refl (a : World) (row : Option Nat) : a.grownBy a row := ⟨rfl, rfl, rfl, Nat.le_refl _, fun _ _ _ => rfl⟩

/-- What lies behind the world in which a row was made is kept when the row is written. -/
theorem Own.kept2 {B B2 : Nat} {w0 w w' : World} {a a2 : Option Addr} {n c n2 c2 : Nat} {l l2 : List Int} (h2 : Own B2 w a2 n2 c2 l2) (hx : Own B w0 a n c l) (hS : w0.heap.size ≤ B2) (hg : w.grownBy w' (Value.slice a n c).ownBlock) : Own B2 w' a2 n2 c2 l2 := by
  refine World.ownsRow.kept h2 hg ?_
  cases hk : (Value.slice a2 n2 c2).ownBlock with
  | none => exact Or.inl rfl
  | some k =>
    right
    intro e
    have h1 := (World.ownsRow.lt h2 k hk).1
    have h3 := (World.ownsRow.lt hx k e.symm).2
    omega

theorem own_pos {B : Nat} {w : World} {a : Option Addr} {n c : Nat} {l : List Int} (h : Own B w a n c l) (hp : 0 < n) : ∃ g, a = some ⟨g, 0, none⟩ ∧ B ≤ g := by
  rcases h.2 with ⟨e, h0⟩ | ⟨g, cap, cur, e, hg, _⟩
  · omega
  · cases e
    exact ⟨g, rfl, hg⟩

set_option maxHeartbeats 400000 in
theorem markByteS_calls (B : Nat) (a : Option Addr) (n c : Nat) (l : List Int) (k : Int) (w : World) (h : Own B w a n c l) (hn : n ≤ 1048576) (h0 : 0 ≤ k) (h1 : k ≤ 1099511627776) :
    Calls Try.prog 26 #[.slice a n c, .int .i64 k] w fun e w' => e = .returned (.int .i64 (k + n)) ∧ w.grownBy w' (Value.slice a n c).ownBlock ∧ Below B w w' ∧ w'.heap.size = w.heap.size ∧ Own B w' a n c (marks k n) := by
  have HL : Hid (l.length = n) := h.len
  go_enter Try.func26, Try.ntmps26
  go_wp2
  go_loopw [1, 5] (fun x i wr => ∃ j : Nat, j ≤ n ∧ i = .int .i64 j ∧ x = .int .i64 (k + j) ∧ w.grownBy wr (Value.slice a n c).ownBlock ∧ Below B w wr ∧ wr.heap.size = w.heap.size ∧ Own B wr a n c (marks k j ++ l.drop j)) (fun _ i _ => n - (intOf i).toNat)
  case atStart => exact ⟨0, Nat.zero_le _, rfl, by simp, grownBy_refl _ _, Below.refl _ _, rfl, by simpa [marks] using h⟩
  case round =>
    obtain ⟨j, hj, rfl, rfl, hg, hb, hz, ho⟩ := hrel
    by_cases hlt : j < n
    · obtain ⟨g, rfl, hBg⟩ := own_pos ho (by omega)
      have hst := ho.stored j (.int .u8 ((k + j) % 256))
      rw [marks_set k l j (by rw [HL.out]; exact hlt)] at hst
      have hc : ∃ q, wr.cell? ⟨g, j, none⟩ = some (.int .u8 q) := by
        rw [ho.cellAt j (by omega), ob_getElem? _ j (by simp [marks_len]; have := HL.out; omega)]
        exact ⟨_, rfl⟩
      obtain ⟨q, hc⟩ := hc
      have hf : wr.frozen? ⟨g, j, none⟩ = false := ho.frozenAt j
      have HST : Hid (World.ownsRow (wr.setCell ⟨g, j, none⟩ (.int .u8 ((k + j) % 256))) B 5 1 (.slice (some ⟨g, 0, none⟩) n c) n (ob (marks k (j + 1) ++ l.drop (j + 1)))) := hst.1
      have HG : Hid (wr.grownBy (wr.setCell ⟨g, j, none⟩ (.int .u8 ((k + j) % 256))) (some g)) := hst.2
      clear hst ho h
      have HB := hb.setCell (p := ⟨g, j, none⟩) hBg (.int .u8 ((k + j) % 256))
      have HZ : Hid (wr.heap.size = w.heap.size) := hz
      clear hz
      go_wp2
      go_roundw
      case rel => exact ⟨j + 1, by omega, by go_num, by go_num, grownBy_trans hg HG.out, HB, by rw [World.size_setCell]; exact HZ.out, HST.out⟩
      case measure => simp [intOf]; omega
    · have e : j = n := by omega
      subst e
      have e2 : marks k j ++ l.drop j = marks k j := by rw [List.drop_of_length_le (by rw [HL.out]; exact Nat.le_refl _), List.append_nil]
      rw [e2] at ho
      have HZ : Hid (wr.heap.size = w.heap.size) := hz
      clear hz e2
      go_wp2
      go_ret
      exact ⟨rfl, hg, hb, HZ.out, ho⟩

set_option maxHeartbeats 400000 in
theorem heldByteS_calls (a : Option Addr) (n c : Nat) (k : Int) (w : World) (h : Bs w a n c (marks k n)) (hn : n ≤ 1048576) (h0 : 0 ≤ k) (h1 : k ≤ 1099511627776) :
    Calls Try.prog 27 #[.slice a n c, .int .i64 k] w fun e w' => e = .returned (.int .i64 (k + n)) ∧ w' = w := by
  go_enter Try.func27, Try.ntmps27
  go_wp2
  go_loop [1, 5] (fun x i => ∃ j : Nat, j ≤ n ∧ i = .int .i64 j ∧ x = .int .i64 (k + j)) (fun _ i => n - (intOf i).toNat)
  case atStart => exact ⟨0, Nat.zero_le _, rfl, by simp⟩
  case round =>
    obtain ⟨j, hj, rfl, rfl⟩ := hrel
    by_cases hlt : j < n
    · obtain ⟨b, off, rfl, hbl, hc⟩ := h.at_ (by omega)
      have hck := hc j hlt
      rw [marks_get k n j hlt] at hck
      have hne : ((k + (j : Int)) % 256 != (k + (j : Int)) % 256) = false := by simp
      clear hc h
      go_wp2
      go_round
      case rel => exact ⟨j + 1, by omega, by go_num, by go_num⟩
      case measure => simp [intOf]; omega
    · have e : j = n := by omega
      subst e
      go_wp2
      go_ret
      exact ⟨rfl, rfl⟩
end Go.Proofs.Ytamifpbhmecloaa

/- Slices of records: p numbers and then a slice of bytes. -/
namespace Go.Proofs.Ytamifpbhmecloaa
open Go.RowKit

/-- The slice '.slice a n c' reads as n records: I i 0, .., I i (p-1), and the bytes L i in the slice '.slice (A i) (N i) (C i)'. -/
structure RRecs (p : Nat) (w : World) (a : Option Addr) (n c : Nat) (I : Nat → Nat → Int) (A : Nat → Option Addr) (N C : Nat → Nat) (L : Nat → List Int) : Prop where
  le : n ≤ c
  le' : c ≤ maxLen
  nil : a = none → c = 0
  at_ : 0 < n → ∃ b off, a = some ⟨b, off, none⟩ ∧ b < w.heap.size ∧ ∀ i, i < n → (∀ q, q < p → w.cell? ⟨b, off + i * (p + 1) + q, none⟩ = some (.int .i64 (I i q))) ∧ w.cell? ⟨b, off + i * (p + 1) + p, none⟩ = some (.slice (A i) (N i) (C i))
  data : ∀ i, i < n → Bs w (A i) (N i) (C i) (L i)

theorem RRecs.below {p : Nat} {w w' : World} {a : Option Addr} {n c : Nat} {I : Nat → Nat → Int} {A : Nat → Option Addr} {N C : Nat → Nat} {L : Nat → List Int} (h : RRecs p w a n c I A N C L) (hb : Below w.heap.size w w') : RRecs p w' a n c I A N C L :=
  ⟨h.le, h.le', h.nil, fun hp => by
    obtain ⟨b, off, e, hl, hc⟩ := h.at_ hp
    refine ⟨b, off, e, Nat.lt_of_lt_of_le hl hb.size, fun i hi => ⟨fun q hq => ?_, ?_⟩⟩
    · rw [hb.cell (p := ⟨b, _, none⟩) hl]; exact (hc i hi).1 q hq
    · rw [hb.cell (p := ⟨b, _, none⟩) hl]; exact (hc i hi).2, fun i hi => (h.data i hi).below hb⟩

/-- The cells of one record. -/
def recCells (p : Nat) (I : Nat → Int) (v : Value) : List Value := (List.range p).map (fun q => Value.int .i64 (I q)) ++ [v]
theorem recCells_len (p : Nat) (I : Nat → Int) (v : Value) : (recCells p I v).length = p + 1 := by simp [recCells]
theorem recCells_int (p : Nat) (I : Nat → Int) (v : Value) (q : Nat) (h : q < p) : (recCells p I v)[q]? = some (.int .i64 (I q)) := by
  simp [recCells, List.getElem?_append_left, h]
theorem recCells_last (p : Nat) (I : Nat → Int) (v : Value) : (recCells p I v)[p]? = some v := by
  simp [recCells]

/-- The cells of n records. -/
def flat (p : Nat) (I : Nat → Nat → Int) (V : Nat → Value) : Nat → List Value
  | 0 => []
  | n + 1 => flat p I V n ++ recCells p (I n) (V n)
theorem flat_len (p : Nat) (I : Nat → Nat → Int) (V : Nat → Value) : ∀ n, (flat p I V n).length = n * (p + 1)
  | 0 => by simp [flat]
  | n + 1 => by rw [flat, List.length_append, flat_len p I V n, recCells_len, Nat.add_mul, Nat.one_mul]
theorem flat_get (p : Nat) (I : Nat → Nat → Int) (V : Nat → Value) (q : Nat) (hq : q < p + 1) : ∀ n i, i < n → (flat p I V n)[i * (p + 1) + q]? = (recCells p (I i) (V i))[q]?
  | 0, i, h => by omega
  | n + 1, i, h => by
    rw [flat]
    by_cases e : i = n
    · subst e
      rw [List.getElem?_append_right (by rw [flat_len]; omega), flat_len]
      congr 1
      omega
    · have hm : (i + 1) * (p + 1) ≤ n * (p + 1) := Nat.mul_le_mul_right _ (by omega)
      rw [Nat.add_mul, Nat.one_mul] at hm
      rw [List.getElem?_append_left (by rw [flat_len]; omega)]
      exact flat_get p I V q hq n i (by omega)

/-- The slice is a row of the call's own, from block B on, and so are its records' bytes; no two of these rows are one. -/
structure ORecs (p e : Nat) (B : Nat) (w : World) (a : Option Addr) (n c : Nat) (I : Nat → Nat → Int) (A : Nat → Option Addr) (N C : Nat → Nat) (L : Nat → List Int) : Prop where
  row : w.ownsRow B e (p + 1) (.slice a n c) n (flat p I (fun i => .slice (A i) (N i) (C i)) n)
  data : ∀ i, i < n → Own B w (A i) (N i) (C i) (L i)
  byte : ∀ i, i < n → IsB (L i)
  sep1 : ∀ i j, i < j → j < n → ∀ k, (Value.slice (A i) (N i) (C i)).ownBlock = some k → (Value.slice (A j) (N j) (C j)).ownBlock ≠ some k

theorem ORecs.reads {p e B : Nat} {w : World} {a : Option Addr} {n c : Nat} {I : Nat → Nat → Int} {A : Nat → Option Addr} {N C : Nat → Nat} {L : Nat → List Int} (h : ORecs p e B w a n c I A N C L) : RRecs p w a n c I A N C L := by
  have hd := fun i hi => (h.data i hi).bs (h.byte i hi)
  rcases h.row.2 with ⟨e1, h0⟩ | ⟨g, cap, cur, e1, hg, hh, h1, h2, h3, h4⟩
  · cases e1
    exact ⟨by omega, Nat.zero_le _, fun _ => rfl, fun hp => absurd hp (by omega), hd⟩
  · cases e1
    have hget : ∀ q i, i < n → q < p + 1 → w.cell? ⟨g, 0 + i * (p + 1) + q, none⟩ = (recCells p (I i) (.slice (A i) (N i) (C i)))[q]? := fun q i hi hq => by
      have hm : (i + 1) * (p + 1) ≤ n * (p + 1) := Nat.mul_le_mul_right _ (by omega)
      rw [Nat.add_mul, Nat.one_mul] at hm
      rw [Nat.zero_add, World.ownsRow.cellAt h.row (i * (p + 1) + q) (by omega)]
      exact flat_get p I (fun i => .slice (A i) (N i) (C i)) q hq n i hi
    refine ⟨h1, h2, fun e => (by cases e), fun hp => ⟨g, 0, rfl, (Array.getElem?_eq_some_iff.1 hh).1, fun i hi => ⟨fun q hq => ?_, ?_⟩⟩, hd⟩
    · rw [hget q i hi (by omega), recCells_int _ _ _ _ hq]
    · rw [hget p i hi (by omega), recCells_last]

theorem ORecs.below {p e B : Nat} {w w' : World} {a : Option Addr} {n c : Nat} {I : Nat → Nat → Int} {A : Nat → Option Addr} {N C : Nat → Nat} {L : Nat → List Int} (h : ORecs p e B w a n c I A N C L) (hb : Below w.heap.size w w') : ORecs p e B w' a n c I A N C L :=
  ⟨own_below h.row hb, fun i hi => (h.data i hi).below hb, h.byte, h.sep1⟩
theorem ORecs.mono {p e B B' : Nat} {w : World} {a : Option Addr} {n c : Nat} {I : Nat → Nat → Int} {A : Nat → Option Addr} {N C : Nat → Nat} {L : Nat → List Int} (h : ORecs p e B w a n c I A N C L) (hB : B' ≤ B) : ORecs p e B' w a n c I A N C L :=
  ⟨World.ownsRow.mono h.row hB, fun i hi => (h.data i hi).mono hB, h.byte, h.sep1⟩

/-- Two rows of different element types are not one. -/
theorem types_ne {w : World} {B B' e e' size size' : Nat} {v v' : Value} {n n' : Nat} {xs xs' : List Value} (h1 : w.ownsRow B e size v n xs) (h2 : w.ownsRow B' e' size' v' n' xs') (he : e ≠ e') : ∀ k, v.ownBlock = some k → v'.ownBlock ≠ some k := by
  intro k hk hk'
  rcases h1.2 with ⟨rfl, _⟩ | ⟨g, cap, cur, rfl, _, hh, _⟩
  · simp [Value.ownBlock] at hk
  · rcases h2.2 with ⟨rfl, _⟩ | ⟨g', cap', cur', rfl, _, hh', _⟩
    · simp [Value.ownBlock] at hk'
    · simp [Value.ownBlock] at hk hk'
      subst hk; subst hk'
      rw [hh] at hh'
      simp at hh'
      exact he hh'.2

/-- A function turned at one place. -/
def upd {α : Type} (f : Nat → α) (n : Nat) (x : α) : Nat → α := fun i => if i = n then x else f i
theorem upd_same {α : Type} (f : Nat → α) (n : Nat) (x : α) : upd f n x n = x := by simp [upd]
theorem upd_lt {α : Type} (f : Nat → α) (n : Nat) (x : α) {i : Nat} (h : i < n) : upd f n x i = f i := by simp [upd]; omega
theorem upd_ne {α : Type} (f : Nat → α) (n : Nat) (x : α) {i : Nat} (h : i ≠ n) : upd f n x i = f i := by simp [upd, h]

theorem flat_congr (p : Nat) {I I' : Nat → Nat → Int} {V V' : Nat → Value} : ∀ n, (∀ i, i < n → (∀ q, q < p → I i q = I' i q) ∧ V i = V' i) → flat p I V n = flat p I' V' n
  | 0, _ => rfl
  | n + 1, h => by
    rw [flat, flat, flat_congr p n (fun i hi => h i (by omega))]
    congr 1
    unfold recCells
    rw [(h n (by omega)).2]
    congr 1
    refine List.map_congr_left fun q hq => ?_
    rw [(h n (by omega)).1 q (by simpa using hq)]

theorem recCells_oneCell (p : Nat) (I : Nat → Int) (a : Option Addr) (n c : Nat) : ∀ u ∈ recCells p I (.slice a n c), u.oneCell' = true := by
  intro u hu
  simp only [recCells, List.mem_append, List.mem_map, List.mem_singleton] at hu
  rcases hu with ⟨_, _, rfl⟩ | rfl <;> rfl

/-- 'append(s, Rec{.., data})', the data a row made behind the world in which s lay. -/
theorem wp_appRec {w0 w1 : World} {o : Oper} {act : Act} {KK : Act → World → Prop} {Q : Exit → Act → World → Prop} (s x : Operand) (t : TypeId)
    (ho : o.op = .call { callee := .builtin .append, args := #[s, x], argTypes := #[t, t] })
    (p e B : Nat) (ht : Try.prog.underlying t = some (.slice e)) (hinf : ∃ i z, Try.prog.info? e = some i ∧ i.zero = some z ∧ i.size = p + 1 ∧ z.cells.size = p + 1 ∧ i.bytes ≤ 64) (he : e ≠ 5)
    (a : Option Addr) (n c : Nat) (I : Nat → Nat → Int) (A : Nat → Option Addr) (N C : Nat → Nat) (L : Nat → List Int) (hs : act.eval s = .slice a n c) (hold : ORecs p e B w0 a n c I A N C L)
    (h01 : Below w0.heap.size w0 w1) (J : Nat → Int) (a1 : Option Addr) (n1 c1 : Nat) (l1 : List Int) (hnew : Own w0.heap.size w1 a1 n1 c1 l1) (hb1 : IsB l1) (hB : B ≤ w0.heap.size)
    (cs : Array Value) (hcs : cs.toList = recCells p J (.slice a1 n1 c1)) (hx : act.eval x = .slice (some ⟨w1.heap.size, 0, none⟩) 1 1) (hn : n ≤ 1048576)
    (h : ∀ a' c' w', ORecs p e B w' a' (n + 1) c' (upd I n J) (upd A n a1) (upd N n n1) (upd C n c1) (upd L n l1) → Below B w1 w' → (∀ {B2 : Nat} {a2 : Option Addr} {n2 c2 : Nat} {l2 : List Int}, Own B2 w1 a2 n2 c2 l2 → Own B2 w' a2 n2 c2 l2) → (w1.alloc (.cells cs e)).grownBy w' (Value.slice a n c).ownBlock → KK (act.put o.dst (.slice a' (n + 1) c')) w') : o.wp Try.prog act (w1.alloc (.cells cs e)) KK Q := by
  obtain ⟨i, z, hi, hz0, hz1, hz2, hz3⟩ := hinf
  have q0 : Below w1.heap.size w1 (w1.alloc (.cells cs e)) := (Below.refl _ _).alloc (Nat.le_refl _) _
  have q : Below w0.heap.size w0 (w1.alloc (.cells cs e)) := h01.trans (q0.mono h01.size)
  have hz := h01.size
  refine wp_append_own _ s x t ho B e i z (p + 1) i.bytes ht hi hz0 hz1 rfl hz2 (by omega) _ n _ hs (own_below hold.row q) ⟨w1.heap.size, 0, none⟩ 1 1 (recCells p J (.slice a1 n1 c1)) hx (by rw [recCells_len, Nat.one_mul]) ?_ (recCells_oneCell _ _ _ _ _) (by unfold maxLen; omega) ?_ (by simp; omega) ?_
  · intro j u hj
    rw [Addr.add_lit, Nat.zero_add]
    rw [← hcs] at hj
    have : (w1.alloc (.cells cs e)).cell? ⟨w1.heap.size, j, none⟩ = cs[j]? := cell_of_row _ w1.heap.size j cs e (0, 0) (heap_alloc_new w1 _)
    rw [this, ← hj]
    simp
  · have : (n + 1) * i.bytes ≤ (n + 1) * 64 := Nat.mul_le_mul_left _ hz3
    omega
  · intro v' w' ho' hg' _
    have hv : ∃ a' c', v' = .slice a' (n + 1) c' := by
      rcases ho'.2 with ⟨rfl, h0⟩ | ⟨g, cap, cur, rfl, _⟩
      · omega
      · exact ⟨_, _, rfl⟩
    obtain ⟨a', c', rfl⟩ := hv
    have keep : ∀ {B2 : Nat} {a2 : Option Addr} {n2 c2 : Nat} {l2 : List Int}, Own B2 (w1.alloc (.cells cs e)) a2 n2 c2 l2 → Own B2 w' a2 n2 c2 l2 := fun {B2 a2 n2 c2 l2} h2 => by
      refine World.ownsRow.kept h2 hg' ?_
      cases hk : (Value.slice a2 n2 c2).ownBlock with
      | none => exact Or.inl rfl
      | some k => exact Or.inr fun e1 => types_ne h2 (own_below hold.row q) (Ne.symm he) k hk e1.symm
    refine h a' c' w' ⟨?_, fun i hi => ?_, fun i hi => ?_, fun i j hij hj k hk => ?_⟩ ((q0.mono (Nat.le_trans hB hz)).trans ((Below.refl _ _).grown hg' (by simp; omega) (fun k hk => (World.ownsRow.lt (own_below hold.row q) k hk).1))) (fun h2 => keep (h2.below q0)) hg'
    · have e1 : flat p (upd I n J) (fun i => .slice (upd A n a1 i) (upd N n n1 i) (upd C n c1 i)) (n + 1) = flat p I (fun i => .slice (A i) (N i) (C i)) n ++ recCells p J (.slice a1 n1 c1) := by
        rw [flat, upd_same, upd_same, upd_same, upd_same]
        rw [flat_congr p n (I' := I) (V' := fun i => .slice (A i) (N i) (C i)) (fun i hi => ⟨fun q _ => by rw [upd_lt _ _ _ hi], by rw [upd_lt _ _ _ hi, upd_lt _ _ _ hi, upd_lt _ _ _ hi]⟩)]
      rw [e1]
      exact ho'
    · by_cases e2 : i = n
      · subst e2; rw [upd_same, upd_same, upd_same, upd_same]; exact keep ((hnew.below q0).mono hB)
      · have hi' : i < n := by omega
        rw [upd_lt _ _ _ hi', upd_lt _ _ _ hi', upd_lt _ _ _ hi', upd_lt _ _ _ hi']
        exact keep ((hold.data i hi').below q)
    · by_cases e2 : i = n
      · subst e2; rw [upd_same]; exact hb1
      · rw [upd_ne _ _ _ e2]; exact hold.byte i (by omega)
    · have hi' : i < n := by omega
      rw [upd_lt _ _ _ hi', upd_lt _ _ _ hi', upd_lt _ _ _ hi'] at hk
      by_cases e2 : j = n
      · subst e2
        rw [upd_same, upd_same, upd_same]
        intro hk'
        have g1 := (World.ownsRow.lt (hold.data i hi') k hk).2
        have g2 := (World.ownsRow.lt hnew k hk').1
        omega
      · rw [upd_ne _ _ _ e2, upd_ne _ _ _ e2, upd_ne _ _ _ e2]
        exact hold.sep1 i j hij (by omega) k hk

theorem wpList_appRec {w0 w1 : World} {ops : Array Oper} {rest : List Oper} {o : Oper} {act : Act} {Q : Exit → Act → World → Prop} (hgd : o.guard = none) (s x : Operand) (t : TypeId)
    (ho : o.op = .call { callee := .builtin .append, args := #[s, x], argTypes := #[t, t] })
    (p e B : Nat) (ht : Try.prog.underlying t = some (.slice e)) (hinf : ∃ i z, Try.prog.info? e = some i ∧ i.zero = some z ∧ i.size = p + 1 ∧ z.cells.size = p + 1 ∧ i.bytes ≤ 64) (he : e ≠ 5)
    (a : Option Addr) (n c : Nat) (I : Nat → Nat → Int) (A : Nat → Option Addr) (N C : Nat → Nat) (L : Nat → List Int) (hs : act.eval s = .slice a n c) (hold : ORecs p e B w0 a n c I A N C L)
    (h01 : Below w0.heap.size w0 w1) (J : Nat → Int) (a1 : Option Addr) (n1 c1 : Nat) (l1 : List Int) (hnew : Own w0.heap.size w1 a1 n1 c1 l1) (hb1 : IsB l1) (hB : B ≤ w0.heap.size)
    (cs : Array Value) (hcs : cs.toList = recCells p J (.slice a1 n1 c1)) (hx : act.eval x = .slice (some ⟨w1.heap.size, 0, none⟩) 1 1) (hn : n ≤ 1048576)
    (h : ∀ a' c' w', ORecs p e B w' a' (n + 1) c' (upd I n J) (upd A n a1) (upd N n n1) (upd C n c1) (upd L n l1) → Below B w1 w' → (∀ {B2 : Nat} {a2 : Option Addr} {n2 c2 : Nat} {l2 : List Int}, Own B2 w1 a2 n2 c2 l2 → Own B2 w' a2 n2 c2 l2) → wpList Try.prog ops Q rest (act.put o.dst (.slice a' (n + 1) c')) w') : wpList Try.prog ops Q (o :: rest) act (w1.alloc (.cells cs e)) :=
  wpList_plain hgd fun _ hK => wp_appRec s x t ho p e B ht hinf he a n c I A N C L hs hold h01 J a1 n1 c1 l1 hnew hb1 hB cs hcs hx hn fun a' c' w' r b kp _ => hK _ _ (h a' c' w' r b kp)

/-- .. as one step of a region that draws its order. -/
theorem step_appRec {w0 w1 : World} {ops : Array Oper} {o : Oper} {act : Act} {KK : Act → World → Prop} {Q : Exit → Act → World → Prop} {E : Prop} (hgd : o.guard = none) (s x : Operand) (t : TypeId)
    (ho : o.op = .call { callee := .builtin .append, args := #[s, x], argTypes := #[t, t] })
    (p e B : Nat) (ht : Try.prog.underlying t = some (.slice e)) (hinf : ∃ i z, Try.prog.info? e = some i ∧ i.zero = some z ∧ i.size = p + 1 ∧ z.cells.size = p + 1 ∧ i.bytes ≤ 64) (he : e ≠ 5)
    (a : Option Addr) (n c : Nat) (I : Nat → Nat → Int) (A : Nat → Option Addr) (N C : Nat → Nat) (L : Nat → List Int) (hs : act.eval s = .slice a n c) (hold : ORecs p e B w0 a n c I A N C L)
    (h01 : Below w0.heap.size w0 w1) (J : Nat → Int) (a1 : Option Addr) (n1 c1 : Nat) (l1 : List Int) (hnew : Own w0.heap.size w1 a1 n1 c1 l1) (hb1 : IsB l1) (hB : B ≤ w0.heap.size)
    (cs : Array Value) (hcs : cs.toList = recCells p J (.slice a1 n1 c1)) (hx : act.eval x = .slice (some ⟨w1.heap.size, 0, none⟩) 1 1) (hn : n ≤ 1048576)
    (h : ∀ a' c' w', ORecs p e B w' a' (n + 1) c' (upd I n J) (upd A n a1) (upd N n n1) (upd C n c1) (upd L n l1) → Below B w1 w' → (∀ {B2 : Nat} {a2 : Option Addr} {n2 c2 : Nat} {l2 : List Int}, Own B2 w1 a2 n2 c2 l2 → Own B2 w' a2 n2 c2 l2) → (w1.alloc (.cells cs e)).grownBy w' (Value.slice a n c).ownBlock → KK (act.put o.dst (.slice a' (n + 1) c')) w') :
    if Region.wanted o (yielded ops act.tmps) = true then Oper.wp Try.prog o act (w1.alloc (.cells cs e)) KK Q else E := by
  have hw : Region.wanted o (yielded ops act.tmps) = true := by simp [Region.wanted, hgd]
  rw [if_pos hw]
  exact wp_appRec s x t ho p e B ht hinf he a n c I A N C L hs hold h01 J a1 n1 c1 l1 hnew hb1 hB cs hcs hx hn h

theorem orecs_nil (p e B : Nat) (w : World) (I : Nat → Nat → Int) (A : Nat → Option Addr) (N C : Nat → Nat) (L : Nat → List Int) : ORecs p e B w none 0 0 I A N C L :=
  ⟨World.ownsRow_nil _ _ _ _, fun i hi => absurd hi (by omega), fun i hi => absurd hi (by omega), fun i j _ hj => absurd hj (by omega)⟩
theorem orecs_lit0 (p e B : Nat) (w : World) (hB : B ≤ w.heap.size) (I : Nat → Nat → Int) (A : Nat → Option Addr) (N C : Nat → Nat) (L : Nat → List Int) : ORecs p e B (w.alloc (.cells #[] e)) (some ⟨w.heap.size, 0, none⟩) 0 0 I A N C L :=
  ⟨World.ownsRow_lit w #[] 0 hB (Nat.zero_le _) (by simp), fun i hi => absurd hi (by omega), fun i hi => absurd hi (by omega), fun i j _ hj => absurd hj (by omega)⟩

end Go.Proofs.Ytamifpbhmecloaa

