import Derived.Test.YtamifpbhmecloaaFD6
import Derived.Test.YtamifpbhmecloaaFD9
import Derived.Test.YtamifpbhmecloaaFD0
/- Rows of records whose bytes may be shared: what the draws make. -/
namespace Go.Proofs.Ytamifpbhmecloaa
open Go.RowKit
set_option linter.unusedVariables false

/-- The row is the call's own, and so are its records' bytes; two of these may be one. -/
structure WRecs (p e : Nat) (B : Nat) (w : World) (a : Option Addr) (n c : Nat) (I : Nat → Nat → Int) (A : Nat → Option Addr) (N C : Nat → Nat) (L : Nat → List Int) : Prop where
  row : w.ownsRow B e (p + 1) (.slice a n c) n (flat p I (fun i => .slice (A i) (N i) (C i)) n)
  data : ∀ i, i < n → Own B w (A i) (N i) (C i) (L i)
  byte : ∀ i, i < n → IsB (L i)
theorem ORecs.weak {p e B : Nat} {w : World} {a : Option Addr} {n c : Nat} {I : Nat → Nat → Int} {A : Nat → Option Addr} {N C : Nat → Nat} {L : Nat → List Int} (h : ORecs p e B w a n c I A N C L) : WRecs p e B w a n c I A N C L := ⟨h.row, h.data, h.byte⟩
theorem WRecs.below {p e B : Nat} {w w' : World} {a : Option Addr} {n c : Nat} {I : Nat → Nat → Int} {A : Nat → Option Addr} {N C : Nat → Nat} {L : Nat → List Int} (h : WRecs p e B w a n c I A N C L) (hb : Below w.heap.size w w') : WRecs p e B w' a n c I A N C L :=
  ⟨own_below h.row hb, fun i hi => (h.data i hi).below hb, h.byte⟩
theorem WRecs.mono {p e B B' : Nat} {w : World} {a : Option Addr} {n c : Nat} {I : Nat → Nat → Int} {A : Nat → Option Addr} {N C : Nat → Nat} {L : Nat → List Int} (h : WRecs p e B w a n c I A N C L) (hB : B' ≤ B) : WRecs p e B' w a n c I A N C L :=
  ⟨World.ownsRow.mono h.row hB, fun i hi => (h.data i hi).mono hB, h.byte⟩
theorem WRecs.reads {p e B : Nat} {w : World} {a : Option Addr} {n c : Nat} {I : Nat → Nat → Int} {A : Nat → Option Addr} {N C : Nat → Nat} {L : Nat → List Int} (h : WRecs p e B w a n c I A N C L) : RRecs p w a n c I A N C L := by
  have hd := fun i hi => (h.data i hi).bs (h.byte i hi)
  rcases h.row.2 with ⟨e1, h0⟩ | ⟨g, cap, cur, e1, hg, hh, h1, h2, h3, h4⟩
  · cases e1
    exact ⟨by omega, Nat.zero_le _, fun _ => rfl, fun hp => absurd hp (by omega), hd⟩
  · cases e1
    have hget : ∀ q i, i < n → q < p + 1 → w.cell? ⟨g, 0 + i * (p + 1) + q, none⟩ = (recCells p (I i) (.slice (A i) (N i) (C i)))[q]? := fun q i hi hq => by
      have hm : (i + 1) * (p + 1) ≤ n * (p + 1) := Nat.mul_le_mul_right _ (by omega)
      rw [Nat.add_mul, Nat.one_mul] at hm
      rw [Nat.zero_add, World.ownsRow.cellAt h.row (i * (p + 1) + q) (by omega)]
      exact flat_get p I (fun i => .slice (A i) (N i) (C i)) q hq n i hi
    refine ⟨h1, h2, fun e => (by cases e), fun hp => ⟨g, 0, rfl, (Array.getElem?_eq_some_iff.1 hh).1, fun i hi => ⟨fun q hq => ?_, ?_⟩⟩, hd⟩
    · rw [hget q i hi (by omega), recCells_int _ _ _ _ hq]
    · rw [hget p i hi (by omega), recCells_last]
/-- Rows stay where one block alone has turned, and it is none of theirs. -/
theorem ownsRow_only {g B e size : Nat} {w w' : World} {v : Value} {n : Nat} {xs : List Value} (h : OnlyB g w w') (ho : w.ownsRow B e size v n xs) (hn : v.ownBlock ≠ some g) : w'.ownsRow B e size v n xs := by
  refine ⟨ho.1, ?_⟩
  rcases ho.2 with h2 | ⟨k, cap, cur, hv, hg, hh, r⟩
  · exact Or.inl h2
  · exact Or.inr ⟨k, cap, cur, hv, hg, by rw [h.block k (Array.getElem?_eq_some_iff.1 hh).1 (fun e => hn (by rw [hv, e]; rfl))]; exact hh, r⟩
theorem WRecs.only {g p e B : Nat} {w w' : World} {a : Option Addr} {n c : Nat} {I : Nat → Nat → Int} {A : Nat → Option Addr} {N C : Nat → Nat} {L : Nat → List Int} (h : WRecs p e B w a n c I A N C L) (ho : OnlyB g w w') (hg : g < B) : WRecs p e B w' a n c I A N C L :=
  ⟨ownsRow_only ho h.row (fun e1 => by have := (World.ownsRow.lt h.row g e1).1; omega), fun i hi => ho.own (h.data i hi) (fun e1 => by have := (World.ownsRow.lt (h.data i hi) g e1).1; omega), h.byte⟩
/-- .. and where another row has grown, of another type. -/
theorem WRecs.kept {p e B : Nat} {w w' : World} {a : Option Addr} {n c : Nat} {I : Nat → Nat → Int} {A : Nat → Option Addr} {N C : Nat → Nat} {L : Nat → List Int} (h : WRecs p e B w a n c I A N C L) {v : Value} {B2 e2 s2 n2 : Nat} {xs2 : List Value} (h2 : w.ownsRow B2 e2 s2 v n2 xs2) (he : e ≠ e2) (he2 : e2 ≠ 5) (g : w.grownBy w' v.ownBlock) : WRecs p e B w' a n c I A N C L := by
  refine ⟨World.ownsRow.kept h.row g ?_, fun i hi => World.ownsRow.kept (h.data i hi) g ?_, h.byte⟩
  · cases hk : (Value.slice a n c).ownBlock with
    | none => exact Or.inl rfl
    | some k => exact Or.inr fun e1 => types_ne h.row h2 he k hk e1.symm
  · cases hk : (Value.slice (A i) (N i) (C i)).ownBlock with
    | none => exact Or.inl rfl
    | some k => exact Or.inr fun e1 => types_ne (h.data i hi) h2 (Ne.symm he2) k hk e1.symm

/-- 'append(s, Rec{.., data})', the data a row of the call's own, new or not. -/
theorem wp_appW {w1 : World} {o : Oper} {act : Act} {KK : Act → World → Prop} {Q : Exit → Act → World → Prop} (s x : Operand) (t : TypeId)
    (ho : o.op = .call { callee := .builtin .append, args := #[s, x], argTypes := #[t, t] })
    (p e B : Nat) (ht : Try.prog.underlying t = some (.slice e)) (hinf : ∃ i z, Try.prog.info? e = some i ∧ i.zero = some z ∧ i.size = p + 1 ∧ z.cells.size = p + 1 ∧ i.bytes ≤ 64) (he : e ≠ 5)
    (a : Option Addr) (n c : Nat) (I : Nat → Nat → Int) (A : Nat → Option Addr) (N C : Nat → Nat) (L : Nat → List Int) (hs : act.eval s = .slice a n c) (hold : WRecs p e B w1 a n c I A N C L)
    (J : Nat → Int) (a1 : Option Addr) (n1 c1 : Nat) (l1 : List Int) (hnew : Own B w1 a1 n1 c1 l1) (hb1 : IsB l1) (hB : B ≤ w1.heap.size)
    (cs : Array Value) (hcs : cs.toList = recCells p J (.slice a1 n1 c1)) (hx : act.eval x = .slice (some ⟨w1.heap.size, 0, none⟩) 1 1) (hn : n ≤ 1048576)
    (h : ∀ a' c' w', WRecs p e B w' a' (n + 1) c' (upd I n J) (upd A n a1) (upd N n n1) (upd C n c1) (upd L n l1) → Below B w1 w' → (w1.alloc (.cells cs e)).grownBy w' (Value.slice a n c).ownBlock → KK (act.put o.dst (.slice a' (n + 1) c')) w') : o.wp Try.prog act (w1.alloc (.cells cs e)) KK Q := by
  obtain ⟨i, z, hi, hz0, hz1, hz2, hz3⟩ := hinf
  have q0 : Below w1.heap.size w1 (w1.alloc (.cells cs e)) := (Below.refl _ _).alloc (Nat.le_refl _) _
  refine wp_append_own _ s x t ho B e i z (p + 1) i.bytes ht hi hz0 hz1 rfl hz2 (by omega) _ n _ hs (own_below hold.row q0) ⟨w1.heap.size, 0, none⟩ 1 1 (recCells p J (.slice a1 n1 c1)) hx (by rw [recCells_len, Nat.one_mul]) ?_ (recCells_oneCell _ _ _ _ _) (by unfold maxLen; omega) ?_ (by simp; omega) ?_
  · intro j u hj
    rw [Addr.add_lit, Nat.zero_add]
    rw [← hcs] at hj
    have : (w1.alloc (.cells cs e)).cell? ⟨w1.heap.size, j, none⟩ = cs[j]? := cell_of_row _ w1.heap.size j cs e (0, 0) (heap_alloc_new w1 _)
    rw [this, ← hj]
    simp
  · have : (n + 1) * i.bytes ≤ (n + 1) * 64 := Nat.mul_le_mul_left _ hz3
    omega
  · intro v' w' ho' hg' _
    have hv : ∃ a' c', v' = .slice a' (n + 1) c' := by
      rcases ho'.2 with ⟨rfl, h0⟩ | ⟨g, cap, cur, rfl, _⟩
      · omega
      · exact ⟨_, _, rfl⟩
    obtain ⟨a', c', rfl⟩ := hv
    have keep : ∀ {B2 : Nat} {a2 : Option Addr} {n2 c2 : Nat} {l2 : List Int}, Own B2 (w1.alloc (.cells cs e)) a2 n2 c2 l2 → Own B2 w' a2 n2 c2 l2 := fun {B2 a2 n2 c2 l2} h2 => by
      refine World.ownsRow.kept h2 hg' ?_
      cases hk : (Value.slice a2 n2 c2).ownBlock with
      | none => exact Or.inl rfl
      | some k => exact Or.inr fun e1 => types_ne h2 (own_below hold.row q0) (Ne.symm he) k hk e1.symm
    refine h a' c' w' ⟨?_, fun i hi => ?_, fun i hi => ?_⟩ ((q0.mono hB).trans ((Below.refl _ _).grown hg' (by simp; omega) (fun k hk => (World.ownsRow.lt (own_below hold.row q0) k hk).1))) hg'
    · have e1 : flat p (upd I n J) (fun i => .slice (upd A n a1 i) (upd N n n1 i) (upd C n c1 i)) (n + 1) = flat p I (fun i => .slice (A i) (N i) (C i)) n ++ recCells p J (.slice a1 n1 c1) := by
        rw [flat, upd_same, upd_same, upd_same, upd_same]
        rw [flat_congr p n (I' := I) (V' := fun i => .slice (A i) (N i) (C i)) (fun i hi => ⟨fun q _ => by rw [upd_lt _ _ _ hi], by rw [upd_lt _ _ _ hi, upd_lt _ _ _ hi, upd_lt _ _ _ hi]⟩)]
      rw [e1]
      exact ho'
    · by_cases e2 : i = n
      · subst e2; rw [upd_same, upd_same, upd_same, upd_same]; exact keep (hnew.below q0)
      · have hi' : i < n := by omega
        rw [upd_lt _ _ _ hi', upd_lt _ _ _ hi', upd_lt _ _ _ hi', upd_lt _ _ _ hi']
        exact keep ((hold.data i hi').below q0)
    · by_cases e2 : i = n
      · subst e2; rw [upd_same]; exact hb1
      · rw [upd_ne _ _ _ e2]; exact hold.byte i (by omega)
theorem step_appW {w1 : World} {ops : Array Oper} {o : Oper} {act : Act} {KK : Act → World → Prop} {Q : Exit → Act → World → Prop} {E : Prop} (hgd : o.guard = none) (s x : Operand) (t : TypeId)
    (ho : o.op = .call { callee := .builtin .append, args := #[s, x], argTypes := #[t, t] })
    (p e B : Nat) (ht : Try.prog.underlying t = some (.slice e)) (hinf : ∃ i z, Try.prog.info? e = some i ∧ i.zero = some z ∧ i.size = p + 1 ∧ z.cells.size = p + 1 ∧ i.bytes ≤ 64) (he : e ≠ 5)
    (a : Option Addr) (n c : Nat) (I : Nat → Nat → Int) (A : Nat → Option Addr) (N C : Nat → Nat) (L : Nat → List Int) (hs : act.eval s = .slice a n c) (hold : WRecs p e B w1 a n c I A N C L)
    (J : Nat → Int) (a1 : Option Addr) (n1 c1 : Nat) (l1 : List Int) (hnew : Own B w1 a1 n1 c1 l1) (hb1 : IsB l1) (hB : B ≤ w1.heap.size)
    (cs : Array Value) (hcs : cs.toList = recCells p J (.slice a1 n1 c1)) (hx : act.eval x = .slice (some ⟨w1.heap.size, 0, none⟩) 1 1) (hn : n ≤ 1048576)
    (h : ∀ a' c' w', WRecs p e B w' a' (n + 1) c' (upd I n J) (upd A n a1) (upd N n n1) (upd C n c1) (upd L n l1) → Below B w1 w' → (w1.alloc (.cells cs e)).grownBy w' (Value.slice a n c).ownBlock → KK (act.put o.dst (.slice a' (n + 1) c')) w') :
    if Region.wanted o (yielded ops act.tmps) = true then Oper.wp Try.prog o act (w1.alloc (.cells cs e)) KK Q else E := by
  have hw : Region.wanted o (yielded ops act.tmps) = true := by simp [Region.wanted, hgd]
  rw [if_pos hw]
  exact wp_appW s x t ho p e B ht hinf he a n c I A N C L hs hold J a1 n1 c1 l1 hnew hb1 hB cs hcs hx hn h

/-- A row of bytes is stored into one of the records. -/
theorem WRecs.put {p e B g : Nat} {w : World} {n c : Nat} {I : Nat → Nat → Int} {A : Nat → Option Addr} {N C : Nat → Nat} {L : Nat → List Int} (h' : WRecs p e B w (some ⟨g, 0, none⟩) n c I A N C L) (he : e ≠ 5) (j : Nat) (hj : j < n) (a1 : Option Addr) (n1 c1 : Nat) (l1 : List Int) (ho : Own B w a1 n1 c1 l1) (hl : IsB l1) :
    WRecs p e B (w.setCell ⟨g, j * (p + 1) + p, none⟩ (.slice a1 n1 c1)) (some ⟨g, 0, none⟩) n c I (upd A j a1) (upd N j n1) (upd C j c1) (upd L j l1) ∧ w.grownBy (w.setCell ⟨g, j * (p + 1) + p, none⟩ (.slice a1 n1 c1)) (some g) := by
  have hs := World.ownsRow.stored h'.row (j * (p + 1) + p) (.slice a1 n1 c1)
  rw [flat_setLast p I _ _ j n hj] at hs
  have eV : upd (fun i => Value.slice (A i) (N i) (C i)) j (.slice a1 n1 c1) = fun i => .slice (upd A j a1 i) (upd N j n1 i) (upd C j c1 i) := by
    funext i
    by_cases e1 : i = j
    · subst e1; simp [upd]
    · simp [upd, e1]
  rw [eV] at hs
  have keep : ∀ {B2 : Nat} {a2 : Option Addr} {n2 c2 : Nat} {l2 : List Int}, Own B2 w a2 n2 c2 l2 → Own B2 (w.setCell ⟨g, j * (p + 1) + p, none⟩ (.slice a1 n1 c1)) a2 n2 c2 l2 := fun {B2 a2 n2 c2 l2} h2 => by
    refine World.ownsRow.kept h2 hs.2 ?_
    cases hk : (Value.slice a2 n2 c2).ownBlock with
    | none => exact Or.inl rfl
    | some k => exact Or.inr fun e1 => types_ne h2 h'.row (Ne.symm he) k hk (by rw [e1]; rfl)
  refine ⟨⟨hs.1, fun i hi => ?_, fun i hi => ?_⟩, hs.2⟩
  · by_cases e1 : i = j
    · subst e1; rw [upd_same, upd_same, upd_same, upd_same]; exact keep ho
    · rw [upd_ne _ _ _ e1, upd_ne _ _ _ e1, upd_ne _ _ _ e1, upd_ne _ _ _ e1]; exact keep (h'.data i hi)
  · by_cases e1 : i = j
    · subst e1; rw [upd_same]; exact hl
    · rw [upd_ne _ _ _ e1]; exact h'.byte i hi
end Go.Proofs.Ytamifpbhmecloaa

/- 'make([]byte, 64)'. -/
namespace Go.Proofs.Ytamifpbhmecloaa
open Go.RowKit

theorem run_made (k : Nat) (z : Int) (hz : z = (k : Int)) (hk : k ≤ 1048576) (w : World) :
    (Instr.makeSlice 22 (.int .i64 z) (.int .i64 z)).run Try.prog w = .ok (.slice (some ⟨w.heap.size, 0, none⟩) k k) (w.alloc (.cells (madeCells #[.int .u8 0] k) 5)) := by
  obtain ⟨i, hi, hz0, hz1, hz2⟩ := info_parts info5
  subst hz
  have hr := run_make (P := Try.prog) w 22 5 i _ Try.underlying22 hi hz0 .i64 .i64 k k (by omega) (Int.le_refl _) (by rw [hz2]; omega) (by omega)
  rw [hr, hz1]
  simp [Value.cells]

def zero64 : Array Value := madeCells #[.int .u8 0] 64
def zeros64 : List Int := List.replicate 64 0
theorem run_made64 (w : World) : (Instr.makeSlice 22 (.int .i64 64) (.int .i64 64)).run Try.prog w = .ok (.slice (some ⟨w.heap.size, 0, none⟩) 64 64) (w.alloc (.cells zero64 5)) := run_made 64 64 rfl (by omega) w
theorem own_made64 (B : Nat) (w : World) (hB : B ≤ w.heap.size) : Own B (w.alloc (.cells zero64 5)) (some ⟨w.heap.size, 0, none⟩) 64 64 zeros64 := by
  have e : zero64 = (ob zeros64).toArray := by
    apply Array.toList_inj.1
    unfold zero64 zeros64
    rw [toList_madeCells_one]
    simp [ob]
  rw [e]
  exact own_lit w zeros64 64 (by simp [zeros64]) (by omega) B hB
theorem zeros64_isB : IsB zeros64 := isB_rep 64
theorem zeros64_len : zeros64.length = 64 := by simp [zeros64]

theorem infoB : (Try.prog.info? 22).map (fun i => (i.zero, i.size, i.bytes)) = some (some (.slice none 0 0), 1, 24) := by kernel_rfl
theorem infB : ∃ i z, Try.prog.info? 22 = some i ∧ i.zero = some z ∧ i.size = 0 + 1 ∧ z.cells.size = 0 + 1 ∧ i.bytes ≤ 64 := by
  obtain ⟨i, hi, hz0, hz1, hz2⟩ := info_parts infoB
  exact ⟨i, _, hi, hz0, hz1, rfl, by omega⟩
theorem made_repB (n : Nat) : (madeCells #[Value.slice none 0 0] n).toList = List.replicate n (Value.slice none 0 0) := toList_madeCells_one _ _
end Go.Proofs.Ytamifpbhmecloaa

