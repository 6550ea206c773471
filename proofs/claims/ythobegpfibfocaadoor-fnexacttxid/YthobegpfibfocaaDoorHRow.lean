/- Rows of hashes. -/
import Derived.Test.YthobegpfibfocaaDoorHasher
namespace Go.Proofs.YthobegpfibfocaaDoor
open Go.RowKit
set_option linter.unusedVariables false

theorem infoH : (Tryd.prog.info? 24).map (fun i => (i.zero, i.size, i.bytes)) = some (some (.agg (ob (List.replicate 32 0)).toArray), 32, 32) := by kernel_rfl

/-- The cells of a list of hashes. -/
def hrow (h : Nat → List Int) : Nat → List Value
  | 0 => []
  | k + 1 => hrow h k ++ ob (h k)
/-- Each of the first n is 32 bytes. -/
structure IsHs (h : Nat → List Int) (n : Nat) : Prop where
  len : ∀ i, i < n → (h i).length = 32
  byte : ∀ i, i < n → IsB (h i)
theorem IsHs.mono {h : Nat → List Int} {n k : Nat} (H : IsHs h n) (hk : k ≤ n) : IsHs h k := ⟨fun i hi => H.len i (by omega), fun i hi => H.byte i (by omega)⟩
theorem hrow_len (h : Nat → List Int) : ∀ n, IsHs h n → (hrow h n).length = n * 32
  | 0, _ => by simp [hrow]
  | n + 1, H => by
    rw [hrow, List.length_append, hrow_len h n (H.mono (by omega)), ob_length, H.len n (by omega)]
    omega
theorem hrow_get (h : Nat → List Int) : ∀ n, IsHs h n → ∀ i q, i < n → q < 32 → (hrow h n)[i * 32 + q]? = some (.int .u8 ((h i).getD q 0))
  | 0, _, i, _, hi, _ => by omega
  | n + 1, H, i, q, hi, hq => by
    rw [hrow]
    have hl := hrow_len h n (H.mono (by omega))
    by_cases e : i = n
    · subst e
      rw [List.getElem?_append_right (by omega), hl, show i * 32 + q - i * 32 = q by omega]
      exact ob_getElem? _ q (by rw [H.len i (by omega)]; exact hq)
    · rw [List.getElem?_append_left (by omega)]
      exact hrow_get h n (H.mono (by omega)) i q (by omega) hq
theorem hrow_congr {h h' : Nat → List Int} : ∀ n, (∀ i, i < n → h i = h' i) → hrow h n = hrow h' n
  | 0, _ => rfl
  | n + 1, H => by rw [hrow, hrow, hrow_congr n (fun i hi => H i (by omega)), H n (by omega)]
theorem hrow_oneCell (h : Nat → List Int) : ∀ n, ∀ u ∈ hrow h n, u.oneCell' = true
  | 0, u, hu => by simp [hrow] at hu
  | n + 1, u, hu => by
    rw [hrow, List.mem_append] at hu
    rcases hu with hu | hu
    · exact hrow_oneCell h n u hu
    · exact ob_oneCell _ u hu

/-- The slice reads as these hashes. -/
structure RHs (w : World) (a : Option Addr) (n c : Nat) (h : Nat → List Int) : Prop where
  ok : IsHs h n
  le : n ≤ c
  le' : c ≤ maxLen
  nil : a = none → c = 0
  at_ : 0 < n → ∃ b off, a = some ⟨b, off, none⟩ ∧ b < w.heap.size ∧ ∀ i q, i < n → q < 32 → w.cell? ⟨b, off + i * 32 + q, none⟩ = some (.int .u8 ((h i).getD q 0))
theorem RHs.below {w w' : World} {a : Option Addr} {n c : Nat} {h : Nat → List Int} (H : RHs w a n c h) (hb : Below w.heap.size w w') : RHs w' a n c h :=
  ⟨H.ok, H.le, H.le', H.nil, fun hp => by
    obtain ⟨b, off, e, hl, hc⟩ := H.at_ hp
    exact ⟨b, off, e, Nat.lt_of_lt_of_le hl hb.size, fun i q hi hq => by rw [hb.cell (p := ⟨b, off + i * 32 + q, none⟩) hl]; exact hc i q hi hq⟩⟩
/-- One of them, as a value out of the row. -/
theorem RHs.cells {w : World} {n c b off : Nat} {h : Nat → List Int} (H : RHs w (some ⟨b, off, none⟩) n c h) (i : Nat) (hi : i < n) : ∀ j v, (ob (h i))[j]? = some v → w.cell? ⟨b, off + i * 32 + j, none⟩ = some v := fun j v hv => by
  have hj : j < 32 := by have := (List.getElem?_eq_some_iff.1 hv).1; rw [ob_length, H.ok.len i hi] at this; exact this
  obtain ⟨b', off', e, _, hc⟩ := H.at_ (by omega)
  cases e
  rw [hc i j hi hj, ← hv]
  exact (ob_getElem? _ j (by rw [H.ok.len i hi]; exact hj)).symm
theorem RHs.load {w : World} {n c b off : Nat} {h : Nat → List Int} (H : RHs w (some ⟨b, off, none⟩) n c h) (i : Nat) (hi : i < n) : (Instr.loadAt 24 (.pointer (some ⟨b, off + i * 32, none⟩))).run Tryd.prog w = .ok (.agg (ob (h i)).toArray) w := by
  have s : (Tryd.prog.info? 24).map (·.size) = some (ob (h i)).length := by rw [ob_length, H.ok.len i hi]; exact sizeH
  simp only [Instr.loadAt, Instr.sureAddr, Sem.run_bind, Sem.run_pure, Result.andThen]
  exact run_loadVar_at w b (off + i * 32) 24 (ob (h i)) _ (H.cells i hi) Tryd.underlying24 rfl s

/-- The slice is a row of hashes of the call's own. -/
def OHs (B : Nat) (w : World) (a : Option Addr) (n c : Nat) (h : Nat → List Int) : Prop := w.ownsRow B 24 32 (.slice a n c) n (hrow h n)
theorem OHs.reads {B : Nat} {w : World} {a : Option Addr} {n c : Nat} {h : Nat → List Int} (H : OHs B w a n c h) (ok : IsHs h n) : RHs w a n c h := by
  rcases H.2 with ⟨e1, h0⟩ | ⟨g, cap, cur, e1, hg, hh, h1, h2, h3, h4⟩
  · cases e1
    exact ⟨ok, by omega, Nat.zero_le _, fun _ => rfl, fun hp => absurd hp (by omega)⟩
  · cases e1
    refine ⟨ok, h1, h2, fun e => (by cases e), fun hp => ⟨g, 0, rfl, (Array.getElem?_eq_some_iff.1 hh).1, fun i q hi hq => ?_⟩⟩
    have hm : (i + 1) * 32 ≤ n * 32 := Nat.mul_le_mul_right _ (by omega)
    rw [show 0 + i * 32 + q = i * 32 + q by omega, World.ownsRow.cellAt H (i * 32 + q) (by omega)]
    exact hrow_get h n ok i q hi hq
theorem OHs.below {B : Nat} {w w' : World} {a : Option Addr} {n c : Nat} {h : Nat → List Int} (H : OHs B w a n c h) (hb : Below w.heap.size w w') : OHs B w' a n c h := own_below H hb
theorem OHs.mono {B B' : Nat} {w : World} {a : Option Addr} {n c : Nat} {h : Nat → List Int} (H : OHs B w a n c h) (hB : B' ≤ B) : OHs B' w a n c h := World.ownsRow.mono H hB
theorem ohs_nil (B : Nat) (w : World) (h : Nat → List Int) : OHs B w none 0 0 h := World.ownsRow_nil w B _ _
def updH (h : Nat → List Int) (n : Nat) (x : List Int) : Nat → List Int := fun i => if i = n then x else h i
theorem updH_same (h : Nat → List Int) (n : Nat) (x : List Int) : updH h n x n = x := by simp [updH]
theorem updH_lt (h : Nat → List Int) {n i : Nat} (x : List Int) (hi : i < n) : updH h n x i = h i := by simp [updH, Nat.ne_of_lt hi]
theorem hrow_updH (h : Nat → List Int) (n : Nat) (x : List Int) : hrow (updH h n x) (n + 1) = hrow h n ++ ob x := by
  rw [hrow, updH_same, hrow_congr n (fun i hi => updH_lt h x hi)]
theorem IsHs.upd {h : Nat → List Int} {n : Nat} {x : List Int} (H : IsHs h n) (hl : x.length = 32) (hB : IsB x) : IsHs (updH h n x) (n + 1) :=
  ⟨fun i hi => by
    by_cases e : i = n
    · subst e; rw [updH_same]; exact hl
    · rw [updH_lt h x (by omega)]; exact H.len i (by omega),
   fun i hi => by
    by_cases e : i = n
    · subst e; rw [updH_same]; exact hB
    · rw [updH_lt h x (by omega)]; exact H.byte i (by omega)⟩

/-- 'append(s, x)', s a row of hashes of the call's own. -/
theorem wp_appH {w1 : World} {o : Oper} {act : Act} {KK : Act → World → Prop} {Q : Exit → Act → World → Prop} (s x : Operand)
    (ho : o.op = .call { callee := .builtin .append, args := #[s, x], argTypes := #[33, 33] })
    (B : Nat) (a : Option Addr) (n c : Nat) (h : Nat → List Int) (hs : act.eval s = .slice a n c) (hown : OHs B w1 a n c h) (z : List Int) (hz : z.length = 32)
    (hx : act.eval x = .slice (some ⟨w1.heap.size, 0, none⟩) 1 1) (hn : n ≤ 1048576) (hB : B ≤ w1.heap.size)
    (hh : ∀ a' c' w', OHs B w' a' (n + 1) c' (updH h n z) → Below B w1 w' → (w1.alloc (.cells (ob z).toArray 24)).grownBy w' (Value.slice a n c).ownBlock → KK (act.put o.dst (.slice a' (n + 1) c')) w') :
    o.wp Tryd.prog act (w1.alloc (.cells (ob z).toArray 24)) KK Q := by
  obtain ⟨i, hi, hz0, hz1, hz2⟩ := info_parts infoH
  have q0 : Below w1.heap.size w1 (w1.alloc (.cells (ob z).toArray 24)) := (Below.refl _ _).alloc (Nat.le_refl _) _
  refine wp_append_own _ s x _ ho B 24 i _ 32 32 Tryd.underlying33 hi hz0 hz1 hz2 rfl (by omega) _ n (hrow h n) hs (own_below hown q0) ⟨w1.heap.size, 0, none⟩ 1 1 (ob z) hx (by rw [ob_length, hz]) ?_ (ob_oneCell _) (by unfold maxLen; omega) (by omega) (by simp; omega) ?_
  · intro j u hj
    rw [Addr.add_lit, Nat.zero_add]
    have : (w1.alloc (.cells (ob z).toArray 24)).cell? ⟨w1.heap.size, j, none⟩ = (ob z).toArray[j]? := cell_of_row _ w1.heap.size j _ 24 (0, 0) (heap_alloc_new w1 _)
    rw [this, ← hj]
    simp
  · intro v' w' ho' hg' _
    rw [← hrow_updH] at ho'
    have hv : ∃ a' c', v' = .slice a' (n + 1) c' := by
      rcases ho'.2 with ⟨rfl, h0⟩ | ⟨g, cap, cur, rfl, _⟩
      · omega
      · exact ⟨_, _, rfl⟩
    obtain ⟨a', c', rfl⟩ := hv
    exact hh a' c' w' ho' ((q0.mono hB).trans ((Below.refl _ _).grown hg' (by simp; omega) (fun k hk => (World.ownsRow.lt (own_below hown q0) k hk).1))) hg'
end Go.Proofs.YthobegpfibfocaaDoor
