import Derived.Test.YtnohmedccbogkaaGreatDoorCo19
import Derived.Lib.AppendZeros
import Derived.Test.YtnohmedccbogkaaGreatDoorCo8
import Derived.Test.YtnohmedccbogkaaGreatDoorCo12
import Derived.Test.YtnohmedccbogkaaGreatDoorCo11
/- The free list: the mathematics. -/
namespace Go.Proofs.YtnohmedccbogkaaGreatDoor
open Go.RowKit
set_option linter.unusedVariables false

/-- 'append(s, x)' in a plain region, and where the new row lies. -/
theorem wpList_app1L {w1 : World} {ops : Array Oper} {rest : List Oper} {o : Oper} {act : Act} {Q : Exit → Act → World → Prop} (hgd : o.guard = none) (so xo : Operand) {t e bytes : Nat} {z : Value} (T : ElT t e 1 z bytes)
    (ho : o.op = .call { callee := .builtin .append, args := #[so, xo], argTypes := #[t, t] })
    (B : Nat) (a : Option Addr) (n c : Nat) (xs : List Value) (hs : act.eval so = .slice a n c) (hown : Own1 e B w1 a n c xs) (x : Value) (hx1 : x.oneCell' = true)
    (hx : act.eval xo = .slice (some ⟨w1.heap.size, 0, none⟩) 1 1) (hn : n ≤ 1048576) (hbt : bytes ≤ 1048576) (hB : B ≤ w1.heap.size)
    (hh : ∀ g c' w', Own1 e B w' (some ⟨g, 0, none⟩) (n + 1) c' (xs ++ [x]) → Below B w1 w' → (w1.alloc (.cells #[x] e)).grownBy w' (Value.slice a n c).ownBlock → (a = some ⟨g, 0, none⟩ ∨ w1.heap.size < g) → wpList Tryz.prog ops Q rest (act.put o.dst (.slice (some ⟨g, 0, none⟩) (n + 1) c')) w') :
    wpList Tryz.prog ops Q (o :: rest) act (w1.alloc (.cells #[x] e)) :=
  wpList_plain hgd fun _ hK => wp_app1L so xo T ho B a n c xs hs hown x hx1 hx hn hbt hB fun g c' w' h1 h2 h3 h4 => hK _ _ (hh g c' w' h1 h2 h3 h4)

/-- Number i of a body. -/
def idAt (l : List Int) (i : Nat) : Int := low ((l.drop (4 * i)).take 4)
/-- Numbers are put behind others, ascending. -/
def frA : List Int → List Int → Option (List Int)
  | [], free => some free
  | x :: xs, free => if free ≠ [] ∧ x ≤ free.getLastD 0 then none else frA xs (free ++ [x])
/-- The numbers of a body behind the first. -/
def idsB (l : List Int) (i : Nat) : List Int := ((List.range (l.length / 4)).drop i).map (idAt l)
theorem idsB_nil {l : List Int} {i : Nat} (h : l.length / 4 ≤ i) : idsB l i = [] := by
  unfold idsB
  rw [List.drop_eq_nil_of_le (by simpa using h)]
  rfl
theorem idsB_cons {l : List Int} {i : Nat} (h : i < l.length / 4) : idsB l i = idAt l i :: idsB l (i + 1) := by
  unfold idsB
  rw [List.drop_eq_getElem_cons (by simpa using h)]
  simp
def flOk (P : Pg) (own : List Int) (id : Int) : Bool := P.ok id && (P.kd id == 4) && !own.contains id && decide (4 ≤ (P.bd id).length) && ((P.bd id).length % 4 == 0)
theorem flOk_iff {P : Pg} {own : List Int} {id : Int} : flOk P own id = true ↔ P.ok id = true ∧ P.kd id = 4 ∧ id ∉ own ∧ 4 ≤ (P.bd id).length ∧ (P.bd id).length % 4 = 0 := by
  simp [flOk, and_assoc]
/-- The free list from a page on, with so much fuel. -/
def flR (P : Pg) : Nat → Int → List Int → List Int → Option (List Int × List Int)
  | 0, id, own, free => if id = 0 then some (free, own) else none
  | f + 1, id, own, free => if id = 0 then some (free, own) else if flOk P own id = true then (frA (idsB (P.bd id) 1) free).bind fun free' => flR P f (idAt (P.bd id) 0) (own ++ [id]) free' else none
theorem flR_zero {P : Pg} (f : Nat) (own free : List Int) : flR P f 0 own free = some (free, own) := by cases f <;> simp [flR]
theorem flR_no {P : Pg} {f : Nat} {id : Int} {own free : List Int} (h0 : id ≠ 0) (h : flOk P own id = false) : flR P (f + 1) id own free = none := by rw [flR, if_neg h0, if_neg (by rw [h]; decide)]
theorem flR_yes {P : Pg} {f : Nat} {id : Int} {own free : List Int} (h0 : id ≠ 0) (h : flOk P own id = true) : flR P (f + 1) id own free = (frA (idsB (P.bd id) 1) free).bind fun free' => flR P f (idAt (P.bd id) 0) (own ++ [id]) free' := by rw [flR, if_neg h0, if_pos h]
noncomputable def flT (K : DK) (id : Int) : Option (List Int × List Int) := match dOkB K with | false => none | true => flR (pgD K) (nPg K + 1) id [] []
end Go.Proofs.YtnohmedccbogkaaGreatDoor

/- Rows of numbers: sorted, one behind the other. -/
namespace Go.Proofs.YtnohmedccbogkaaGreatDoor
open Go.RowKit
set_option linter.unusedVariables false

theorem infoN : (Tryz.prog.info? 3).map (fun i => (i.zero, i.size, i.bytes)) = some (some (.int .i64 0), 1, 8) := by kernel_rfl
theorem on_one (l : List Int) : ∀ u ∈ on l, u.oneCell' = true := ints_oneCell .i64 l
theorem Own1.belowW {e : Nat} {w w' : World} {a : Option Addr} {n c : Nat} {xs : List Value} (h : Own1 e 0 w a n c xs) (hb : Below w.heap.size w w') : Own1 e 0 w' a n c xs := h.below hb
/-- 'append(s, x...)', s a row of numbers of the call's own, x any row of numbers. -/
theorem wpList_appN {w : World} {ops : Array Oper} {rest : List Oper} {o : Oper} {act : Act} {Q : Exit → Act → World → Prop} (hgd : o.guard = none) (s x : Operand)
    (ho : o.op = .call { callee := .builtin .append, args := #[s, x], argTypes := #[119, 119] })
    (B : Nat) (a : Option Addr) (n c : Nat) (xs : List Int) (hs : act.eval s = .slice a n c) (hown : Own1 3 B w a n c (on xs))
    (b : Option Addr) (m d : Nat) (l : List Int) (hx : act.eval x = .slice b m d) (hl : Own1 3 0 w b m d (on l)) (hlen : n + m ≤ 1048576) (hB : B ≤ w.heap.size)
    (h : ∀ a' c' w', Own1 3 B w' a' (n + m) c' (on (xs ++ l)) → Below B w w' → w.grownBy w' (Value.slice a n c).ownBlock → wpList Tryz.prog ops Q rest (act.put o.dst (.slice a' (n + m) c')) w') : wpList Tryz.prog ops Q (o :: rest) act w := by
  obtain ⟨i, hi, hz0, hz1, hz2⟩ := info_parts infoN
  have hll : l.length = m := by have := hl.len; rwa [on_len] at this
  cases b with
  | none =>
    have hm : m = 0 ∧ d = 0 := by
      rcases hl.2 with ⟨e1, h0⟩ | ⟨g, cap, cur, e1, _⟩
      · cases e1; exact ⟨rfl, rfl⟩
      · cases e1
    obtain ⟨rfl, rfl⟩ := hm
    have hl0 : l = [] := List.eq_nil_of_length_eq_zero hll
    subst hl0
    refine wpList_append_own_none hgd s x _ ho B 3 i 1 Tryz.underlying119 hi _ n (on xs) hs hown hx ?_
    exact h a c w (by simpa using hown) (Below.refl _ _) ⟨rfl, rfl, rfl, Nat.le_refl _, fun _ _ _ => rfl⟩
  | some ad =>
    refine wpList_append_own w hgd s x _ ho B 3 i _ 1 8 Tryz.underlying119 hi hz0 hz1 hz2 rfl (by omega) _ n (on xs) hs hown ad m d (on l) hx (by rw [on_len, hll]; omega) ?_ (on_one l) (by unfold maxLen; omega) (by omega) hB ?_
    · intro j u hj
      have hjl : j < l.length := by have := (List.getElem?_eq_some_iff.1 hj).1; rwa [on_len] at this
      obtain ⟨g, e, _, _, _, hc⟩ := hl.at_ (by omega)
      cases e
      rw [Addr.add_lit, Nat.zero_add, hc j (by omega)]
      rw [List.getD, hj]
      rfl
    · intro v' w' ho' hg' _
      rw [on_app] at ho'
      have hv : ∃ a' c', v' = .slice a' (n + m) c' := by
        rcases ho'.2 with ⟨rfl, h0⟩ | ⟨g, cap, cur, rfl, _⟩
        · exact ⟨none, 0, by rw [h0]⟩
        · exact ⟨_, _, rfl⟩
      obtain ⟨a', c', rfl⟩ := hv
      exact h a' c' w' ho' ((Below.refl _ _).grown hg' hB (fun k hk => (World.ownsRow.lt hown k hk).1)) hg'

set_option maxRecDepth 100000 in
set_option maxHeartbeats 400000 in
theorem growN_calls (n : Nat) (w : World) (hn : n ≤ 1048576) :
    Calls Tryz.prog 189 #[.slice none 0 0, .int .i64 n] w fun e w' => ∃ a c, e = .returned (.slice a 0 c) ∧ Below w.heap.size w w' ∧ Own1 3 w.heap.size w' a 0 c [] := by
  by_cases h0 : 0 < n
  · obtain ⟨i, hi, hz0, hz1, hz2⟩ := info_parts infoN
    have hr := fun ty wx => Lib.run_append_nil_zeros (P := Tryz.prog) wx 119 3 ty 3 i _ .i64 .i64 Tryz.underlying119 Tryz.underlying3 hi hz0 n h0 (by omega) (by omega) (by rw [hz2]; omega)
    have hi0 : (0 : Int) < (n : Int) := by omega
    go_enter Tryz.func189, Tryz.ntmps189
    go_wp2_with (at_builtin; refine Lib.wpList_append_run _ rfl _ _ _ _ rfl _ _ rfl rfl _ _ (hr _ _) ?_)
    go_ret
    have hge := grownCap_ge w n 0 3
    have hcm := grownCap_le_maxLen w n 0 3 (by unfold maxLen; omega)
    refine ⟨_, _, rfl, ((Below.refl _ _).alloc (Nat.le_refl _) _).drew, ?_⟩
    refine World.ownsRow_made (size := 1) w _ _ (Nat.le_refl _) hcm ?_
    simp [size_zeroCells]
    omega
  · have e : n = 0 := by omega
    subst e
    go_enter Tryz.func189, Tryz.ntmps189
    go_wp2
    go_ret
    exact ⟨none, 0, rfl, Below.refl _ _, own1_nil _ _ _⟩

/-- One behind the other. -/
def catN (L : Nat → List Int) : Nat → List Int
  | 0 => []
  | k + 1 => catN L k ++ L k
theorem catN_mono (L : Nat → List Int) {j k : Nat} (h : j ≤ k) : (catN L j).length ≤ (catN L k).length := by
  induction k with
  | zero => have : j = 0 := by omega
            subst this; exact Nat.le_refl _
  | succ k ih =>
    by_cases e : j = k + 1
    · subst e; exact Nat.le_refl _
    · have := ih (by omega)
      simp [catN]; omega

set_option maxRecDepth 100000 in
set_option maxHeartbeats 1000000 in
theorem concatN_calls (b off n cap : Nat) (A : Nat → Option Addr) (N C : Nat → Nat) (L : Nat → List Int) (w : World) (hb : b < w.heap.size) (hn : n ≤ 1048576)
    (hc : ∀ i, i < n → w.cell? ⟨b, off + i, none⟩ = some (.slice (A i) (N i) (C i))) (hs : ∀ i, i < n → Own1 3 0 w (A i) (N i) (C i) (on (L i))) (ht : (catN L n).length ≤ 1048576) :
    Calls Tryz.prog 155 #[.slice (some ⟨b, off, none⟩) n cap] w fun e w' => ∃ a c, e = .returned (.slice a (catN L n).length c) ∧ Below w.heap.size w w' ∧ Own1 3 w.heap.size w' a (catN L n).length c (on (catN L n)) := by
  go_enter Tryz.func155, Tryz.ntmps155
  go_wp2
  go_loop [3, 11] (fun x i => ∃ k : Nat, k ≤ n ∧ i = .int .i64 k ∧ x = .int .i64 ((catN L k).length : Nat)) (fun _ i => n - (intOf i).toNat)
  case atStart => exact ⟨0, Nat.zero_le _, rfl, rfl⟩
  case round =>
    obtain ⟨k, hk, rfl, rfl⟩ := hrel
    have hm := catN_mono L hk
    by_cases hlt : k < n
    · have hck := hc k hlt
      have hsk := hs k hlt
      have HL : Hid ((catN L (k + 1)).length = (catN L k).length + N k) := by
        show (catN L k ++ L k).length = _
        rw [List.length_append, (show (L k).length = N k by have := hsk.len; rwa [on_len] at this)]
      have hm1 := catN_mono L (show k + 1 ≤ n from hlt)
      rw [HL.out] at hm1
      generalize (catN L k).length = X at *
      generalize N k = Y at *
      have hneg : ¬ ((X : Int) + (Y : Int) < 0) := by omega
      clear hc hs hsk
      go_wp2
      go_round
      case rel => exact ⟨k + 1, by omega, by go_num, by rw [HL.out]; go_num⟩
      case measure => simp [intOf]; omega
    · have e : k = n := by omega
      subst e
      go_wp2_with fail
      refine (growN_calls (catN L k).length _ ht).mono ?_
      rintro e w1 ⟨a1, c1, rfl, hb1, ho1⟩
      go_wp2_with fail
      go_loopw [6, 27] (fun o i wr => ∃ j a c, j ≤ k ∧ i = .int .i64 (j : Nat) ∧ o = .slice a (catN L j).length c ∧ Below w.heap.size w wr ∧ Own1 3 w.heap.size wr a (catN L j).length c (on (catN L j))) (fun _ i _ => k - (intOf i).toNat)
      case atStart => exact ⟨0, a1, c1, Nat.zero_le _, rfl, rfl, hb1, ho1⟩
      case round =>
        obtain ⟨j, a, c, hj, rfl, rfl, hbj, hoj⟩ := hrel
        by_cases hlt : j < k
        · have hck : wr.cell? ⟨b, off + j, none⟩ = some (.slice (A j) (N j) (C j)) := by rw [hbj.cell (p := ⟨b, off + j, none⟩) hb]; exact hc j hlt
          have hsj := (hs j hlt).belowW hbj
          have hm1 := catN_mono L (show j + 1 ≤ k from hlt)
          have HL : Hid ((catN L (j + 1)).length = (catN L j).length + N j) := by
            show (catN L j ++ L j).length = _
            rw [List.length_append, (show (L j).length = N j by have := hsj.len; rwa [on_len] at this)]
          rw [HL.out] at hm1
          have HC : Hid (catN L (j + 1) = catN L j ++ L j) := rfl
          have hz := hbj.size
          clear hc hs ho1 hb1
          go_wp2_with (at_builtin; refine wpList_appN rfl _ _ rfl w.heap.size a _ c (catN L j) rfl ?own (A j) (N j) (C j) (L j) rfl ?bs ?len ?B ?_)
          case own => exact hoj
          case bs => exact hsj
          case len => omega
          case B => exact hz
          intro a' c' w' ho' hb' _
          have hb2 : Below w.heap.size w w' := hbj.trans hb'
          rw [← HL.out, ← HC.out] at ho'
          rw [← HL.out]
          clear hoj hbj hb' hsj hck
          go_wp2
          go_roundw
          case rel => exact ⟨j + 1, a', c', by omega, by go_num, rfl, hb2, ho'⟩
          case measure => simp [intOf]; omega
        · have e : j = k := by omega
          subst e
          go_wp2
          go_ret
          exact ⟨a, c, rfl, hbj, hoj⟩
end Go.Proofs.YtnohmedccbogkaaGreatDoor

/- slices.Contains at numbers. -/
namespace Go.Proofs.YtnohmedccbogkaaGreatDoor
open Go.RowKit
set_option linter.unusedVariables false

theorem own1_rb {e B : Nat} {w w' : World} {a : Option Addr} {n c : Nat} {xs : List Value} (h : Own1 e B w a n c xs) (hk : ∀ k ∈ rb a, w'.heap[k]? = w.heap[k]?) : Own1 e B w' a n c xs := by
  refine ⟨h.1, ?_⟩
  rcases h.2 with h2 | ⟨g, cap, cur, e1, hB, hh, r⟩
  · exact Or.inl h2
  · cases e1
    exact Or.inr ⟨g, _, cur, rfl, hB, (hk g (by simp [rb])).trans hh, r⟩
theorem own1_rb_lt {e B : Nat} {w : World} {a : Option Addr} {n c : Nat} {xs : List Value} (h : Own1 e B w a n c xs) : ∀ k ∈ rb a, B ≤ k ∧ k < w.heap.size := by
  intro k hk
  rcases h.2 with ⟨e1, _⟩ | ⟨g, cap, cur, e1, hB, hh, r⟩
  · cases e1; simp [rb] at hk
  · cases e1
    simp [rb] at hk
    subst hk
    exact ⟨hB, (Array.getElem?_eq_some_iff.1 hh).1⟩
theorem on_getD (l : List Int) (i : Nat) (hi : i < l.length) : (on l).getD i undef = .int .i64 (l.getD i 0) := by
  simp [on, List.getD, hi]

set_option maxHeartbeats 1000000 in
set_option maxRecDepth 100000 in
theorem indexN_calls (B : Nat) (a : Option Addr) (c : Nat) (l : List Int) (x : Int) (w : World) (h : Own1 3 B w a l.length c (on l)) (hl : l.length ≤ 1048576) :
    Calls Tryz.prog 209 #[.slice a l.length c, .int .i64 x] w fun e w' => ∃ i : Int, e = .returned (.int .i64 i) ∧ (0 ≤ i ↔ x ∈ l) ∧ w' = w := by
  have hc : ∀ i, i < l.length → ∃ g, a = some ⟨g, 0, none⟩ ∧ w.cell? ⟨g, i, none⟩ = some (.int .i64 (l.getD i 0)) := fun i hi => by
    obtain ⟨g, e, _, _, _, hc⟩ := h.at_ (by omega)
    exact ⟨g, e, by rw [hc i hi, on_getD l i hi]⟩
  have HC : Hid _ := hc
  clear hc h
  go_enter Tryz.func209, Tryz.ntmps209
  go_wp2
  go_loop [8] (fun s => ∃ k : Nat, k ≤ l.length ∧ s = .int .i64 (k : Nat) ∧ ∀ j, j < k → l.getD j 0 ≠ x) (fun s => l.length - (intOf s).toNat)
  case atStart => exact ⟨0, Nat.zero_le _, rfl, fun j hj => absurd hj (Nat.not_lt_zero _)⟩
  case round =>
    obtain ⟨k, hk, rfl, hno⟩ := hrel
    have HNO : Hid _ := hno
    clear hno
    by_cases hlt : k < l.length
    · obtain ⟨g, rfl, hck⟩ := HC.out k hlt
      have HMEM : Hid (l.getD k 0 ∈ l) := by show l.getD k 0 ∈ l; rw [List.getD, List.getElem?_eq_getElem hlt]; exact List.getElem_mem _
      generalize hy : l.getD k 0 = y at *
      have HY : Hid _ := hy
      clear hy
      by_cases he : x = y
      · subst he
        go_wp2
        go_ret
        exact ⟨(k : Int), rfl, ⟨fun _ => HMEM.out, fun _ => by omega⟩, rfl⟩
      · have he2 : (x == y) = false := by simp [he]
        go_wp2
        go_round
        case rel =>
          refine ⟨k + 1, by omega, by go_num, fun j hj => ?_⟩
          by_cases hjk : j = k
          · subst hjk
            rw [HY.out]
            exact fun e => he e.symm
          · exact HNO.out j (by omega)
        case measure => simp [intOf]; omega
    · have HALL : Hid (x ∉ l) := fun hm => by
        obtain ⟨j, hj, e⟩ := List.mem_iff_getElem.1 hm
        exact HNO.out j (by omega) (by rw [List.getD, List.getElem?_eq_getElem hj]; exact e)
      go_wp2
      go_ret
      exact ⟨-1, rfl, ⟨fun h => by omega, fun h => absurd h HALL.out⟩, rfl⟩

theorem containsN0_calls (B : Nat) (a : Option Addr) (c : Nat) (l : List Int) (x : Int) (w : World) (h : Own1 3 B w a l.length c (on l)) (hl : l.length ≤ 1048576) :
    Calls Tryz.prog 185 #[.slice a l.length c, .int .i64 x] w fun e w' => (∃ i : Int, e = .returned (.bool (decide (0 ≤ i))) ∧ (0 ≤ i ↔ x ∈ l)) ∧ w' = w := by
  have I := indexN_calls B a c l x w h hl
  clear h
  go_enter Tryz.func185, Tryz.ntmps185
  go_wp2_with fail
  refine I.mono ?_
  rintro e w1 ⟨i, rfl, hi, hw⟩
  obtain rfl := hw.symm
  have HI : Hid _ := hi
  clear I hi hw
  go_wp2
  go_ret
  exact ⟨⟨i, rfl, HI.out⟩, rfl⟩
theorem containsN_calls (B : Nat) (a : Option Addr) (c : Nat) (l : List Int) (x : Int) (w : World) (h : Own1 3 B w a l.length c (on l)) (hl : l.length ≤ 1048576) :
    Calls Tryz.prog 185 #[.slice a l.length c, .int .i64 x] w fun e w' => e = .returned (.bool (l.contains x)) ∧ w' = w := by
  refine (containsN0_calls B a c l x w h hl).mono ?_
  rintro e w1 ⟨⟨i, rfl, hi⟩, rfl⟩
  have hb : l.contains x = decide (0 ≤ i) := by
    rw [Bool.eq_iff_iff, decide_eq_true_eq, hi, List.contains_iff_mem]
  rw [hb]
  exact ⟨rfl, rfl⟩
end Go.Proofs.YtnohmedccbogkaaGreatDoor

/- The nodes of a tree, the kids first: the mathematics. -/
namespace Go.Proofs.YtnohmedccbogkaaGreatDoor
open Go.RowKit
set_option linter.unusedVariables false

/-- The pages of the nodes, the kids first. -/
def pgN : Tr → List Int
  | .leaf id _ => [id]
  | .node id ks => pgN ks ++ [id]
  | .nil => []
  | .cons _ t ks => pgN t ++ pgN ks
theorem pgN_perm : ∀ t : Tr, (pgN t).Perm (pgsT t)
  | .leaf _ _ => List.Perm.refl _
  | .node id ks => by
    rw [pgN, pgsT]
    exact (List.perm_append_comm).trans ((pgN_perm ks).cons id)
  | .nil => List.Perm.refl _
  | .cons _ t ks => by
    rw [pgN, pgsT]
    exact (pgN_perm t).append (pgN_perm ks)
def pgNL (L : List (ByteArray × Tr)) : List Int := L.flatMap (fun x => pgN x.2)
theorem pgN_klist : ∀ ks : Tr, isT ks = false → ∀ b, full ks b → pgN ks = pgNL (klist ks)
  | .leaf _ _, h, _, _ => by simp [isT] at h
  | .node _ _, h, _, _ => by simp [isT] at h
  | .nil, _, _, _ => by simp [pgN, pgNL, klist]
  | .cons s t ks, _, b, hf => by
    rw [full] at hf
    rw [pgN, klist, pgN_klist ks hf.2.2.1 false hf.2.2.2.2]
    simp [pgNL]
theorem pgNL_take (L : List (ByteArray × Tr)) (i : Nat) (hi : i < L.length) : pgNL (L.take (i + 1)) = pgNL (L.take i) ++ pgN (L.getD i t0).2 := by
  unfold pgNL
  rw [List.take_succ_eq_append_getElem hi, List.flatMap_append]
  simp [List.getD, List.getElem?_eq_getElem hi]
/-- A node's value, and its page. -/
def NVal (w : World) (v : Value) (id : Int) : Prop := ∃ b ys, (v = lfI b ∧ Blk w 302 b (.int .i64 id :: ys)) ∨ (v = inI b ∧ Blk w 265 b (.int .i64 id :: ys))
theorem NVal.keep {w w' : World} {v : Value} {id : Int} (h : NVal w v id) (hk : ∀ t, t ≠ 273 → KeepT t w w') : NVal w' v id := by
  obtain ⟨b, ys, ⟨e, h⟩ | ⟨e, h⟩⟩ := h
  · exact ⟨b, ys, Or.inl ⟨e, h.keepT (hk _ (by decide))⟩⟩
  · exact ⟨b, ys, Or.inr ⟨e, h.keepT (hk _ (by decide))⟩⟩
theorem orow_typed {e s B : Nat} {w : World} {a : Option Addr} {n c : Nat} {f : Nat → List Value} (h : ORow e s B w a n c f) : ∀ k ∈ rb a, ∃ cs, w.heap[k]? = some (.cells cs e (0, 0)) := by
  intro k hk
  rcases h.2 with ⟨e1, _⟩ | ⟨g1, cap1, cur1, e1, hB1, hh1, _⟩
  · cases e1; simp [rb] at hk
  · cases e1
    simp [rb] at hk
    subst hk
    exact ⟨_, hh1⟩
theorem IRep.typed {w : World} : ∀ {t : Tr} {F : List Nat} {vs : List (ByteArray × Value)}, IRep w t F vs → ∀ k ∈ F, ∃ cs ty, ty ≠ 273 ∧ w.heap[k]? = some (.cells cs ty (0, 0))
  | .leaf id es, F, vs, h => by
    rw [IRep] at h
    obtain ⟨b, a, c, rfl, _, hb, hr⟩ := h
    intro k hk
    rcases List.mem_cons.1 hk with rfl | hk
    · exact ⟨_, _, by decide, hb⟩
    · obtain ⟨cs, h⟩ := orow_typed hr k hk
      exact ⟨cs, _, by decide, h⟩
  | .node id ks, F, vs, h => by
    rw [IRep] at h
    obtain ⟨b, a, c, us, G, rfl, _, hb, hr, hi⟩ := h
    intro k hk
    rcases List.mem_cons.1 hk with rfl | hk
    · exact ⟨_, _, by decide, hb⟩
    · rcases List.mem_append.1 hk with hk | hk
      · obtain ⟨cs, h⟩ := orow_typed hr k hk
        exact ⟨cs, _, by decide, h⟩
      · exact hi.typed k hk
  | .nil, F, vs, h => by
    rw [IRep] at h
    obtain ⟨rfl, _⟩ := h
    intro k hk
    cases hk
  | .cons s t ks, F, vs, h => by
    rw [IRep] at h
    obtain ⟨v, us, G1, G2, rfl, _, h1, h2⟩ := h
    intro k hk
    rcases List.mem_append.1 hk with hk | hk
    · exact h1.typed k hk
    · exact h2.typed k hk
theorem IRep.keepN {w w' : World} {t : Tr} {F : List Nat} {vs : List (ByteArray × Value)} (h : IRep w t F vs) (hk : ∀ t, t ≠ 273 → KeepT t w w') : IRep w' t F vs :=
  h.keep (fun k hkF => by
    obtain ⟨cs, ty, hne, hh⟩ := h.typed k hkF
    rw [(hk ty hne).block k cs _ hh, hh])
/-- The kids of a node, each with its value. -/
theorem IRep.kid {w : World} : ∀ (ks : Tr), isT ks = false → ∀ b, full ks b → ∀ (G : List Nat) (us : List (ByteArray × Value)), IRep w ks G us → us.length = (klist ks).length ∧ ∀ i, i < us.length → ∃ Gi, IRep w ((klist ks).getD i t0).2 Gi [(strOfNums [], (us.getD i k0).2)]
  | .leaf _ _, h, _, _, _, _, _ => by simp [isT] at h
  | .node _ _, h, _, _, _, _, _ => by simp [isT] at h
  | .nil, _, _, _, G, us, h => by
    rw [IRep] at h
    obtain ⟨_, rfl⟩ := h
    exact ⟨rfl, fun i hi => absurd hi (Nat.not_lt_zero _)⟩
  | .cons s t ks, _, b, hf, G, us, h => by
    rw [full] at hf
    rw [IRep] at h
    obtain ⟨v, vs, G1, G2, _, rfl, h1, h2⟩ := h
    obtain ⟨hl, hk⟩ := IRep.kid ks hf.2.2.1 false hf.2.2.2.2 G2 vs h2
    refine ⟨by simp [klist, hl], fun i hi => ?_⟩
    cases i with
    | zero => exact ⟨G1, h1⟩
    | succ i => exact hk i (by simpa using hi)
end Go.Proofs.YtnohmedccbogkaaGreatDoor

