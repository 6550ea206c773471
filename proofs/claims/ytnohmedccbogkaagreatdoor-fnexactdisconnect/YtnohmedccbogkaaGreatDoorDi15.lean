import Derived.Test.YtnohmedccbogkaaGreatDoorDi14
import Derived.Lib.AppendZeros
import Derived.Test.YtnohmedccbogkaaGreatDoorDi8
import Derived.Test.YtnohmedccbogkaaGreatDoorDi7
namespace Go.Proofs.YtnohmedccbogkaaGreatDoor
open Go.RowKit
set_option linter.unusedVariables false
theorem wpList_app1L {w1 : World} {ops : Array Oper} {rest : List Oper} {o : Oper} {act : Act} {Q : Exit → Act → World → Prop} (hgd : o.guard = none) (so xo : Operand) {t e bytes : Nat} {z : Value} (T : ElT t e 1 z bytes)
    (ho : o.op = .call { callee := .builtin .append, args := #[so, xo], argTypes := #[t, t] })
    (B : Nat) (a : Option Addr) (n c : Nat) (xs : List Value) (hs : act.eval so = .slice a n c) (hown : Own1 e B w1 a n c xs) (x : Value) (hx1 : x.oneCell' = true)
    (hx : act.eval xo = .slice (some ⟨w1.heap.size, 0, none⟩) 1 1) (hn : n ≤ 1048576) (hbt : bytes ≤ 1048576) (hB : B ≤ w1.heap.size)
    (hh : ∀ g c' w', Own1 e B w' (some ⟨g, 0, none⟩) (n + 1) c' (xs ++ [x]) → Below B w1 w' → (w1.alloc (.cells #[x] e)).grownBy w' (Value.slice a n c).ownBlock → (a = some ⟨g, 0, none⟩ ∨ w1.heap.size < g) → wpList Tryz.prog ops Q rest (act.put o.dst (.slice (some ⟨g, 0, none⟩) (n + 1) c')) w') :
    wpList Tryz.prog ops Q (o :: rest) act (w1.alloc (.cells #[x] e)) :=
  wpList_plain hgd fun _ hK => wp_app1L so xo T ho B a n c xs hs hown x hx1 hx hn hbt hB fun g c' w' h1 h2 h3 h4 => hK _ _ (hh g c' w' h1 h2 h3 h4)
def idAt (l : List Int) (i : Nat) : Int := low ((l.drop (4 * i)).take 4)
def frA : List Int → List Int → Option (List Int)
  | [], free => some free
  | x :: xs, free => if free ≠ [] ∧ x ≤ free.getLastD 0 then none else frA xs (free ++ [x])
def idsB (l : List Int) (i : Nat) : List Int := ((List.range (l.length / 4)).drop i).map (idAt l)
theorem idsB_nil {l : List Int} {i : Nat} (h : l.length / 4 ≤ i) : idsB l i = [] := by
  unfold idsB
  rw [List.drop_eq_nil_of_le (by simpa using h)]
  rfl
theorem idsB_cons {l : List Int} {i : Nat} (h : i < l.length / 4) : idsB l i = idAt l i :: idsB l (i + 1) := by
  unfold idsB
  rw [List.drop_eq_getElem_cons (by simpa using h)]
  simp
def flOk (P : Pg) (own : List Int) (id : Int) : Bool := P.ok id && (P.kd id == 4) && !own.contains id && decide (4 ≤ (P.bd id).length) && ((P.bd id).length % 4 == 0)
theorem flOk_iff {P : Pg} {own : List Int} {id : Int} : flOk P own id = true ↔ P.ok id = true ∧ P.kd id = 4 ∧ id ∉ own ∧ 4 ≤ (P.bd id).length ∧ (P.bd id).length % 4 = 0 := by
  simp [flOk, and_assoc]
def flR (P : Pg) : Nat → Int → List Int → List Int → Option (List Int × List Int)
  | 0, id, own, free => if id = 0 then some (free, own) else none
  | f + 1, id, own, free => if id = 0 then some (free, own) else if flOk P own id = true then (frA (idsB (P.bd id) 1) free).bind fun free' => flR P f (idAt (P.bd id) 0) (own ++ [id]) free' else none
theorem flR_zero {P : Pg} (f : Nat) (own free : List Int) : flR P f 0 own free = some (free, own) := by cases f <;> simp [flR]
theorem flR_no {P : Pg} {f : Nat} {id : Int} {own free : List Int} (h0 : id ≠ 0) (h : flOk P own id = false) : flR P (f + 1) id own free = none := by rw [flR, if_neg h0, if_neg (by rw [h]; decide)]
theorem flR_yes {P : Pg} {f : Nat} {id : Int} {own free : List Int} (h0 : id ≠ 0) (h : flOk P own id = true) : flR P (f + 1) id own free = (frA (idsB (P.bd id) 1) free).bind fun free' => flR P f (idAt (P.bd id) 0) (own ++ [id]) free' := by rw [flR, if_neg h0, if_pos h]
noncomputable def flT (K : DK) (id : Int) : Option (List Int × List Int) := match dOkB K with | false => none | true => flR (pgD K) (nPg K + 1) id [] []
end Go.Proofs.YtnohmedccbogkaaGreatDoor

namespace Go.Proofs.YtnohmedccbogkaaGreatDoor
open Go.RowKit
set_option linter.unusedVariables false
theorem infoN : (Tryz.prog.info? 3).map (fun i => (i.zero, i.size, i.bytes)) = some (some (.int .i64 0), 1, 8) := by kernel_rfl
theorem on_one (l : List Int) : ∀ u ∈ on l, u.oneCell' = true := ints_oneCell .i64 l
theorem Own1.belowW {e : Nat} {w w' : World} {a : Option Addr} {n c : Nat} {xs : List Value} (h : Own1 e 0 w a n c xs) (hb : Below w.heap.size w w') : Own1 e 0 w' a n c xs := h.below hb
theorem wpList_appN {w : World} {ops : Array Oper} {rest : List Oper} {o : Oper} {act : Act} {Q : Exit → Act → World → Prop} (hgd : o.guard = none) (s x : Operand)
    (ho : o.op = .call { callee := .builtin .append, args := #[s, x], argTypes := #[119, 119] })
    (B : Nat) (a : Option Addr) (n c : Nat) (xs : List Int) (hs : act.eval s = .slice a n c) (hown : Own1 3 B w a n c (on xs))
    (b : Option Addr) (m d : Nat) (l : List Int) (hx : act.eval x = .slice b m d) (hl : Own1 3 0 w b m d (on l)) (hlen : n + m ≤ 1048576) (hB : B ≤ w.heap.size)
    (h : ∀ a' c' w', Own1 3 B w' a' (n + m) c' (on (xs ++ l)) → Below B w w' → w.grownBy w' (Value.slice a n c).ownBlock → wpList Tryz.prog ops Q rest (act.put o.dst (.slice a' (n + m) c')) w') : wpList Tryz.prog ops Q (o :: rest) act w := by
  obtain ⟨i, hi, hz0, hz1, hz2⟩ := info_parts infoN
  have hll : l.length = m := by have := hl.len; rwa [on_len] at this
  cases b with
  | none =>
    have hm : m = 0 ∧ d = 0 := by
      rcases hl.2 with ⟨e1, h0⟩ | ⟨g, cap, cur, e1, _⟩
      · cases e1; exact ⟨rfl, rfl⟩
      · cases e1
    obtain ⟨rfl, rfl⟩ := hm
    have hl0 : l = [] := List.eq_nil_of_length_eq_zero hll
    subst hl0
    refine wpList_append_own_none hgd s x _ ho B 3 i 1 Tryz.underlying119 hi _ n (on xs) hs hown hx ?_
    exact h a c w (by simpa using hown) (Below.refl _ _) ⟨rfl, rfl, rfl, Nat.le_refl _, fun _ _ _ => rfl⟩
  | some ad =>
    refine wpList_append_own w hgd s x _ ho B 3 i _ 1 8 Tryz.underlying119 hi hz0 hz1 hz2 rfl (by omega) _ n (on xs) hs hown ad m d (on l) hx (by rw [on_len, hll]; omega) ?_ (on_one l) (by unfold maxLen; omega) (by omega) hB ?_
    · intro j u hj
      have hjl : j < l.length := by have := (List.getElem?_eq_some_iff.1 hj).1; rwa [on_len] at this
      obtain ⟨g, e, _, _, _, hc⟩ := hl.at_ (by omega)
      cases e
      rw [Addr.add_lit, Nat.zero_add, hc j (by omega)]
      rw [List.getD, hj]
      rfl
    · intro v' w' ho' hg' _
      rw [on_app] at ho'
      have hv : ∃ a' c', v' = .slice a' (n + m) c' := by
        rcases ho'.2 with ⟨rfl, h0⟩ | ⟨g, cap, cur, rfl, _⟩
        · exact ⟨none, 0, by rw [h0]⟩
        · exact ⟨_, _, rfl⟩
      obtain ⟨a', c', rfl⟩ := hv
      exact h a' c' w' ho' ((Below.refl _ _).grown hg' hB (fun k hk => (World.ownsRow.lt hown k hk).1)) hg'
set_option maxRecDepth 100000 in
set_option maxHeartbeats 400000 in
theorem growN_calls (n : Nat) (w : World) (hn : n ≤ 1048576) :
    Calls Tryz.prog 189 #[.slice none 0 0, .int .i64 n] w fun e w' => ∃ a c, e = .returned (.slice a 0 c) ∧ Below w.heap.size w w' ∧ Own1 3 w.heap.size w' a 0 c [] := by
  by_cases h0 : 0 < n
  · obtain ⟨i, hi, hz0, hz1, hz2⟩ := info_parts infoN
    have hr := fun ty wx => Lib.run_append_nil_zeros (P := Tryz.prog) wx 119 3 ty 3 i _ .i64 .i64 Tryz.underlying119 Tryz.underlying3 hi hz0 n h0 (by omega) (by omega) (by rw [hz2]; omega)
    have hi0 : (0 : Int) < (n : Int) := by omega
    go_enter Tryz.func189, Tryz.ntmps189
    go_wp2_with (at_builtin; refine Lib.wpList_append_run _ rfl _ _ _ _ rfl _ _ rfl rfl _ _ (hr _ _) ?_)
    go_ret
    have hge := grownCap_ge w n 0 3
    have hcm := grownCap_le_maxLen w n 0 3 (by unfold maxLen; omega)
    refine ⟨_, _, rfl, ((Below.refl _ _).alloc (Nat.le_refl _) _).drew, ?_⟩
    refine World.ownsRow_made (size := 1) w _ _ (Nat.le_refl _) hcm ?_
    simp [size_zeroCells]
    omega
  · have e : n = 0 := by omega
    subst e
    go_enter Tryz.func189, Tryz.ntmps189
    go_wp2
    go_ret
    exact ⟨none, 0, rfl, Below.refl _ _, own1_nil _ _ _⟩
def catN (L : Nat → List Int) : Nat → List Int
  | 0 => []
  | k + 1 => catN L k ++ L k
theorem catN_mono (L : Nat → List Int) {j k : Nat} (h : j ≤ k) : (catN L j).length ≤ (catN L k).length := by
  induction k with
  | zero => have : j = 0 := by omega
            subst this; exact Nat.le_refl _
  | succ k ih =>
    by_cases e : j = k + 1
    · subst e; exact Nat.le_refl _
    · have := ih (by omega)
      simp [catN]; omega
set_option maxRecDepth 100000 in
set_option maxHeartbeats 1000000 in
theorem concatN_calls (b off n cap : Nat) (A : Nat → Option Addr) (N C : Nat → Nat) (L : Nat → List Int) (w : World) (hb : b < w.heap.size) (hn : n ≤ 1048576)
    (hc : ∀ i, i < n → w.cell? ⟨b, off + i, none⟩ = some (.slice (A i) (N i) (C i))) (hs : ∀ i, i < n → Own1 3 0 w (A i) (N i) (C i) (on (L i))) (ht : (catN L n).length ≤ 1048576) :
    Calls Tryz.prog 155 #[.slice (some ⟨b, off, none⟩) n cap] w fun e w' => ∃ a c, e = .returned (.slice a (catN L n).length c) ∧ Below w.heap.size w w' ∧ Own1 3 w.heap.size w' a (catN L n).length c (on (catN L n)) := by
  go_enter Tryz.func155, Tryz.ntmps155
  go_wp2
  go_loop [3, 11] (fun x i => ∃ k : Nat, k ≤ n ∧ i = .int .i64 k ∧ x = .int .i64 ((catN L k).length : Nat)) (fun _ i => n - (intOf i).toNat)
  case atStart => exact ⟨0, Nat.zero_le _, rfl, rfl⟩
  case round =>
    obtain ⟨k, hk, rfl, rfl⟩ := hrel
    have hm := catN_mono L hk
    by_cases hlt : k < n
    · have hck := hc k hlt
      have hsk := hs k hlt
      have HL : Hid ((catN L (k + 1)).length = (catN L k).length + N k) := by
        show (catN L k ++ L k).length = _
        rw [List.length_append, (show (L k).length = N k by have := hsk.len; rwa [on_len] at this)]
      have hm1 := catN_mono L (show k + 1 ≤ n from hlt)
      rw [HL.out] at hm1
      generalize (catN L k).length = X at *
      generalize N k = Y at *
      have hneg : ¬ ((X : Int) + (Y : Int) < 0) := by omega
      clear hc hs hsk
      go_wp2
      go_round
      case rel => exact ⟨k + 1, by omega, by go_num, by rw [HL.out]; go_num⟩
      case measure => simp [intOf]; omega
    · have e : k = n := by omega
      subst e
      go_wp2_with fail
      refine (growN_calls (catN L k).length _ ht).mono ?_
      rintro e w1 ⟨a1, c1, rfl, hb1, ho1⟩
      go_wp2_with fail
      go_loopw [6, 27] (fun o i wr => ∃ j a c, j ≤ k ∧ i = .int .i64 (j : Nat) ∧ o = .slice a (catN L j).length c ∧ Below w.heap.size w wr ∧ Own1 3 w.heap.size wr a (catN L j).length c (on (catN L j))) (fun _ i _ => k - (intOf i).toNat)
      case atStart => exact ⟨0, a1, c1, Nat.zero_le _, rfl, rfl, hb1, ho1⟩
      case round =>
        obtain ⟨j, a, c, hj, rfl, rfl, hbj, hoj⟩ := hrel
        by_cases hlt : j < k
        · have hck : wr.cell? ⟨b, off + j, none⟩ = some (.slice (A j) (N j) (C j)) := by rw [hbj.cell (p := ⟨b, off + j, none⟩) hb]; exact hc j hlt
          have hsj := (hs j hlt).belowW hbj
          have hm1 := catN_mono L (show j + 1 ≤ k from hlt)
          have HL : Hid ((catN L (j + 1)).length = (catN L j).length + N j) := by
            show (catN L j ++ L j).length = _
            rw [List.length_append, (show (L j).length = N j by have := hsj.len; rwa [on_len] at this)]
          rw [HL.out] at hm1
          have HC : Hid (catN L (j + 1) = catN L j ++ L j) := rfl
          have hz := hbj.size
          clear hc hs ho1 hb1
          go_wp2_with (at_builtin; refine wpList_appN rfl _ _ rfl w.heap.size a _ c (catN L j) rfl ?own (A j) (N j) (C j) (L j) rfl ?bs ?len ?B ?_)
          case own => exact hoj
          case bs => exact hsj
          case len => omega
          case B => exact hz
          intro a' c' w' ho' hb' _
          have hb2 : Below w.heap.size w w' := hbj.trans hb'
          rw [← HL.out, ← HC.out] at ho'
          rw [← HL.out]
          clear hoj hbj hb' hsj hck
          go_wp2
          go_roundw
          case rel => exact ⟨j + 1, a', c', by omega, by go_num, rfl, hb2, ho'⟩
          case measure => simp [intOf]; omega
        · have e : j = k := by omega
          subst e
          go_wp2
          go_ret
          exact ⟨a, c, rfl, hbj, hoj⟩
end Go.Proofs.YtnohmedccbogkaaGreatDoor

namespace Go.Proofs.YtnohmedccbogkaaGreatDoor
open Go.RowKit
set_option linter.unusedVariables false
theorem own1_rb {e B : Nat} {w w' : World} {a : Option Addr} {n c : Nat} {xs : List Value} (h : Own1 e B w a n c xs) (hk : ∀ k ∈ rb a, w'.heap[k]? = w.heap[k]?) : Own1 e B w' a n c xs := by
  refine ⟨h.1, ?_⟩
  rcases h.2 with h2 | ⟨g, cap, cur, e1, hB, hh, r⟩
  · exact Or.inl h2
  · cases e1
    exact Or.inr ⟨g, _, cur, rfl, hB, (hk g (by simp [rb])).trans hh, r⟩
theorem own1_rb_lt {e B : Nat} {w : World} {a : Option Addr} {n c : Nat} {xs : List Value} (h : Own1 e B w a n c xs) : ∀ k ∈ rb a, B ≤ k ∧ k < w.heap.size := by
  intro k hk
  rcases h.2 with ⟨e1, _⟩ | ⟨g, cap, cur, e1, hB, hh, r⟩
  · cases e1; simp [rb] at hk
  · cases e1
    simp [rb] at hk
    subst hk
    exact ⟨hB, (Array.getElem?_eq_some_iff.1 hh).1⟩
theorem on_getD (l : List Int) (i : Nat) (hi : i < l.length) : (on l).getD i undef = .int .i64 (l.getD i 0) := by
  simp [on, List.getD, hi]
set_option maxHeartbeats 1000000 in
set_option maxRecDepth 100000 in
theorem indexN_calls (B : Nat) (a : Option Addr) (c : Nat) (l : List Int) (x : Int) (w : World) (h : Own1 3 B w a l.length c (on l)) (hl : l.length ≤ 1048576) :
    Calls Tryz.prog 209 #[.slice a l.length c, .int .i64 x] w fun e w' => ∃ i : Int, e = .returned (.int .i64 i) ∧ (0 ≤ i ↔ x ∈ l) ∧ w' = w := by
  have hc : ∀ i, i < l.length → ∃ g, a = some ⟨g, 0, none⟩ ∧ w.cell? ⟨g, i, none⟩ = some (.int .i64 (l.getD i 0)) := fun i hi => by
    obtain ⟨g, e, _, _, _, hc⟩ := h.at_ (by omega)
    exact ⟨g, e, by rw [hc i hi, on_getD l i hi]⟩
  have HC : Hid _ := hc
  clear hc h
  go_enter Tryz.func209, Tryz.ntmps209
  go_wp2
  go_loop [8] (fun s => ∃ k : Nat, k ≤ l.length ∧ s = .int .i64 (k : Nat) ∧ ∀ j, j < k → l.getD j 0 ≠ x) (fun s => l.length - (intOf s).toNat)
  case atStart => exact ⟨0, Nat.zero_le _, rfl, fun j hj => absurd hj (Nat.not_lt_zero _)⟩
  case round =>
    obtain ⟨k, hk, rfl, hno⟩ := hrel
    have HNO : Hid _ := hno
    clear hno
    by_cases hlt : k < l.length
    · obtain ⟨g, rfl, hck⟩ := HC.out k hlt
      have HMEM : Hid (l.getD k 0 ∈ l) := by show l.getD k 0 ∈ l; rw [List.getD, List.getElem?_eq_getElem hlt]; exact List.getElem_mem _
      generalize hy : l.getD k 0 = y at *
      have HY : Hid _ := hy
      clear hy
      by_cases he : x = y
      · subst he
        go_wp2
        go_ret
        exact ⟨(k : Int), rfl, ⟨fun _ => HMEM.out, fun _ => by omega⟩, rfl⟩
      · have he2 : (x == y) = false := by simp [he]
        go_wp2
        go_round
        case rel =>
          refine ⟨k + 1, by omega, by go_num, fun j hj => ?_⟩
          by_cases hjk : j = k
          · subst hjk
            rw [HY.out]
            exact fun e => he e.symm
          · exact HNO.out j (by omega)
        case measure => simp [intOf]; omega
    · have HALL : Hid (x ∉ l) := fun hm => by
        obtain ⟨j, hj, e⟩ := List.mem_iff_getElem.1 hm
        exact HNO.out j (by omega) (by rw [List.getD, List.getElem?_eq_getElem hj]; exact e)
      go_wp2
      go_ret
      exact ⟨-1, rfl, ⟨fun h => by omega, fun h => absurd h HALL.out⟩, rfl⟩
theorem containsN0_calls (B : Nat) (a : Option Addr) (c : Nat) (l : List Int) (x : Int) (w : World) (h : Own1 3 B w a l.length c (on l)) (hl : l.length ≤ 1048576) :
    Calls Tryz.prog 185 #[.slice a l.length c, .int .i64 x] w fun e w' => (∃ i : Int, e = .returned (.bool (decide (0 ≤ i))) ∧ (0 ≤ i ↔ x ∈ l)) ∧ w' = w := by
  have I := indexN_calls B a c l x w h hl
  clear h
  go_enter Tryz.func185, Tryz.ntmps185
  go_wp2_with fail
  refine I.mono ?_
  rintro e w1 ⟨i, rfl, hi, hw⟩
  obtain rfl := hw.symm
  have HI : Hid _ := hi
  clear I hi hw
  go_wp2
  go_ret
  exact ⟨⟨i, rfl, HI.out⟩, rfl⟩
theorem containsN_calls (B : Nat) (a : Option Addr) (c : Nat) (l : List Int) (x : Int) (w : World) (h : Own1 3 B w a l.length c (on l)) (hl : l.length ≤ 1048576) :
    Calls Tryz.prog 185 #[.slice a l.length c, .int .i64 x] w fun e w' => e = .returned (.bool (l.contains x)) ∧ w' = w := by
  refine (containsN0_calls B a c l x w h hl).mono ?_
  rintro e w1 ⟨⟨i, rfl, hi⟩, rfl⟩
  have hb : l.contains x = decide (0 ≤ i) := by
    rw [Bool.eq_iff_iff, decide_eq_true_eq, hi, List.contains_iff_mem]
  rw [hb]
  exact ⟨rfl, rfl⟩
end Go.Proofs.YtnohmedccbogkaaGreatDoor

namespace Go.Proofs.YtnohmedccbogkaaGreatDoor
open Go.RowKit
set_option linter.unusedVariables false
def pgN : Tr → List Int
  | .leaf id _ => [id]
  | .node id ks => pgN ks ++ [id]
  | .nil => []
  | .cons _ t ks => pgN t ++ pgN ks
theorem pgN_perm : ∀ t : Tr, (pgN t).Perm (pgsT t)
  | .leaf _ _ => List.Perm.refl _
  | .node id ks => by
    rw [pgN, pgsT]
    exact (List.perm_append_comm).trans ((pgN_perm ks).cons id)
  | .nil => List.Perm.refl _
  | .cons _ t ks => by
    rw [pgN, pgsT]
    exact (pgN_perm t).append (pgN_perm ks)
def pgNL (L : List (ByteArray × Tr)) : List Int := L.flatMap (fun x => pgN x.2)
theorem pgN_klist : ∀ ks : Tr, isT ks = false → ∀ b, full ks b → pgN ks = pgNL (klist ks)
  | .leaf _ _, h, _, _ => by simp [isT] at h
  | .node _ _, h, _, _ => by simp [isT] at h
  | .nil, _, _, _ => by simp [pgN, pgNL, klist]
  | .cons s t ks, _, b, hf => by
    rw [full] at hf
    rw [pgN, klist, pgN_klist ks hf.2.2.1 false hf.2.2.2.2]
    simp [pgNL]
theorem pgNL_take (L : List (ByteArray × Tr)) (i : Nat) (hi : i < L.length) : pgNL (L.take (i + 1)) = pgNL (L.take i) ++ pgN (L.getD i t0).2 := by
  unfold pgNL
  rw [List.take_succ_eq_append_getElem hi, List.flatMap_append]
  simp [List.getD, List.getElem?_eq_getElem hi]
def NVal (w : World) (v : Value) (id : Int) : Prop := ∃ b ys, (v = lfI b ∧ Blk w 302 b (.int .i64 id :: ys)) ∨ (v = inI b ∧ Blk w 265 b (.int .i64 id :: ys))
theorem NVal.keep {w w' : World} {v : Value} {id : Int} (h : NVal w v id) (hk : ∀ t, t ≠ 273 → KeepT t w w') : NVal w' v id := by
  obtain ⟨b, ys, ⟨e, h⟩ | ⟨e, h⟩⟩ := h
  · exact ⟨b, ys, Or.inl ⟨e, h.keepT (hk _ (by decide))⟩⟩
  · exact ⟨b, ys, Or.inr ⟨e, h.keepT (hk _ (by decide))⟩⟩
theorem orow_typed {e s B : Nat} {w : World} {a : Option Addr} {n c : Nat} {f : Nat → List Value} (h : ORow e s B w a n c f) : ∀ k ∈ rb a, ∃ cs, w.heap[k]? = some (.cells cs e (0, 0)) := by
  intro k hk
  rcases h.2 with ⟨e1, _⟩ | ⟨g1, cap1, cur1, e1, hB1, hh1, _⟩
  · cases e1; simp [rb] at hk
  · cases e1
    simp [rb] at hk
    subst hk
    exact ⟨_, hh1⟩
theorem IRep.typed {w : World} : ∀ {t : Tr} {F : List Nat} {vs : List (ByteArray × Value)}, IRep w t F vs → ∀ k ∈ F, ∃ cs ty, ty ≠ 273 ∧ w.heap[k]? = some (.cells cs ty (0, 0))
  | .leaf id es, F, vs, h => by
    rw [IRep] at h
    obtain ⟨b, a, c, rfl, _, hb, hr⟩ := h
    intro k hk
    rcases List.mem_cons.1 hk with rfl | hk
    · exact ⟨_, _, by decide, hb⟩
    · obtain ⟨cs, h⟩ := orow_typed hr k hk
      exact ⟨cs, _, by decide, h⟩
  | .node id ks, F, vs, h => by
    rw [IRep] at h
    obtain ⟨b, a, c, us, G, rfl, _, hb, hr, hi⟩ := h
    intro k hk
    rcases List.mem_cons.1 hk with rfl | hk
    · exact ⟨_, _, by decide, hb⟩
    · rcases List.mem_append.1 hk with hk | hk
      · obtain ⟨cs, h⟩ := orow_typed hr k hk
        exact ⟨cs, _, by decide, h⟩
      · exact hi.typed k hk
  | .nil, F, vs, h => by
    rw [IRep] at h
    obtain ⟨rfl, _⟩ := h
    intro k hk
    cases hk
  | .cons s t ks, F, vs, h => by
    rw [IRep] at h
    obtain ⟨v, us, G1, G2, rfl, _, h1, h2⟩ := h
    intro k hk
    rcases List.mem_append.1 hk with hk | hk
    · exact h1.typed k hk
    · exact h2.typed k hk
theorem IRep.keepN {w w' : World} {t : Tr} {F : List Nat} {vs : List (ByteArray × Value)} (h : IRep w t F vs) (hk : ∀ t, t ≠ 273 → KeepT t w w') : IRep w' t F vs :=
  h.keep (fun k hkF => by
    obtain ⟨cs, ty, hne, hh⟩ := h.typed k hkF
    rw [(hk ty hne).block k cs _ hh, hh])
theorem IRep.kid {w : World} : ∀ (ks : Tr), isT ks = false → ∀ b, full ks b → ∀ (G : List Nat) (us : List (ByteArray × Value)), IRep w ks G us → us.length = (klist ks).length ∧ ∀ i, i < us.length → ∃ Gi, IRep w ((klist ks).getD i t0).2 Gi [(strOfNums [], (us.getD i k0).2)]
  | .leaf _ _, h, _, _, _, _, _ => by simp [isT] at h
  | .node _ _, h, _, _, _, _, _ => by simp [isT] at h
  | .nil, _, _, _, G, us, h => by
    rw [IRep] at h
    obtain ⟨_, rfl⟩ := h
    exact ⟨rfl, fun i hi => absurd hi (Nat.not_lt_zero _)⟩
  | .cons s t ks, _, b, hf, G, us, h => by
    rw [full] at hf
    rw [IRep] at h
    obtain ⟨v, vs, G1, G2, _, rfl, h1, h2⟩ := h
    obtain ⟨hl, hk⟩ := IRep.kid ks hf.2.2.1 false hf.2.2.2.2 G2 vs h2
    refine ⟨by simp [klist, hl], fun i hi => ?_⟩
    cases i with
    | zero => exact ⟨G1, h1⟩
    | succ i => exact hk i (by simpa using hi)
end Go.Proofs.YtnohmedccbogkaaGreatDoor

namespace Go.Proofs.YtnohmedccbogkaaGreatDoor
open Go.RowKit
set_option linter.unusedVariables false
theorem elNo : ElT 277 273 1 .nilIface 16 := ⟨Tryz.underlying277, by kernel_rfl, rfl, by omega⟩
theorem methNsL (p : Value) (w : World) : (Go.method 482 299 p "loop.example/s01906/impl.nodes").run Tryz.prog w = .ok (280, p) w := by kernel_rfl
theorem methNsI (p : Value) (w : World) : (Go.method 482 260 p "loop.example/s01906/impl.nodes").run Tryz.prog w = .ok (271, p) w := by kernel_rfl
theorem sizeKd : (Tryz.prog.info? 276).map (·.size) = some 2 := by kernel_rfl
theorem getD_appL {α : Type} {l m : List α} {i : Nat} {d : α} (h : i < l.length) : (l ++ m).getD i d = l.getD i d := by simp [List.getD, List.getElem?_append_left h]
structure NsQ (B : Nat) (w : World) (a : Option Addr) (n : Nat) (xs : List Value) (ids : List Int) (a' : Option Addr) (c' : Nat) (vals : List Value) (w' : World) : Prop where
  own : Own1 273 B w' a' (n + vals.length) c' (xs ++ vals)
  fr : OnlyS (fun k => k ∈ rb a) w w'
  low : ∀ k ∈ rb a', k < w.heap.size → k ∈ rb a
  keep : ∀ t, t ≠ 273 → KeepT t w w'
  len : vals.length = ids.length
  nv : ∀ i, i < vals.length → NVal w' (vals.getD i undef) (ids.getD i 0)
def NsP (B : Nat) (w : World) (a : Option Addr) (n : Nat) (xs : List Value) (ids : List Int) (e : Ending) (w' : World) : Prop :=
  ∃ a' c' vals, e = .returned (.slice a' (n + vals.length) c') ∧ NsQ B w a n xs ids a' c' vals w'
def NsC (t : Tr) : Prop := ∀ (v : Value) (G : List Nat) (w : World) (B : Nat) (a : Option Addr) (n c : Nat) (xs : List Value), IRep w t G [(strOfNums [], v)] → Own1 273 B w a n c xs → B ≤ w.heap.size → n + (pgN t).length ≤ 1048576 →
  ∃ ty p fn, v = .iface ty (.pointer p) ∧ (∀ u, (Go.method 482 ty (.pointer p) "loop.example/s01906/impl.nodes").run Tryz.prog u = .ok (fn, .pointer p) u) ∧ (∀ args u, (callFunc fn args).run Tryz.prog u = .ok (.enter fn args) u) ∧ Calls Tryz.prog fn #[.pointer p, .slice a n c] w (NsP B w a n xs (pgN t))
theorem NsQ.one {B : Nat} {w wr : World} {a a' : Option Addr} {n c' : Nat} {xs vals : List Value} {ids : List Int} (h : NsQ B w a n xs ids a' c' vals wr) {v : Value} {id : Int} (hv : NVal wr v id) {g c8 : Nat} {w' : World}
    (ho : Own1 273 B w' (some ⟨g, 0, none⟩) (n + vals.length + 1) c8 (xs ++ vals ++ [v])) (hg : (wr.alloc (.cells #[v] 273)).grownBy w' (Value.slice a' (n + vals.length) c').ownBlock) (hat : a' = some ⟨g, 0, none⟩ ∨ wr.heap.size < g) : NsQ B w a n xs (ids ++ [id]) (some ⟨g, 0, none⟩) c8 (vals ++ [v]) w' := by
  have q : Below wr.heap.size wr (wr.alloc (.cells #[v] 273)) := (Below.refl _ _).alloc (Nat.le_refl _) _
  have hk : ∀ t, t ≠ 273 → KeepT t wr w' := fun t ht => (keepT_below q).trans (keepT_grown (own_below h.own q) hg (Ne.symm ht))
  have hz := h.fr.size
  refine ⟨?_, (h.fr.trans (OnlyS.ofBelow q)).transN (OnlyS.ofGrown hg) (fun k hk e => h.low k (rb_own k e) hk), ?_, fun t ht => (h.keep t ht).trans (hk t ht), by simp [h.len], ?_⟩
  · rw [List.length_append, ← List.append_assoc]
    exact ho
  · intro k hkr hkl
    simp [rb] at hkr
    subst hkr
    rcases hat with e | e
    · exact h.low _ (by rw [e]; simp [rb]) hkl
    · omega
  · intro i hi
    by_cases hlt : i < vals.length
    · have := (h.nv i hlt).keep hk
      rw [getD_appL hlt, getD_appL (by rw [← h.len]; exact hlt)]
      exact this
    · have e : i = vals.length := by rw [List.length_append] at hi; simp at hi; omega
      subst e
      have := hv.keep hk
      simpa [List.getD, h.len] using this
set_option maxHeartbeats 1000000 in
set_option maxRecDepth 100000 in
theorem nodes_leaf (id : Int) (es : List (ByteArray × ByteArray)) : NsC (.leaf id es) := by
  intro v G w B a n c xs hr ho hB hn
  rw [IRep] at hr
  obtain ⟨b, ab, cb, rfl, hv, hblk, _⟩ := hr
  have hv2 : v = lfI b := by simpa using hv
  subst hv2
  refine ⟨_, _, 280, rfl, methNsL _, fun _ _ => rfl, ?_⟩
  have hNV : NVal w (lfI b) id := ⟨b, _, Or.inl ⟨rfl, hblk⟩⟩
  have hQ : NsQ B w a n xs [] a c [] w := ⟨by simpa using ho, OnlyS.refl _ _, fun k hk _ => hk, fun _ _ => KeepT.refl _ _, rfl, fun i hi => absurd hi (Nat.not_lt_zero _)⟩
  have HQ : Hid _ := And.intro hQ hNV
  have hn2 : n ≤ 1048576 := by omega
  clear hQ hNV hn hblk hv
  go_enter Tryz.func280, Tryz.ntmps280
  go_wp2_with (at_builtin; refine wpList_app1L rfl _ _ elNo rfl B a n c xs rfl ho (lfI b) rfl rfl hn2 (by omega) hB ?_)
  intro g c8 w8 o8 b8 g8 at8
  go_wp2
  go_ret
  exact ⟨_, _, [lfI b], rfl, HQ.out.1.one HQ.out.2 (by simpa using o8) g8 at8⟩
theorem kdF_ok (us : List (ByteArray × Value)) (n : Nat) (h : ∀ i, i < n → (us.getD i k0).2.oneCell' = true) : IsRow 2 (kdF us) n := ⟨fun _ _ => rfl, fun i hi u hu => by simp [kdF] at hu; rcases hu with rfl | rfl; rfl; exact h i hi⟩
theorem pgN_pos : ∀ t : Tr, isT t = true → 1 ≤ (pgN t).length
  | .leaf _ _, _ => by simp [pgN]
  | .node _ _, _ => by simp [pgN]
  | .nil, h => by simp [isT] at h
  | .cons _ _ _, h => by simp [isT] at h
theorem klist_len : ∀ ks : Tr, isT ks = false → ∀ b, full ks b → (klist ks).length ≤ (pgN ks).length
  | .leaf _ _, h, _, _ => by simp [isT] at h
  | .node _ _, h, _, _ => by simp [isT] at h
  | .nil, _, _, _ => by simp [klist]
  | .cons s t ks, _, b, hf => by
    rw [full] at hf
    have h1 := pgN_pos t hf.2.1
    have h2 := klist_len ks hf.2.2.1 false hf.2.2.2.2
    rw [pgN, klist, List.length_append, List.length_cons]
    omega
theorem pgNL_le (L : List (ByteArray × Tr)) (i : Nat) : (pgNL (L.take i)).length ≤ (pgNL L).length := by
  have e : pgNL L = pgNL (L.take i) ++ pgNL (L.drop i) := by
    unfold pgNL
    rw [← List.flatMap_append, List.take_append_drop]
  rw [e, List.length_append]
  omega
theorem NsQ.trans {B : Nat} {w wr W2 w' : World} {a a' a2 : Option Addr} {n c' c2 : Nat} {xs vals vals2 : List Value} {ids ids2 : List Int} (h : NsQ B w a n xs ids a' c' vals wr) (q : Below wr.heap.size wr W2) (h2 : NsQ B W2 a' (n + vals.length) (xs ++ vals) ids2 a2 c2 vals2 w') : NsQ B w a n xs (ids ++ ids2) a2 c2 (vals ++ vals2) w' := by
  have hz := h.fr.size
  have hz2 := q.size
  refine ⟨?_, (h.fr.trans (OnlyS.ofBelow q)).transN h2.fr (fun k hk e => h.low k e hk), fun k hk hkl => h.low k (h2.low k hk (by omega)) hkl, fun t ht => ((h.keep t ht).trans (keepT_below q)).trans (h2.keep t ht), by rw [List.length_append, List.length_append, h.len, h2.len], ?_⟩
  · rw [List.length_append, ← List.append_assoc, ← Nat.add_assoc]
    exact h2.own
  · intro i hi
    by_cases hlt : i < vals.length
    · have := ((h.nv i hlt).keep (fun t _ => keepT_below q)).keep h2.keep
      rw [getD_appL hlt, getD_appL (by rw [← h.len]; exact hlt)]
      exact this
    · have h3 := h2.nv (i - vals.length) (by rw [List.length_append] at hi; omega)
      have e1 : (vals ++ vals2).getD i undef = vals2.getD (i - vals.length) undef := by simp [List.getD, List.getElem?_append_right (Nat.le_of_not_lt hlt)]
      have e2 : (ids ++ ids2).getD i 0 = ids2.getD (i - vals.length) 0 := by rw [h.len]; simp [List.getD, List.getElem?_append_right (show ids.length ≤ i by have := h.len; omega)]
      rw [e1, e2]
      exact h3
set_option maxHeartbeats 2000000 in
set_option maxRecDepth 100000 in
theorem nodes_inner (id : Int) (ks : Tr) (hT : isT ks = false) (bb : Bool) (hf : full ks bb) (IH : ∀ i, i < (klist ks).length → NsC ((klist ks).getD i t0).2) : NsC (.node id ks) := by
  intro v G w B a n c xs hr ho hB hn
  rw [IRep] at hr
  obtain ⟨b, ak, ck, us, G2, rfl, hv, hblk, hrow, hrep⟩ := hr
  have hv2 : v = inI b := by simpa using hv
  subst hv2
  obtain ⟨hul, hkid⟩ := hrep.kid ks hT bb hf G2 us
  refine ⟨_, _, 271, rfl, methNsI _, fun _ _ => rfl, ?_⟩
  have hpg : pgN (.node id ks) = pgNL (klist ks) ++ [id] := by rw [pgN, pgN_klist ks hT bb hf]
  rw [hpg] at hn ⊢
  rw [List.length_append, List.length_singleton] at hn
  have hLl := klist_len ks hT bb hf
  rw [pgN_klist ks hT bb hf] at hLl
  generalize klist ks = L at *
  have c1 : w.cell? ⟨b, 1, none⟩ = some (.slice ak us.length ck) := hblk.cell 1
  have hQ : NsQ B w a n xs (pgNL (L.take 0)) a c [] w := ⟨by simpa using ho, OnlyS.refl _ _, fun k hk _ => hk, fun _ _ => KeepT.refl _ _, rfl, fun i hi => absurd hi (Nat.not_lt_zero _)⟩
  have HQ : Hid _ := hQ
  have hone : ∀ i, i < us.length → (us.getD i k0).2.oneCell' = true := fun i hi => by
    obtain ⟨Gi, h⟩ := hkid i hi
    obtain ⟨ty, p, fn, e, _⟩ := IH i (by omega) _ Gi w 0 none 0 0 [] h (own1_nil _ _ _) (Nat.zero_le _) (by have := pgNL_take L i (by omega); have h2 := pgNL_le L (i + 1); rw [this, List.length_append] at h2; omega)
    rw [e]
    rfl
  have HK : Hid _ := And.intro hblk (And.intro hrow (And.intro hkid (And.intro IH hone)))
  have hul2 : us.length ≤ 1048576 := by omega
  clear hQ hblk hrow hkid IH ho hv hpg hrep hone
  go_enter Tryz.func271, Tryz.ntmps271
  go_wp2_with fail
  go_loopw [1, 12] (fun s1 s12 wr => ∃ (i : Nat) (a' : Option Addr) (c' : Nat) (vals : List Value), s1 = .slice a' (n + vals.length) c' ∧ s12 = .int .i64 (i : Nat) ∧ i ≤ us.length ∧ NsQ B w a n xs (pgNL (L.take i)) a' c' vals wr) (fun _ s _ => us.length - (intOf s).toNat)
  case atStart => exact ⟨0, a, c, [], rfl, rfl, Nat.zero_le _, HQ.out⟩
  case round =>
    obtain ⟨i, a', c', vals, rfl, rfl, hi, hI⟩ := hrel
    obtain ⟨wR, hwX⟩ : ∃ wX, wX = wr := ⟨_, rfl⟩
    subst hwX
    have hvl := hI.len
    have hwz := hI.fr.size
    by_cases hlt : i < us.length
    · have hlt' : (i : Int) < (us.length : Int) := by omega
      have hp1 := pgNL_take L i (by omega)
      have hp2 := pgNL_le L (i + 1)
      have hp3 := pgNL_le L i
      rw [hp1, List.length_append] at hp2
      have hrR : ORow 276 2 0 wR ak us.length ck (kdF us) := ownsRow_keepT HK.out.2.1 (hI.keep _ (by decide))
      obtain ⟨kb, rfl, _, hkl⟩ := orow_at hrR (by omega)
      have hcl := fun j v hv => (hrR.reads (kdF_ok us _ HK.out.2.2.2.2)).cells i hlt j v hv
      rw [show kdF us i = [.string (us.getD i k0).1, (us.getD i k0).2] from rfl] at hcl
      obtain ⟨Gi, hGi⟩ := HK.out.2.2.1 i hlt
      have IHi := HK.out.2.2.2.1 i (by omega)
      generalize us.getD i k0 = en at *
      obtain ⟨sg, u⟩ := en
      have q2 : Below wR.heap.size wR (wR.alloc (Obj.cells #[.string sg, u] 276)) := (Below.refl _ _).alloc (Nat.le_refl _) _
      obtain ⟨ty, p, fn, hu, hmeth, hent, hcall⟩ := IHi u Gi (wR.alloc (Obj.cells #[.string sg, u] 276)) B a' (n + vals.length) c' (xs ++ vals) ((hGi.keepN hI.keep).below q2) (hI.own.below q2) (by have := q2.size; omega) (by rw [hvl]; omega)
      subst hu
      have cc0 : wR.cell? ⟨kb, i * 2, none⟩ = some (.string sg) := by have := hcl 0 _ rfl; simpa using this
      have cc1 : wR.cell? ⟨kb, i * 2 + 1, none⟩ = some (.iface ty (.pointer p)) := by have := hcl 1 _ rfl; simpa using this
      have kE := blk_new wR 276 #[.string sg, .iface ty (.pointer p)]
      have HI : Hid _ := And.intro hI (And.intro q2 hp1)
      clear hcl hGi IHi hrR hI q2 hp1 HK hvl
      go_upto_region 4 with (first | (refine wpList_storeNew rfl 276 _ _ rfl wR #[.string (strOfNums []), .nilIface] #[.string sg, .iface ty (.pointer p)] 276 rfl rfl sizeKd rfl rfl ?_))
      change Code.wp _ _ _ _ (wR.alloc (Obj.cells #[.string sg, .iface ty (.pointer p)] 276))
      generalize wR.alloc (Obj.cells #[.string sg, .iface ty (.pointer p)] 276) = W2 at *
      generalize heb : wR.heap.size = eb at *
      have c3 : W2.cell? ⟨eb, 1, none⟩ = some (.iface ty (.pointer p)) := Blk.cell kE 1
      clear kE cc0 cc1
      go_wp2_with fail
      refine hcall.mono ?_
      rintro e w8 ⟨a8, c8, vals8, rfl, hQ8⟩
      have h8 := HI.out.1.trans (by rw [heb]; exact HI.out.2.1) hQ8
      rw [← HI.out.2.2] at h8
      have FIN : Hid _ := h8
      clear hcall hQ8 h8
      go_wp2_with fail
      go_roundw
      case rel => exact ⟨i + 1, a8, c8, vals ++ vals8, by rw [List.length_append, Nat.add_assoc], by go_num, by omega, FIN.out⟩
      case measure => simp [intOf]; omega
    · have hie : i = L.length := by omega
      have hnl : ¬ ((i : Int) < (us.length : Int)) := by omega
      have hown := hI.own
      have hNV : NVal wR (inI b) id := ⟨b, _, Or.inr ⟨rfl, HK.out.1.keepT (hI.keep _ (by decide))⟩⟩
      have HI : Hid (NsQ B w a n xs (pgNL L) a' c' vals wR ∧ NVal wR (inI b) id) := ⟨by have := hI; rw [hie, List.take_length] at this; exact this, hNV⟩
      have hp3 := pgNL_le L i
      have hvl2 : n + vals.length ≤ 1048576 := by omega
      clear hI hNV HK hvl
      go_wp2_with (at_builtin; refine wpList_app1L rfl _ _ elNo rfl B a' (n + vals.length) c' (xs ++ vals) rfl hown (inI b) rfl rfl hvl2 (by omega) (by omega) ?_)
      intro g8 c8 w8 o8 b8 gr8 at8
      have FIN : Hid _ := HI.out.1.one HI.out.2 (by rw [List.append_assoc]; exact o8) gr8 at8
      clear o8 b8 gr8 at8 hown
      go_wp2_with fail
      go_ret
      exact ⟨_, _, vals ++ [inI b], by rw [List.length_append]; rfl, FIN.out⟩
theorem nodes_all : ∀ t : Tr, (isT t = true → full t true → NsC t) ∧ (isT t = false → ∀ b, full t b → ∀ i, i < (klist t).length → NsC ((klist t).getD i t0).2)
  | .leaf id es => ⟨fun _ _ => nodes_leaf id es, fun h => by simp [isT] at h⟩
  | .node id ks => ⟨fun _ hf => by
      rw [full] at hf
      have hT : isT ks = false := by obtain ⟨s, t, r, rfl⟩ := hf.1; rfl
      exact nodes_inner id ks hT true hf.2 ((nodes_all ks).2 hT true hf.2), fun h => by simp [isT] at h⟩
  | .nil => ⟨fun h => by simp [isT] at h, fun _ _ _ i hi => by simp [klist] at hi⟩
  | .cons s t ks => ⟨fun h => by simp [isT] at h, fun _ b hf i hi => by
      rw [full] at hf
      cases i with
      | zero => exact (nodes_all t).1 hf.2.1 hf.2.2.2.1
      | succ i => exact (nodes_all ks).2 hf.2.2.1 false hf.2.2.2.2 i (by simpa [klist] using hi)⟩
end Go.Proofs.YtnohmedccbogkaaGreatDoor

