import Derived.Test.YtamifpbhmecloaaFD30
import Derived.Test.YtamifpbhmecloaaFD19
import Derived.Test.YtamifpbhmecloaaFD0
/- The writes to a sector, in the specification. -/
namespace Go.Proofs.Ytamifpbhmecloaa
open Go.RowKit
set_option linter.unusedVariables false

/-- The slices of the writes to a place. -/
def wrV (pA : Nat → Option Addr) (pN pC : Nat → Nat) (l : List Nat) : List Value := l.map fun q => .slice (pA q) (pN q) (pC q)
theorem wrV_snoc (pA : Nat → Option Addr) (pN pC : Nat → Nat) (l : List Nat) (m : Nat) : wrV pA pN pC l ++ [.slice (pA m) (pN m) (pC m)] = wrV pA pN pC (l ++ [m]) := by simp [wrV]

set_option maxRecDepth 100000 in
set_option maxHeartbeats 1000000 in
theorem l1Writes_core (sa pa : Option Addr) (sc pc : Nat) (pA : Nat → Option Addr) (pN pC : Nat → Nat) (K : DK) (t : Nat) (w : World) (hp : RRecs 1 w pa K.m pc (aI K) pA pN pC K.D) (hm : K.m ≤ 5000) (ht : t < 4096) :
    Calls Try.prog 60 #[.agg #[.slice sa K.n sc, .slice pa K.m pc], .int .i64 (t : Int)] w fun e w' => ∃ a c, e = .returned (.slice a (cnt K t) c) ∧ Below w.heap.size w w' ∧ w'.ownsRow w.heap.size 22 1 (.slice a (cnt K t) c) (cnt K t) (wrV pA pN pC (wIdx K.At (t : Int) K.m)) := by
  obtain ⟨i, hi, hz0, hz1, hz2⟩ := info_parts infoB
  have Q0 : Hid _ := (Below.refl w.heap.size w).alloc (Nat.le_refl _) (.cells #[.slice sa K.n sc, .slice pa K.m pc] 26)
  have o0 := World.ownsRow_lit (base := w.heap.size + 1) (e := 22) (size := 1) (w.alloc (.cells #[.slice sa K.n sc, .slice pa K.m pc] 26)) #[] 0 (by simp) (Nat.zero_le _) (by simp)
  rw [World.size_alloc] at o0
  have q1 : Below (w.heap.size + 1) (w.alloc (.cells #[.slice sa K.n sc, .slice pa K.m pc] 26)) ((w.alloc (.cells #[.slice sa K.n sc, .slice pa K.m pc] 26)).alloc (.cells #[] 22)) := (Below.refl _ _).alloc (by simp) _
  have HS : Hid _ := And.intro o0 q1
  clear o0 q1
  go_enter Try.func60, Try.ntmps60
  go_wp2
  go_loopw [5, 6] (fun u i wr => ∃ (j : Nat) (a : Option Addr) (c : Nat), j ≤ K.m ∧ i = .int .i64 j ∧ u = .slice a (wIdx K.At (t : Int) j).length c ∧ Below (w.heap.size + 1) (w.alloc (.cells #[.slice sa K.n sc, .slice pa K.m pc] 26)) wr ∧ wr.ownsRow (w.heap.size + 1) 22 1 (.slice a (wIdx K.At (t : Int) j).length c) (wIdx K.At (t : Int) j).length (wrV pA pN pC (wIdx K.At (t : Int) j))) (fun _ i _ => K.m - (intOf i).toNat)
  case atStart => exact ⟨0, some ⟨w.heap.size + 1, 0, none⟩, 0, Nat.zero_le _, rfl, rfl, HS.out.2, HS.out.1⟩
  case round =>
    clear HS
    obtain ⟨j, a, c, hj, rfl, rfl, hb, ho⟩ := hrel
    have c1 : wr.cell? ⟨w.heap.size, 1, none⟩ = some (.slice pa K.m pc) := by rw [hb.cell (p := ⟨w.heap.size, 1, none⟩) (Nat.lt_succ_self _)]; simp
    have D1 : Hid (Below w.heap.size w wr) := Q0.out.trans (hb.mono (Nat.le_succ _))
    have hwl := wIdx_len (At := K.At) (t := (t : Int)) j
    by_cases hlt : j < K.m
    · obtain ⟨b2, off2, rfl, hbl2, hc2⟩ := hp.at_ (by omega)
      have k0 : wr.cell? ⟨b2, off2 + j * 2, none⟩ = some (.int .i64 (K.At j)) := by rw [D1.out.cell (p := ⟨b2, off2 + j * 2, none⟩) hbl2]; exact (hc2 j hlt).1 0 (by omega)
      have k1 : wr.cell? ⟨b2, off2 + j * 2 + 1, none⟩ = some (.slice (pA j) (pN j) (pC j)) := by rw [D1.out.cell (p := ⟨b2, off2 + j * 2 + 1, none⟩) hbl2]; exact (hc2 j hlt).2
      have hi1 : (0 : Int) ≤ (j : Int) := by omega
      have hi2 : (j : Int) < (K.m : Int) := by omega
      by_cases hat : K.At j = (t : Int)
      · have hq : (K.At j == (t : Int)) = true := by simp [hat]
        have HE : Hid (wIdx K.At (t : Int) (j + 1) = wIdx K.At (t : Int) j ++ [j]) := wIdx_hit hat
        generalize hW : wIdx K.At (t : Int) j = wi at *
        have HB : Hid _ := hb
        have HO : Hid _ := ho
        have hz := hb.size
        rw [World.size_alloc] at hz
        have hcell : ∀ jj u, [Value.slice (pA j) (pN j) (pC j)][jj]? = some u → (wr.alloc (.cells #[.slice (pA j) (pN j) (pC j)] 22)).cell? ((⟨wr.heap.size, 0, none⟩ : Addr).add jj) = some u := fun jj u hj => cell_one_new _ _ _ jj u hj
        have HC : Hid _ := hcell
        clear hb ho hat hcell
        go_wp2_with (at_builtin; refine wpList_append_own _ rfl _ _ 23 rfl (w.heap.size + 1) 22 i _ 1 24 Try.underlying23 hi hz0 hz1 hz2 rfl (by omega) _ wi.length (wrV pA pN pC wi) rfl ?own ⟨wr.heap.size, 0, none⟩ 1 1 [.slice (pA j) (pN j) (pC j)] rfl ?len ?cells ?one ?l1 ?l2 ?B ?_)
        case own => exact World.ownsRow.alloc HO.out _
        case len => rfl
        case cells => exact HC.out
        case one => intro u hu; simp at hu; subst hu; rfl
        case l1 => unfold maxLen; omega
        case l2 => omega
        case B => simp; omega
        intro v1 w1 o1 g1 _
        have hv : ∃ a' c', v1 = .slice a' (wi.length + 1) c' := by
          rcases o1.2 with ⟨_, h0⟩ | ⟨g, cap, cur, e, _⟩
          · omega
          · exact ⟨_, cap, e⟩
        obtain ⟨a', c', hv1⟩ := hv
        rw [hv1] at o1
        rw [hv1]
        have b1 : Below (w.heap.size + 1) (w.alloc (.cells #[.slice sa K.n sc, .slice (some ⟨b2, off2, none⟩) K.m pc] 26)) w1 := (HB.out.alloc hz (.cells #[.slice (pA j) (pN j) (pC j)] 22)).grown g1 (by simp; omega) (fun k hk => (World.ownsRow.lt HO.out k hk).1)
        have O1 : Hid _ := o1
        have B1 : Hid _ := b1
        clear o1 g1 hv1 b1
        go_wp2
        go_roundw
        case rel => exact ⟨j + 1, a', c', by omega, by go_num, by rw [HE.out]; simp, B1.out, by rw [HE.out, ← wrV_snoc, List.length_append]; exact O1.out⟩
        case measure => simp [intOf]; omega
      · have hq : (K.At j == (t : Int)) = false := by simp [hat]
        have HE : Hid (wIdx K.At (t : Int) (j + 1) = wIdx K.At (t : Int) j) := wIdx_miss hat
        have HB : Hid _ := hb
        have HO : Hid _ := ho
        clear hb ho hat
        go_wp2
        go_roundw
        case rel => exact ⟨j + 1, a, c, by omega, by go_num, by rw [HE.out], HB.out, by rw [HE.out]; exact HO.out⟩
        case measure => simp [intOf]; omega
    · have e : j = K.m := by omega
      subst e
      have OO : Hid _ := ho
      clear ho
      go_wp2
      go_ret
      exact ⟨a, c, rfl, D1.out, World.ownsRow.mono OO.out (Nat.le_succ _)⟩
end Go.Proofs.Ytamifpbhmecloaa

/- Rows of numbers. -/
namespace Go.Proofs.Ytamifpbhmecloaa
open Go.RowKit
set_option linter.unusedVariables false

theorem infoI : (Try.prog.info? 3).map (fun i => (i.zero, i.size, i.bytes)) = some (some (.int .i64 0), 1, 8) := by kernel_rfl

/-- The cells of a list of numbers. -/
def oi (l : List Int) : List Value := l.map (Value.int .i64)
theorem oi_getElem? (l : List Int) (j : Nat) (h : j < l.length) : (oi l)[j]? = some (.int .i64 (l.getD j 0)) := by simp [oi, List.getD, h]
theorem oi_oneCell (l : List Int) : ∀ u ∈ oi l, u.oneCell' = true := ints_oneCell .i64 l
theorem oi_set (l : List Int) (i : Nat) (x : Int) : (oi l).set i (.int .i64 x) = oi (l.set i x) := by simp [oi, List.map_set]

/-- The slice is a row of numbers of the call's own. -/
def OwnI (B : Nat) (w : World) (a : Option Addr) (n c : Nat) (l : List Int) : Prop := w.ownsRow B 3 1 (.slice a n c) n (oi l)
theorem OwnI.len {B : Nat} {w : World} {a : Option Addr} {n c : Nat} {l : List Int} (h : OwnI B w a n c l) : l.length = n := by
  have := h.1; simpa [oi] using this
theorem OwnI.below {B : Nat} {w w' : World} {a : Option Addr} {n c : Nat} {l : List Int} (h : OwnI B w a n c l) (hb : Below w.heap.size w w') : OwnI B w' a n c l := own_below h hb
theorem OwnI.mono {B B' : Nat} {w : World} {a : Option Addr} {n c : Nat} {l : List Int} (h : OwnI B w a n c l) (hB : B' ≤ B) : OwnI B' w a n c l := World.ownsRow.mono h hB
theorem OwnI.addr {B : Nat} {w : World} {a : Option Addr} {n c : Nat} {l : List Int} (h : OwnI B w a n c l) (hn : 0 < n) : ∃ g, a = some ⟨g, 0, none⟩ ∧ B ≤ g ∧ g < w.heap.size := by
  rcases h.2 with ⟨_, h0⟩ | ⟨g, cap, cur, e, hg, hh, _⟩
  · omega
  · cases e
    exact ⟨g, rfl, hg, (Array.getElem?_eq_some_iff.1 hh).1⟩
theorem OwnI.cell {B g : Nat} {w : World} {n c : Nat} {l : List Int} (h : OwnI B w (some ⟨g, 0, none⟩) n c l) (i : Nat) (hi : i < n) : w.cell? ⟨g, i, none⟩ = some (.int .i64 (l.getD i 0)) := by
  rw [World.ownsRow.cellAt h i (by omega)]
  exact oi_getElem? l i (by have := h.len; omega)
theorem OwnI.le {B : Nat} {w : World} {a : Option Addr} {n c : Nat} {l : List Int} (h : OwnI B w a n c l) : n ≤ c := by
  rcases h.2 with ⟨e, h0⟩ | ⟨g, cap, cur, e, hg, hh, h1, _⟩
  · cases e; omega
  · cases e; exact h1

theorem ownI_lit (w : World) (cs : Array Value) (l : List Int) (n : Nat) (hcs : cs.toList = oi l) (hn : l.length = n) (h : n ≤ 1048576) (B : Nat) (hB : B ≤ w.heap.size) : OwnI B (w.alloc (.cells cs 3)) (some ⟨w.heap.size, 0, none⟩) n n l := by
  have := World.ownsRow_lit (base := B) (e := 3) (size := 1) w cs n hB (by unfold maxLen; omega) (by rw [← Array.length_toList, hcs]; simp [oi]; omega)
  unfold OwnI
  rw [← hcs]
  exact this

/-- 'append(s, x)', s a row of numbers of the call's own, the number in a row of its own. -/
theorem wp_appI {w1 : World} {o : Oper} {act : Act} {KK : Act → World → Prop} {Q : Exit → Act → World → Prop} (s x : Operand)
    (ho : o.op = .call { callee := .builtin .append, args := #[s, x], argTypes := #[92, 92] })
    (B : Nat) (a : Option Addr) (n c : Nat) (xs : List Int) (hs : act.eval s = .slice a n c) (hown : OwnI B w1 a n c xs) (z : Int)
    (hx : act.eval x = .slice (some ⟨w1.heap.size, 0, none⟩) 1 1) (hn : n ≤ 1048576) (hB : B ≤ w1.heap.size)
    (h : ∀ a' c' w', OwnI B w' a' (n + 1) c' (xs ++ [z]) → Below B w1 w' → KK (act.put o.dst (.slice a' (n + 1) c')) w') :
    o.wp Try.prog act (w1.alloc (.cells #[.int .i64 z] 3)) KK Q := by
  obtain ⟨i, hi, hz0, hz1, hz2⟩ := info_parts infoI
  have q0 : Below w1.heap.size w1 (w1.alloc (.cells #[.int .i64 z] 3)) := (Below.refl _ _).alloc (Nat.le_refl _) _
  refine wp_append_own _ s x _ ho B 3 i _ 1 8 Try.underlying92 hi hz0 hz1 hz2 rfl (by omega) _ n (oi xs) hs (own_below hown q0) ⟨w1.heap.size, 0, none⟩ 1 1 (oi [z]) hx (by simp [oi]) ?_ (oi_oneCell _) (by unfold maxLen; omega) (by omega) (by simp; omega) ?_
  · intro j u hj
    rw [Addr.add_lit, Nat.zero_add]
    have : (w1.alloc (.cells #[.int .i64 z] 3)).cell? ⟨w1.heap.size, j, none⟩ = (#[Value.int .i64 z] : Array Value)[j]? := cell_of_row _ w1.heap.size j _ 3 (0, 0) (heap_alloc_new w1 _)
    rw [this, ← hj]
    simp [oi]
  · intro v' w' ho' hg' _
    have e : oi xs ++ oi [z] = oi (xs ++ [z]) := by simp [oi]
    rw [e] at ho'
    have hv : ∃ a' c', v' = .slice a' (n + 1) c' := by
      rcases ho'.2 with ⟨rfl, h0⟩ | ⟨g, cap, cur, rfl, _⟩
      · omega
      · exact ⟨_, _, rfl⟩
    obtain ⟨a', c', rfl⟩ := hv
    exact h a' c' w' ho' ((q0.mono hB).trans ((Below.refl _ _).grown hg' (by simp; omega) (fun k hk => (World.ownsRow.lt (own_below hown q0) k hk).1)))
theorem step_appI {w1 : World} {ops : Array Oper} {o : Oper} {act : Act} {KK : Act → World → Prop} {Q : Exit → Act → World → Prop} {E : Prop} (hgd : o.guard = none) (s x : Operand)
    (ho : o.op = .call { callee := .builtin .append, args := #[s, x], argTypes := #[92, 92] })
    (B : Nat) (a : Option Addr) (n c : Nat) (xs : List Int) (hs : act.eval s = .slice a n c) (hown : OwnI B w1 a n c xs) (z : Int)
    (hx : act.eval x = .slice (some ⟨w1.heap.size, 0, none⟩) 1 1) (hn : n ≤ 1048576) (hB : B ≤ w1.heap.size)
    (h : ∀ a' c' w', OwnI B w' a' (n + 1) c' (xs ++ [z]) → Below B w1 w' → KK (act.put o.dst (.slice a' (n + 1) c')) w') :
    if Region.wanted o (yielded ops act.tmps) = true then Oper.wp Try.prog o act (w1.alloc (.cells #[.int .i64 z] 3)) KK Q else E := by
  rw [if_pos (show Region.wanted o (yielded ops act.tmps) = true by simp [Region.wanted, hgd])]
  exact wp_appI s x ho B a n c xs hs hown z hx hn hB h
theorem wpList_appI {w1 : World} {ops : Array Oper} {rest : List Oper} {o : Oper} {act : Act} {Q : Exit → Act → World → Prop} (hgd : o.guard = none) (s x : Operand)
    (ho : o.op = .call { callee := .builtin .append, args := #[s, x], argTypes := #[92, 92] })
    (B : Nat) (a : Option Addr) (n c : Nat) (xs : List Int) (hs : act.eval s = .slice a n c) (hown : OwnI B w1 a n c xs) (z : Int)
    (hx : act.eval x = .slice (some ⟨w1.heap.size, 0, none⟩) 1 1) (hn : n ≤ 1048576) (hB : B ≤ w1.heap.size)
    (h : ∀ a' c' w', OwnI B w' a' (n + 1) c' (xs ++ [z]) → Below B w1 w' → wpList Try.prog ops Q rest (act.put o.dst (.slice a' (n + 1) c')) w') : wpList Try.prog ops Q (o :: rest) act (w1.alloc (.cells #[.int .i64 z] 3)) :=
  wpList_plain hgd fun _ hK => wp_appI s x ho B a n c xs hs hown z hx hn hB fun a' c' w' h2 h3 => hK _ _ (h a' c' w' h2 h3)
end Go.Proofs.Ytamifpbhmecloaa

