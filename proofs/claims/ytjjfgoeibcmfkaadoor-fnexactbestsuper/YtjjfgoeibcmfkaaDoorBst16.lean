import Derived.Test.YtjjfgoeibcmfkaaDoorBst15
import Derived.Deep.RegionLaw
import Derived.Deep.DeepCutAuto
import Derived.Test.YtjjfgoeibcmfkaaDoorBst11
namespace Go.Proofs.YtjjfgoeibcmfkaaDoor
open Go.RowKit

def supBody (gen root used free : Int) : List Int := num gen 8 ++ num root 4 ++ (num used 4 ++ num free 4)
theorem supBody_len (gen root used free : Int) : (supBody gen root used free).length = 20 := by simp [supBody, num_len]
theorem supBody_isB (gen root used free : Int) : IsB (supBody gen root used free) := isB_append (isB_append (num_isB _ _) (num_isB _ _)) (isB_append (num_isB _ _) (num_isB _ _))

/-- 'append(s, x...)' as one step of a region that draws its order. -/
theorem step_app {w : World} {ops : Array Oper} {o : Oper} {act : Act} {K : Act → World → Prop} {Q : Exit → Act → World → Prop} {E : Prop} (hgd : o.guard = none) (s x : Operand)
    (ho : o.op = .call { callee := .builtin .append, args := #[s, x], argTypes := #[38, 38] })
    (B : Nat) (a : Option Addr) (n c : Nat) (xs : List Int) (hs : act.eval s = .slice a n c) (hown : Own B w a n c xs)
    (g m d : Nat) (l : List Int) (hx : act.eval x = .slice (some ⟨g, 0, none⟩) m d) (hl : Bs w (some ⟨g, 0, none⟩) m d l) (hlen : n + m ≤ 140737488355328) (hB : B ≤ w.heap.size)
    (h : ∀ a' c' w', Own B w' a' (n + m) c' (xs ++ l) → Below B w w' → K (act.put o.dst (.slice a' (n + m) c')) w') :
    if Region.wanted o (yielded ops act.tmps) = true then Oper.wp Tryd.prog o act w K Q else E := by
  have hw : Region.wanted o (yielded ops act.tmps) = true := by simp [Region.wanted, hgd]
  rw [if_pos hw]
  obtain ⟨i, hi, hz0, hz1, hz2⟩ := info_parts info5
  refine wp_append_own w s x _ ho B 5 i _ 1 1 Tryd.underlying38 hi hz0 hz1 hz2 rfl (by omega) _ n (ob xs) hs hown ⟨g, 0, none⟩ m d (ob l) hx (by simp [ob, hl.len_eq]) ?_ (ob_oneCell l) (by unfold maxLen; omega) (by omega) hB ?_
  · intro j u hj
    have hjl : j < l.length := by have := (List.getElem?_eq_some_iff.1 hj).1; simpa [ob] using this
    obtain ⟨b1, off, e, _, hc⟩ := hl.at_ (by have := hl.len_eq; omega)
    cases e
    rw [ob_getElem? l j hjl] at hj
    rw [Addr.add_lit, hc j (by have := hl.len_eq; omega)]
    exact hj
  · intro v' w' ho' hg' _
    have e : ob xs ++ ob l = ob (xs ++ l) := by simp [ob]
    rw [e] at ho'
    have hv : ∃ a' c', v' = .slice a' (n + m) c' := by
      rcases ho'.2 with ⟨rfl, h0⟩ | ⟨g, cap, cur, rfl, _⟩
      · exact ⟨none, 0, by rw [h0]⟩
      · exact ⟨_, _, rfl⟩
    obtain ⟨a', c', rfl⟩ := hv
    exact h a' c' w' ho' ((Below.refl _ _).grown hg' hB (fun k hk => (hown.lt k hk).1))

theorem l2Num_some (v : Int) (k : Nat) (w : World) (h0 : 0 ≤ v) (h1 : v ≤ 9223372036854775807) (hk : k ≤ 8) (hk0 : 0 < k) :
    Calls Tryd.prog 70 #[.int .i64 v, .int .i64 k] w fun e w' => ∃ g c, e = .returned (.slice (some ⟨g, 0, none⟩) k c) ∧ Below w.heap.size w w' ∧ Own w.heap.size w' (some ⟨g, 0, none⟩) k c (num v k) := by
  refine (l2Num_calls v k w h0 h1 hk).mono ?_
  rintro e w' ⟨a, c, rfl, b, o⟩
  obtain ⟨g, rfl, _⟩ := (show ∃ g, a = some ⟨g, 0, none⟩ ∧ w.heap.size ≤ g by
    rcases o.2 with ⟨e, h0⟩ | ⟨g, cap, cur, e, hg, _⟩
    · omega
    · cases e
      exact ⟨g, rfl, hg⟩)
  exact ⟨g, c, rfl, b, o⟩

theorem undrew {B : Nat} {w w' : World} (h : Below B w.drew w') : Below B w w' := ⟨h.os, h.tape, h.output, h.size, h.block⟩

/-- The cells of a box of four. -/
theorem box4 {B : Nat} {w wx w1 : World} {v0 v1 v2 v3 : Value} {t : TypeId} (b : Below B wx w1) (hB : w.heap.size < B) (h0 : wx.heap = (w.alloc (.cells #[v0, v1, v2, v3] t)).heap) :
    w1.cell? ⟨w.heap.size, 0, none⟩ = some v0 ∧ w1.cell? ⟨w.heap.size, 1, none⟩ = some v1 ∧ w1.cell? ⟨w.heap.size, 2, none⟩ = some v2 ∧ w1.cell? ⟨w.heap.size, 3, none⟩ = some v3 := by
  have key : ∀ o, w1.cell? ⟨w.heap.size, o, none⟩ = (w.alloc (.cells #[v0, v1, v2, v3] t)).cell? ⟨w.heap.size, o, none⟩ := fun o => by
    rw [b.cell (p := ⟨w.heap.size, o, none⟩) hB]
    exact World.cell?_of_block (by rw [h0])
  refine ⟨?_, ?_, ?_, ?_⟩ <;> rw [key] <;> simp
/-- .. that was kept. -/
theorem keep4 {B : Nat} {w w1 w2 : World} {v0 v1 v2 v3 : Value} (k : w1.cell? ⟨w.heap.size, 0, none⟩ = some v0 ∧ w1.cell? ⟨w.heap.size, 1, none⟩ = some v1 ∧ w1.cell? ⟨w.heap.size, 2, none⟩ = some v2 ∧ w1.cell? ⟨w.heap.size, 3, none⟩ = some v3) (b : Below B w1 w2) (hB : w.heap.size < B) :
    w2.cell? ⟨w.heap.size, 0, none⟩ = some v0 ∧ w2.cell? ⟨w.heap.size, 1, none⟩ = some v1 ∧ w2.cell? ⟨w.heap.size, 2, none⟩ = some v2 ∧ w2.cell? ⟨w.heap.size, 3, none⟩ = some v3 := by
  refine ⟨?_, ?_, ?_, ?_⟩ <;> rw [b.cell (p := ⟨w.heap.size, _, none⟩) hB]
  · exact k.1
  · exact k.2.1
  · exact k.2.2.1
  · exact k.2.2.2

set_option maxRecDepth 100000 in
set_option maxHeartbeats 4000000 in
theorem l2SuperBody_calls (gen root used free : Int) (w : World) (g0 : 0 ≤ gen) (g1 : gen ≤ 1000000000000) (r0 : 0 ≤ root) (r1 : root ≤ 1024) (u0 : 0 ≤ used) (u1 : used ≤ 1024) (f0 : 0 ≤ free) (f1 : free ≤ 1024) :
    Calls Tryd.prog 42 #[.agg #[.int .i64 gen, .int .i64 root, .int .i64 used, .int .i64 free]] w fun e w' => ∃ a c, e = .returned (.slice a 20 c) ∧ Below w.heap.size w w' ∧ Own w.heap.size w' a 20 c (supBody gen root used free) := by
  go_enter Tryd.func42, Tryd.ntmps42
  go_wp2_with fail
  go_cut [3] (fun s3 wx => ∃ a3 c3, s3 = .slice a3 12 c3 ∧ Below w.heap.size w wx ∧ w.heap.size + 1 ≤ wx.heap.size ∧ Own (w.heap.size + 1) wx a3 12 c3 (num gen 8 ++ num root 4) ∧ wx.cell? ⟨w.heap.size, 0, none⟩ = some (.int .i64 gen) ∧ wx.cell? ⟨w.heap.size, 1, none⟩ = some (.int .i64 root) ∧ wx.cell? ⟨w.heap.size, 2, none⟩ = some (.int .i64 used) ∧ wx.cell? ⟨w.heap.size, 3, none⟩ = some (.int .i64 free))
  case first =>
    go_region_law (first
      | (refine step_app rfl _ _ rfl (w.heap.size + 1) _ 8 c1 (num gen 8) rfl (o1.below b2) g2 4 c2 (num root 4) rfl (o2.bs (num_isB _ _)) (by omega) (by omega) ?_; intro a3 c3 w3 o3 b3)
      | (rw [if_pos (show Region.wanted _ _ = true from rfl)]; go_wp2_with (first
        | (go_at_call_of 70 gen; refine (l2Num_some gen 8 _ g0 (by omega) (by omega) (by omega)).mono ?_; rintro e w1 ⟨g1, c1, rfl, b1, o1⟩; simp only [World.size_drew, World.size_alloc] at b1 o1; obtain ⟨k0, k1, k2, k3⟩ := box4 (w := w) (v0 := .int .i64 gen) (v1 := .int .i64 root) (v2 := .int .i64 used) (v3 := .int .i64 free) (t := 28) b1 (Nat.lt_succ_self _) rfl; have z1 := b1.size; simp only [World.size_drew, World.size_alloc] at z1)
        | (go_at_call_of 70 root; refine (l2Num_some root 4 _ r0 (by omega) (by omega) (by omega)).mono ?_; rintro e w2 ⟨g2, c2, rfl, b2, o2⟩; have z2 := b2.size))))
    all_goals
      have kk := keep4 (w := w) (keep4 (w := w) ⟨k0, k1, k2, k3⟩ b2 (by omega)) b3 (by omega)
      have q3 : Below w.heap.size w w3 := (((Below.refl _ _).alloc (Nat.le_refl _) _).drew.trans (b1.mono (Nat.le_succ _))).trans ((b2.mono (by omega)).trans (b3.mono (Nat.le_succ _)))
      have z3 : w.heap.size + 1 ≤ w3.heap.size := by have := b3.size; omega
      have KK : Hid _ := kk
      clear b1 b2 b3 o1 o2 z1 z2 k0 k1 k2 k3 kk
      go_wp2_with fail
      go_meet
      exact ⟨a3, c3, rfl, q3, z3, o3, KK.out⟩
  case rest =>
  obtain ⟨a3, c3, rfl, q3, z3, o3, k0, k1, k2, k3⟩ := hcut
  have tok1 : True := trivial
  go_wp2_with fail
  go_region_law (first
    | (have _t := tok1; refine step_app rfl _ _ rfl (w.heap.size + 1) a3 12 c3 (num gen 8 ++ num root 4) rfl ?_ g4 4 c4 (num used 4) rfl ?_ ?_ ?_ ?_; exact o3.below b4; exact o4.bs (num_isB _ _); omega; omega; intro a5 c5 w5 o5 b5; have z5 := b5.size; have o5h : Own (w.heap.size + 1) w5 a5 16 c5 (num gen 8 ++ num root 4 ++ num used 4) := (by simpa using o5); obtain ⟨t0, t1, t2, t3⟩ := keep4 (w := w) ⟨p0, p1, p2, p3⟩ b5 (by omega); clear tok1 _t)
    | (have _u := b6; refine step_app rfl _ _ rfl (w.heap.size + 1) a5 16 c5 (num gen 8 ++ num root 4 ++ num used 4) rfl ?_ g6 4 c6 (num free 4) rfl ?_ ?_ ?_ ?_; exact o5h.below b6; exact o6.bs (num_isB _ _); omega; omega; intro a7 c7 w7 o7 b7; clear _u)
    | (rw [if_pos (show Region.wanted _ _ = true from rfl)]; go_wp2_with (first
      | (go_at_call_of 70 used; refine (l2Num_some used 4 _ u0 (by omega) (by omega) (by omega)).mono ?_; rintro e w4 ⟨g4, c4, rfl, b4, o4⟩; simp only [World.size_drew] at b4 o4; replace b4 := undrew b4; have z4 := b4.size; obtain ⟨p0, p1, p2, p3⟩ := keep4 (w := w) ⟨k0, k1, k2, k3⟩ b4 (by omega))
      | (go_at_call_of 70 free; refine (l2Num_some free 4 _ f0 (by omega) (by omega) (by omega)).mono ?_; rintro e w6 ⟨g6, c6, rfl, b6, o6⟩; have z6 := b6.size))))
  all_goals
    have q7 : Below w.heap.size w w7 := q3.trans (((b4.mono (by omega)).trans (b5.mono (Nat.le_succ _))).trans ((b6.mono (by omega)).trans (b7.mono (Nat.le_succ _))))
    have o7h : Own w.heap.size w7 a7 20 c7 (supBody gen root used free) := by
      have := o7.mono (Nat.le_succ _)
      simpa [supBody] using this
    clear b4 b5 b6 b7 o7 o6 o5 o5h o4 o3 k0 k1 k2 k3 p0 p1 p2 p3 t0 t1 t2 t3 q3
    go_wp2
    go_ret
    exact ⟨a7, c7, rfl, q7, o7h⟩
end Go.Proofs.YtjjfgoeibcmfkaaDoor

/- Numbers of seven and of eight bytes. -/
namespace Go.Proofs.YtjjfgoeibcmfkaaDoor
open Go.RowKit
set_option linter.unusedVariables false

set_option maxHeartbeats 1000000 in
theorem l2Low7_calls (a : Option Addr) (n c : Nat) (l : List Int) (w : World) (h : Bs w a n c l) (hn : n ≤ 7) :
    Calls Tryd.prog 59 #[.slice a n c] w fun e w' => e = .returned (.int .i64 (low l)) ∧ w' = w := by
  have HB : Hid (∀ k, 0 < k → 0 ≤ low (l.drop k) ∧ low (l.drop k) ≤ 281474976710656) := fun k hk => by
    have h1 := low_bd (isB_drop h.byte k)
    have h2 : (l.drop k).length ≤ 6 := by rw [List.length_drop, h.len_eq]; omega
    have h3 := pow6 _ h2
    exact ⟨h1.1, by omega⟩
  have HE : Hid (low (l.drop n) = 0) := by
    have : l.drop n = [] := by rw [List.drop_eq_nil_iff, h.len_eq]; exact Nat.le_refl _
    show low (l.drop n) = 0
    rw [this]; rfl
  go_enter Tryd.func59, Tryd.ntmps59
  go_wp2
  go_loop [3, 4] (fun v i => ∃ j : Nat, j ≤ n ∧ i = .int .i64 ((j : Int) - 1) ∧ v = .int .i64 (low (l.drop j))) (fun _ i => (intOf i + 1).toNat)
  case atStart => exact ⟨n, Nat.le_refl _, rfl, by rw [HE.out]⟩
  case round =>
    obtain ⟨j, hj, rfl, rfl⟩ := hrel
    by_cases h0 : 0 < j
    · obtain ⟨b, off, rfl, hbl, hc⟩ := h.at_ (by omega)
      obtain ⟨i, rfl⟩ : ∃ i, j = i + 1 := ⟨j - 1, by omega⟩
      have hci := hc i (by omega)
      have hbi := h.byte i
      have LD : Hid _ := low_drop l i (by rw [h.len_eq]; omega)
      have hb1 := HB.out (i + 1) (by omega)
      have e1 : ((i + 1 : Nat) : Int) - 1 = (i : Int) := by omega
      rw [e1]
      have hi1 : (0 : Int) ≤ (i : Int) := by omega
      have hi2 : (i : Int) < (n : Int) := by omega
      generalize low (l.drop (i + 1)) = X at *
      generalize l.getD i 0 = y at *
      clear hc h
      go_wp2
      go_round
      case rel => exact ⟨i, by omega, by go_num, by rw [LD.out]; congr 1; omega⟩
      case measure => simp [intOf]
    · have e : j = 0 := by omega
      subst e
      go_wp2
      go_ret
      exact ⟨rfl, rfl⟩

theorem i64_or_nat2 (a b : Nat) (ha : a < 281474976710657) (hb : b < 256) : bits .or .i64 ((a : Int) * 256) (b : Int) = (a : Int) * 256 + b := by
  rw [show (a : Int) * 256 = ((a * 256 : Nat) : Int) by omega, show ((a * 256 : Nat) : Int) + (b : Int) = ((a * 256 + b : Nat) : Int) by omega]
  have e : a * 256 ||| b = a * 256 + b := by
    have := Nat.shiftLeft_add_eq_or_of_lt (i := 8) (b := b) (by omega) a
    rw [Nat.shiftLeft_eq] at this
    exact this.symm
  show IntKind.i64.wrap ((BitVec.ofInt 64 ((a * 256 : Nat) : Int) ||| BitVec.ofInt 64 (b : Int)).toNat : Int) = _
  rw [BitVec.toNat_or, ofInt_u64 (a * 256) (by omega), ofInt_u64 b (by omega), e]
  simp [IntKind.wrap, IntKind.bits, IntKind.signed]
  omega

theorem i64_or_wrap (x y : Nat) (hx : x < 72057594037927936) (hy : y < 256) : bits .or .i64 (IntKind.i64.wrap ((x : Int) * 256)) (y : Int) = IntKind.i64.wrap ((x : Int) * 256 + y) := by
  have e : x * 256 ||| y = x * 256 + y := by
    have := Nat.shiftLeft_add_eq_or_of_lt (i := 8) (b := y) (by omega) x
    rw [Nat.shiftLeft_eq] at this
    exact this.symm
  have e1 : (BitVec.ofInt 64 (IntKind.i64.wrap ((x : Int) * 256))).toNat = x * 256 := by
    simp [IntKind.wrap, IntKind.bits, IntKind.signed, BitVec.toNat_ofInt]
    omega
  show IntKind.i64.wrap ((BitVec.ofInt 64 (IntKind.i64.wrap ((x : Int) * 256)) ||| BitVec.ofInt 64 (y : Int)).toNat : Int) = _
  rw [BitVec.toNat_or, e1, ofInt_u64 y (by omega), e]
  congr 1

theorem wrap_is (z : Int) : IntKind.i64.wrap z = wrap64 z := by
  unfold wrap64
  simp [IntKind.wrap, IntKind.bits, IntKind.signed]
  omega

/-- What numberOf says of eight bytes. -/
def num8 (l : List Int) : Int := IntKind.i64.wrap (low (l.drop 1) * 256 + l.getD 0 0)
theorem num8_is {l : List Int} (hB : IsB l) (hl : l.length = 8) : (l.getD 7 0 = 0 → num8 l = low (l.take 7)) ∧ (l.getD 7 0 ≠ 0 → num8 l < 1 ∨ 1000000000000 < num8 l) := by
  obtain ⟨x0, x1, x2, x3, x4, x5, x6, x7, rfl⟩ : ∃ x0 x1 x2 x3 x4 x5 x6 x7, l = [x0, x1, x2, x3, x4, x5, x6, x7] := by
    match l, hl with
    | [x0, x1, x2, x3, x4, x5, x6, x7], _ => exact ⟨x0, x1, x2, x3, x4, x5, x6, x7, rfl⟩
  have b0 := hB 0
  have b1 := hB 1
  have b2 := hB 2
  have b3 := hB 3
  have b4 := hB 4
  have b5 := hB 5
  have b6 := hB 6
  have b7 := hB 7
  simp at b0 b1 b2 b3 b4 b5 b6 b7
  have e : num8 [x0, x1, x2, x3, x4, x5, x6, x7] = IntKind.i64.wrap ((x1 + 256 * (x2 + 256 * (x3 + 256 * (x4 + 256 * (x5 + 256 * (x6 + 256 * x7)))))) * 256 + x0) := by simp [num8, low]
  rw [e]
  constructor
  · intro h7
    simp at h7
    subst h7
    simp [low, IntKind.wrap, IntKind.bits, IntKind.signed]
    omega
  · intro h7
    simp at h7
    simp [IntKind.wrap, IntKind.bits, IntKind.signed]
    omega

theorem pow7 (m : Nat) (h : m ≤ 7) : (256 : Int) ^ m ≤ 72057594037927936 := by
  have k : ∀ m : Fin 8, (256 : Int) ^ (m : Nat) ≤ 72057594037927936 := by decide
  exact k ⟨m, by omega⟩

set_option maxHeartbeats 1000000 in
theorem numberOf8_calls (a : Option Addr) (c : Nat) (l : List Int) (w : World) (h : Bs w a 8 c l) :
    Calls Tryd.prog 62 #[.slice a 8 c] w fun e w' => e = .returned (.int .i64 (num8 l)) ∧ w' = w := by
  have HB : Hid (∀ k, 0 < k → 0 ≤ low (l.drop k) ∧ low (l.drop k) < 72057594037927936) := fun k hk => by
    have h1 := low_bd (isB_drop h.byte k)
    have h2 : (l.drop k).length ≤ 7 := by rw [List.length_drop, h.len_eq]; omega
    have h3 := pow7 _ h2
    exact ⟨h1.1, by omega⟩
  have HB2 : Hid (∀ k, 1 < k → low (l.drop k) < 281474976710656 + 1) := fun k hk => by
    have h1 := low_bd (isB_drop h.byte k)
    have h2 : (l.drop k).length ≤ 6 := by rw [List.length_drop, h.len_eq]; omega
    have h3 := pow6 _ h2
    omega
  have HE : Hid (low (l.drop 8) = 0) := by
    have : l.drop 8 = [] := by rw [List.drop_eq_nil_iff, h.len_eq]; exact Nat.le_refl _
    show low (l.drop 8) = 0
    rw [this]; rfl
  obtain ⟨b, off, rfl, hbl, hc⟩ := h.at_ (by omega)
  go_enter Tryd.func62, Tryd.ntmps62
  go_wp2
  go_loop [3, 4] (fun v i => ∃ j : Nat, j ≤ 8 ∧ i = .int .i64 ((j : Int) - 1) ∧ (0 < j → v = .int .i64 (low (l.drop j))) ∧ (j = 0 → v = .int .i64 (num8 l))) (fun _ i => (intOf i + 1).toNat)
  case atStart => exact ⟨8, Nat.le_refl _, rfl, fun _ => by rw [HE.out], fun h => by omega⟩
  case round =>
    obtain ⟨j, hj, rfl, hv, hv0⟩ := hrel
    by_cases h0 : 0 < j
    · obtain rfl := hv h0
      obtain ⟨i, rfl⟩ : ∃ i, j = i + 1 := ⟨j - 1, by omega⟩
      have hci := hc i (by omega)
      have hbi := h.byte i
      have LD : Hid _ := low_drop l i (by rw [h.len_eq]; omega)
      have hb1 := HB.out (i + 1) (by omega)
      have e1 : ((i + 1 : Nat) : Int) - 1 = (i : Int) := by omega
      rw [e1]
      have hi1 : (0 : Int) ≤ (i : Int) := by omega
      have hi2 : (i : Int) < 8 := by omega
      by_cases hi0 : i = 0
      · subst hi0
        have N8 : Hid (num8 l = IntKind.i64.wrap (low (l.drop 1) * 256 + l.getD 0 0)) := rfl
        generalize low (l.drop (0 + 1)) = X at *
        generalize l.getD 0 0 = y at *
        obtain ⟨x, rfl⟩ := Int.eq_ofNat_of_zero_le hb1.1
        obtain ⟨y, rfl⟩ := Int.eq_ofNat_of_zero_le hbi.1
        have ho := i64_or_wrap x y (by omega) (by omega)
        rw [wrap_is ((x : Int) * 256)] at ho
        have HO : Hid _ := ho
        simp only [Nat.add_zero] at hci
        clear hc h ho hv hv0 HB2
        go_wp2
        go_round
        case rel => exact ⟨0, by omega, by go_num, fun h => by omega, fun _ => by rw [N8.out, HO.out]⟩
        case measure => simp [intOf]
      · have hb2 := HB2.out (i + 1) (by omega)
        generalize low (l.drop (i + 1)) = X at *
        generalize l.getD i 0 = y at *
        obtain ⟨x, rfl⟩ := Int.eq_ofNat_of_zero_le hb1.1
        obtain ⟨y, rfl⟩ := Int.eq_ofNat_of_zero_le hbi.1
        have ho := i64_or_nat2 x y (by omega) (by omega)
        clear hc h
        have HO : Hid _ := ho
        clear ho hv hv0 HB2
        go_wp2
        go_round
        case rel => exact ⟨i, by omega, by go_num, fun _ => by rw [LD.out, HO.out]; congr 1; omega, fun h => absurd h hi0⟩
        case measure => simp [intOf]
    · have e : j = 0 := by omega
      subst e
      obtain rfl := hv0 rfl
      go_wp2
      go_ret
      exact ⟨rfl, rfl⟩
end Go.Proofs.YtjjfgoeibcmfkaaDoor

