import Derived.Test.YtamifpbhmecloaaFmt22
import Derived.Deep.RegionLaw
import Derived.Deep.DeepCutAuto
namespace Go.Proofs.Ytamifpbhmecloaa
open Go.RowKit

def supBody (gen root used free : Int) : List Int := num gen 8 ++ num root 4 ++ (num used 4 ++ num free 4)
theorem supBody_len (gen root used free : Int) : (supBody gen root used free).length = 20 := by simp [supBody, num_len]
theorem supBody_isB (gen root used free : Int) : IsB (supBody gen root used free) := isB_append (isB_append (num_isB _ _) (num_isB _ _)) (isB_append (num_isB _ _) (num_isB _ _))

/-- 'append(s, x...)' as one step of a region that draws its order. -/
theorem step_app {w : World} {ops : Array Oper} {o : Oper} {act : Act} {K : Act → World → Prop} {Q : Exit → Act → World → Prop} {E : Prop} (hgd : o.guard = none) (s x : Operand)
    (ho : o.op = .call { callee := .builtin .append, args := #[s, x], argTypes := #[22, 22] })
    (B : Nat) (a : Option Addr) (n c : Nat) (xs : List Int) (hs : act.eval s = .slice a n c) (hown : Own B w a n c xs)
    (g m d : Nat) (l : List Int) (hx : act.eval x = .slice (some ⟨g, 0, none⟩) m d) (hl : Bs w (some ⟨g, 0, none⟩) m d l) (hlen : n + m ≤ 140737488355328) (hB : B ≤ w.heap.size)
    (h : ∀ a' c' w', Own B w' a' (n + m) c' (xs ++ l) → Below B w w' → K (act.put o.dst (.slice a' (n + m) c')) w') :
    if Region.wanted o (yielded ops act.tmps) = true then Oper.wp Try.prog o act w K Q else E := by
  have hw : Region.wanted o (yielded ops act.tmps) = true := by simp [Region.wanted, hgd]
  rw [if_pos hw]
  obtain ⟨i, hi, hz0, hz1, hz2⟩ := info_parts info5
  refine wp_append_own w s x _ ho B 5 i _ 1 1 Try.underlying22 hi hz0 hz1 hz2 rfl (by omega) _ n (ob xs) hs hown ⟨g, 0, none⟩ m d (ob l) hx (by simp [ob, hl.len_eq]) ?_ (ob_oneCell l) (by unfold maxLen; omega) (by omega) hB ?_
  · intro j u hj
    have hjl : j < l.length := by have := (List.getElem?_eq_some_iff.1 hj).1; simpa [ob] using this
    obtain ⟨b1, off, e, _, hc⟩ := hl.at_ (by have := hl.len_eq; omega)
    cases e
    rw [ob_getElem? l j hjl] at hj
    rw [Addr.add_lit, hc j (by have := hl.len_eq; omega)]
    exact hj
  · intro v' w' ho' hg' _
    have e : ob xs ++ ob l = ob (xs ++ l) := by simp [ob]
    rw [e] at ho'
    have hv : ∃ a' c', v' = .slice a' (n + m) c' := by
      rcases ho'.2 with ⟨rfl, h0⟩ | ⟨g, cap, cur, rfl, _⟩
      · exact ⟨none, 0, by rw [h0]⟩
      · exact ⟨_, _, rfl⟩
    obtain ⟨a', c', rfl⟩ := hv
    exact h a' c' w' ho' ((Below.refl _ _).grown hg' hB (fun k hk => (hown.lt k hk).1))

theorem l2Num_some (v : Int) (k : Nat) (w : World) (h0 : 0 ≤ v) (h1 : v ≤ 9223372036854775807) (hk : k ≤ 8) (hk0 : 0 < k) :
    Calls Try.prog 97 #[.int .i64 v, .int .i64 k] w fun e w' => ∃ g c, e = .returned (.slice (some ⟨g, 0, none⟩) k c) ∧ Below w.heap.size w w' ∧ Own w.heap.size w' (some ⟨g, 0, none⟩) k c (num v k) := by
  refine (l2Num_calls v k w h0 h1 hk).mono ?_
  rintro e w' ⟨a, c, rfl, b, o⟩
  obtain ⟨g, rfl, _⟩ := (show ∃ g, a = some ⟨g, 0, none⟩ ∧ w.heap.size ≤ g by
    rcases o.2 with ⟨e, h0⟩ | ⟨g, cap, cur, e, hg, _⟩
    · omega
    · cases e
      exact ⟨g, rfl, hg⟩)
  exact ⟨g, c, rfl, b, o⟩

theorem undrew {B : Nat} {w w' : World} (h : Below B w.drew w') : Below B w w' := ⟨h.os, h.tape, h.output, h.size, h.block⟩

/-- The cells of a box of four. -/
theorem box4 {B : Nat} {w wx w1 : World} {v0 v1 v2 v3 : Value} {t : TypeId} (b : Below B wx w1) (hB : w.heap.size < B) (h0 : wx.heap = (w.alloc (.cells #[v0, v1, v2, v3] t)).heap) :
    w1.cell? ⟨w.heap.size, 0, none⟩ = some v0 ∧ w1.cell? ⟨w.heap.size, 1, none⟩ = some v1 ∧ w1.cell? ⟨w.heap.size, 2, none⟩ = some v2 ∧ w1.cell? ⟨w.heap.size, 3, none⟩ = some v3 := by
  have key : ∀ o, w1.cell? ⟨w.heap.size, o, none⟩ = (w.alloc (.cells #[v0, v1, v2, v3] t)).cell? ⟨w.heap.size, o, none⟩ := fun o => by
    rw [b.cell (p := ⟨w.heap.size, o, none⟩) hB]
    exact World.cell?_of_block (by rw [h0])
  refine ⟨?_, ?_, ?_, ?_⟩ <;> rw [key] <;> simp
/-- .. that was kept. -/
theorem keep4 {B : Nat} {w w1 w2 : World} {v0 v1 v2 v3 : Value} (k : w1.cell? ⟨w.heap.size, 0, none⟩ = some v0 ∧ w1.cell? ⟨w.heap.size, 1, none⟩ = some v1 ∧ w1.cell? ⟨w.heap.size, 2, none⟩ = some v2 ∧ w1.cell? ⟨w.heap.size, 3, none⟩ = some v3) (b : Below B w1 w2) (hB : w.heap.size < B) :
    w2.cell? ⟨w.heap.size, 0, none⟩ = some v0 ∧ w2.cell? ⟨w.heap.size, 1, none⟩ = some v1 ∧ w2.cell? ⟨w.heap.size, 2, none⟩ = some v2 ∧ w2.cell? ⟨w.heap.size, 3, none⟩ = some v3 := by
  refine ⟨?_, ?_, ?_, ?_⟩ <;> rw [b.cell (p := ⟨w.heap.size, _, none⟩) hB]
  · exact k.1
  · exact k.2.1
  · exact k.2.2.1
  · exact k.2.2.2

set_option maxRecDepth 100000 in
set_option maxHeartbeats 4000000 in
theorem l2SuperBody_calls (gen root used free : Int) (w : World) (g0 : 0 ≤ gen) (g1 : gen ≤ 1000000000000) (r0 : 0 ≤ root) (r1 : root ≤ 1024) (u0 : 0 ≤ used) (u1 : used ≤ 1024) (f0 : 0 ≤ free) (f1 : free ≤ 1024) :
    Calls Try.prog 89 #[.agg #[.int .i64 gen, .int .i64 root, .int .i64 used, .int .i64 free]] w fun e w' => ∃ a c, e = .returned (.slice a 20 c) ∧ Below w.heap.size w w' ∧ Own w.heap.size w' a 20 c (supBody gen root used free) := by
  go_enter Try.func89, Try.ntmps89
  go_wp2_with fail
  go_cut [3] (fun s3 wx => ∃ a3 c3, s3 = .slice a3 12 c3 ∧ Below w.heap.size w wx ∧ w.heap.size + 1 ≤ wx.heap.size ∧ Own (w.heap.size + 1) wx a3 12 c3 (num gen 8 ++ num root 4) ∧ wx.cell? ⟨w.heap.size, 0, none⟩ = some (.int .i64 gen) ∧ wx.cell? ⟨w.heap.size, 1, none⟩ = some (.int .i64 root) ∧ wx.cell? ⟨w.heap.size, 2, none⟩ = some (.int .i64 used) ∧ wx.cell? ⟨w.heap.size, 3, none⟩ = some (.int .i64 free))
  case first =>
    go_region_law (first
      | (refine step_app rfl _ _ rfl (w.heap.size + 1) _ 8 c1 (num gen 8) rfl (o1.below b2) g2 4 c2 (num root 4) rfl (o2.bs (num_isB _ _)) (by omega) (by omega) ?_; intro a3 c3 w3 o3 b3)
      | (rw [if_pos (show Region.wanted _ _ = true from rfl)]; go_wp2_with (first
        | (go_at_call_of 97 gen; refine (l2Num_some gen 8 _ g0 (by omega) (by omega) (by omega)).mono ?_; rintro e w1 ⟨g1, c1, rfl, b1, o1⟩; simp only [World.size_drew, World.size_alloc] at b1 o1; obtain ⟨k0, k1, k2, k3⟩ := box4 (w := w) (v0 := .int .i64 gen) (v1 := .int .i64 root) (v2 := .int .i64 used) (v3 := .int .i64 free) (t := 106) b1 (Nat.lt_succ_self _) rfl; have z1 := b1.size; simp only [World.size_drew, World.size_alloc] at z1)
        | (go_at_call_of 97 root; refine (l2Num_some root 4 _ r0 (by omega) (by omega) (by omega)).mono ?_; rintro e w2 ⟨g2, c2, rfl, b2, o2⟩; have z2 := b2.size))))
    all_goals
      have kk := keep4 (w := w) (keep4 (w := w) ⟨k0, k1, k2, k3⟩ b2 (by omega)) b3 (by omega)
      have q3 : Below w.heap.size w w3 := (((Below.refl _ _).alloc (Nat.le_refl _) _).drew.trans (b1.mono (Nat.le_succ _))).trans ((b2.mono (by omega)).trans (b3.mono (Nat.le_succ _)))
      have z3 : w.heap.size + 1 ≤ w3.heap.size := by have := b3.size; omega
      have KK : Hid _ := kk
      clear b1 b2 b3 o1 o2 z1 z2 k0 k1 k2 k3 kk
      go_wp2_with fail
      go_meet
      exact ⟨a3, c3, rfl, q3, z3, o3, KK.out⟩
  case rest =>
  obtain ⟨a3, c3, rfl, q3, z3, o3, k0, k1, k2, k3⟩ := hcut
  have tok1 : True := trivial
  go_wp2_with fail
  go_region_law (first
    | (have _t := tok1; refine step_app rfl _ _ rfl (w.heap.size + 1) a3 12 c3 (num gen 8 ++ num root 4) rfl ?_ g4 4 c4 (num used 4) rfl ?_ ?_ ?_ ?_; exact o3.below b4; exact o4.bs (num_isB _ _); omega; omega; intro a5 c5 w5 o5 b5; have z5 := b5.size; have o5h : Own (w.heap.size + 1) w5 a5 16 c5 (num gen 8 ++ num root 4 ++ num used 4) := (by simpa using o5); obtain ⟨t0, t1, t2, t3⟩ := keep4 (w := w) ⟨p0, p1, p2, p3⟩ b5 (by omega); clear tok1 _t)
    | (have _u := b6; refine step_app rfl _ _ rfl (w.heap.size + 1) a5 16 c5 (num gen 8 ++ num root 4 ++ num used 4) rfl ?_ g6 4 c6 (num free 4) rfl ?_ ?_ ?_ ?_; exact o5h.below b6; exact o6.bs (num_isB _ _); omega; omega; intro a7 c7 w7 o7 b7; clear _u)
    | (rw [if_pos (show Region.wanted _ _ = true from rfl)]; go_wp2_with (first
      | (go_at_call_of 97 used; refine (l2Num_some used 4 _ u0 (by omega) (by omega) (by omega)).mono ?_; rintro e w4 ⟨g4, c4, rfl, b4, o4⟩; simp only [World.size_drew] at b4 o4; replace b4 := undrew b4; have z4 := b4.size; obtain ⟨p0, p1, p2, p3⟩ := keep4 (w := w) ⟨k0, k1, k2, k3⟩ b4 (by omega))
      | (go_at_call_of 97 free; refine (l2Num_some free 4 _ f0 (by omega) (by omega) (by omega)).mono ?_; rintro e w6 ⟨g6, c6, rfl, b6, o6⟩; have z6 := b6.size))))
  all_goals
    have q7 : Below w.heap.size w w7 := q3.trans (((b4.mono (by omega)).trans (b5.mono (Nat.le_succ _))).trans ((b6.mono (by omega)).trans (b7.mono (Nat.le_succ _))))
    have o7h : Own w.heap.size w7 a7 20 c7 (supBody gen root used free) := by
      have := o7.mono (Nat.le_succ _)
      simpa [supBody] using this
    clear b4 b5 b6 b7 o7 o6 o5 o5h o4 o3 k0 k1 k2 k3 p0 p1 p2 p3 t0 t1 t2 t3 q3
    go_wp2
    go_ret
    exact ⟨a7, c7, rfl, q7, o7h⟩
end Go.Proofs.Ytamifpbhmecloaa

namespace Go.Proofs.Ytamifpbhmecloaa
open Go.RowKit

/-- The values that a page's head may bear. -/
def headOk (id kind n : Int) : Bool := decide (0 ≤ id ∧ id ≤ 1023 ∧ 1 ≤ kind ∧ kind ≤ 4 ∧ n ≤ 240)

set_option maxHeartbeats 400000 in
theorem fits_yes (id kind n : Int) (w : World) (h : headOk id kind n = true) :
    Calls Try.prog 109 #[.agg #[.int .i64 id, .int .i64 kind, .int .i64 n]] w fun e w' => e = .returned (.bool true) ∧ Below w.heap.size w w' := by
  obtain ⟨h1, h2, h3, h4, h5⟩ := of_decide_eq_true h
  clear h
  go_enter Try.func109, Try.ntmps109
  go_wp2
  go_ret
  exact ⟨rfl, (Below.refl _ _).alloc (Nat.le_refl _) _⟩

set_option maxHeartbeats 1000000 in
theorem fits_no (id kind n : Int) (w : World) (h : headOk id kind n = false) :
    Calls Try.prog 109 #[.agg #[.int .i64 id, .int .i64 kind, .int .i64 n]] w fun e w' => e = .returned (.bool false) ∧ Below w.heap.size w w' := by
  have h' := of_decide_eq_false h
  clear h
  by_cases h1 : 0 ≤ id
  · by_cases h2 : id < 1024
    · by_cases h3 : 1 ≤ kind
      · by_cases h4 : kind ≤ 4
        · have h5 : ¬ n ≤ 240 := by omega
          clear h'
          have d5 : decide (n ≤ 240) = false := by simpa using h5
          go_enter Try.func109, Try.ntmps109
          go_wp2
          go_ret
          exact ⟨rfl, (Below.refl _ _).alloc (Nat.le_refl _) _⟩
        · clear h'
          have d5 : decide (kind ≤ 4) = false := by simpa using h4
          go_enter Try.func109, Try.ntmps109
          go_wp2
          go_ret
          exact ⟨rfl, (Below.refl _ _).alloc (Nat.le_refl _) _⟩
      · clear h'
        have d5 : decide (1 ≤ kind) = false := by simpa using h3
        go_enter Try.func109, Try.ntmps109
        go_wp2
        go_ret
        exact ⟨rfl, (Below.refl _ _).alloc (Nat.le_refl _) _⟩
    · clear h'
      have d5 : decide (id < 1024) = false := by simpa using h2
      go_enter Try.func109, Try.ntmps109
      go_wp2
      go_ret
      exact ⟨rfl, (Below.refl _ _).alloc (Nat.le_refl _) _⟩
  · clear h'
    have d5 : decide (0 ≤ id) = false := by simpa using h1
    go_enter Try.func109, Try.ntmps109
    go_wp2
    go_ret
    exact ⟨rfl, (Below.refl _ _).alloc (Nat.le_refl _) _⟩

/-- A page's head behind its checksum. -/
def head (id kind n : Int) : List Int := num id 4 ++ [kind, 0] ++ num n 2 ++ num 0 4

set_option maxHeartbeats 1000000 in
theorem bytes_calls (id kind n : Int) (w : World) (h : headOk id kind n = true) (hn : 0 ≤ n) :
    Calls Try.prog 111 #[.agg #[.int .i64 id, .int .i64 kind, .int .i64 n]] w fun e w' => ∃ a c, e = .returned (.slice a 12 c) ∧ Below w.heap.size w w' ∧ Own w.heap.size w' a 12 c (head id kind n) := by
  obtain ⟨h1, h2, h3, h4, h5⟩ := of_decide_eq_true h
  clear h
  go_enter Try.func111, Try.ntmps111
  go_wp2_with fail
  refine (appendNumber_calls (w.heap.size + 1) none 0 0 [] id 4 _ (own_nil _ _) (by simp) (by omega) h1 (by omega) (by omega)).mono ?_
  rintro e w1 ⟨a1, c1, rfl, hb1, ho1⟩
  have k1 : w1.cell? ⟨w.heap.size, 1, none⟩ = some (.int .i64 kind) := by rw [hb1.cell (p := ⟨w.heap.size, 1, none⟩) (Nat.lt_succ_self _)]; simp
  have k2 : w1.cell? ⟨w.heap.size, 2, none⟩ = some (.int .i64 n) := by rw [hb1.cell (p := ⟨w.heap.size, 2, none⟩) (Nat.lt_succ_self _)]; simp
  have z1 : w.heap.size + 1 ≤ w1.heap.size := by have := hb1.size; simpa using this
  have b1 : Below w.heap.size w w1 := ((Below.refl _ _).alloc (Nat.le_refl _) _).trans (hb1.mono (Nat.le_succ _))
  clear hb1
  go_wp2_with (at_builtin; refine wpList_app rfl _ _ rfl (w.heap.size + 1) a1 4 c1 ([] ++ num id 4) rfl ?own _ 2 2 [kind, 0] rfl ?bs ?len ?B ?_)
  case own => exact World.ownsRow.alloc ho1 _
  case bs => exact bs_lit2 w1 kind 0 (by omega) (by omega) (by omega) (by omega)
  case len => omega
  case B => simp; omega
  intro a2 c2 w2 ho2 hb2 _
  have q1 : w2.cell? ⟨w.heap.size, 2, none⟩ = some (.int .i64 n) := by rw [hb2.cell (p := ⟨w.heap.size, 2, none⟩) (Nat.lt_succ_self _), ((Below.refl w1.heap.size w1).alloc (Nat.le_refl _) _).cell (p := ⟨w.heap.size, 2, none⟩) z1]; exact k2
  have z2 : w.heap.size + 1 ≤ w2.heap.size := by have := hb2.size; simp at this; omega
  have b2 : Below w.heap.size w w2 := (b1.alloc b1.size _).trans (hb2.mono (Nat.le_succ _))
  clear hb2 k1 k2 b1 ho1
  go_wp2_with fail
  refine (appendNumber_calls (w.heap.size + 1) a2 6 c2 _ n 2 _ ho2 z2 (by omega) hn (by omega) (by omega)).mono ?_
  rintro e w3 ⟨a3, c3, rfl, hb3, ho3⟩
  have z3 : w.heap.size + 1 ≤ w3.heap.size := by have := hb3.size; omega
  have b3 : Below w.heap.size w w3 := b2.trans (hb3.mono (Nat.le_succ _))
  clear hb3 b2 ho2 q1
  go_wp2_with fail
  refine (appendNumber_calls (w.heap.size + 1) a3 8 c3 _ 0 4 _ ho3 z3 (by omega) (by omega) (by omega) (by omega)).mono ?_
  rintro e w4 ⟨a4, c4, rfl, hb4, ho4⟩
  have b4 : Below w.heap.size w w4 := b3.trans (hb4.mono (Nat.le_succ _))
  clear hb4 b3 ho3
  go_wp2
  go_ret
  exact ⟨a4, c4, rfl, b4, ho4.mono (Nat.le_succ _)⟩
end Go.Proofs.Ytamifpbhmecloaa

