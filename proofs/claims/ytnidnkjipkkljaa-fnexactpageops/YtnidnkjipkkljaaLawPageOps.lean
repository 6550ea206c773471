import Derived.Test.YtnidnkjipkkljaaToBytes
import Derived.Test.YtnidnkjipkkljaaImplPageOps
import Derived.Test.YtnidnkjipkkljaaEqOp
import Derived.Test.YtnidnkjipkkljaaMarkOps
namespace Go.Proofs.Ytnidnkjipkkljaa
open Go.RowKit

def kOf (ok : Bool) : Nat := if ok = true then 4 else 0
theorem kOf_le (ok : Bool) : kOf ok ≤ 4 := by unfold kOf; split <;> omega

theorem specPageOps_calls (id kind : Int) (a : Option Addr) (n c : Nat) (l : List Int) (w : World) (h : Bs w a n c l) (hn : n ≤ 1048576) :
    Calls Try.prog 15 #[.int .i64 id, .int .i64 kind, .slice a n c] w fun e w' => ∃ a' c', e = .returned (.tuple #[.slice a' (kOf (headOk id kind n)) c', .bool (headOk id kind n)]) ∧ Below w.heap.size w w' ∧ POps w.heap.size w' a' (kOf (headOk id kind n)) c' id (page id kind l) := by
  cases hok : headOk id kind n with
  | true => exact specPageOps_yes id kind a n c l w h hok
  | false => exact specPageOps_no id kind a n c w hn hok _

theorem implPageOps_calls (id kind : Int) (a : Option Addr) (n c : Nat) (l : List Int) (w : World) (h : Bs w a n c l) (hn : n ≤ 1048576) :
    Calls Try.prog 16 #[.int .i64 id, .int .i64 kind, .slice a n c] w fun e w' => ∃ a' c', e = .returned (.tuple #[.slice a' (kOf (headOk id kind n)) c', .bool (headOk id kind n)]) ∧ Below w.heap.size w w' ∧ POps w.heap.size w' a' (kOf (headOk id kind n)) c' id (page id kind l) := by
  cases hok : headOk id kind n with
  | true => exact implPageOps_yes id kind a n c l w h hok
  | false => exact implPageOps_no id kind a n c w hn hok _

theorem mk_bound (N : Nat → Nat) (k : Nat) (hk : k ≤ 4) (hN : ∀ i, i < k → N i = 64) : mk 2 N 1 k ≤ 1099511627776 := by
  have : ∀ j, j ≤ k → mk 2 N 1 j ≤ 1 + 66 * j := by
    intro j
    induction j with
    | zero => intro _; simp [mk]
    | succ j ih =>
      intro hj
      have := ih (by omega)
      have := hN j (by omega)
      simp only [mk]
      omega
  have := this k (Nat.le_refl _)
  omega

set_option maxHeartbeats 2000000 in
theorem fnExactPageOps_walk (id kind : Int) (a : Option Addr) (n cap : Nat) (l : List Int) (w : World) (h : Bs w a n cap l) :
    Calls Try.prog 5 #[.int .i64 id, .int .i64 kind, .slice a n cap] w fun e w' => e = .returned (.bool true) ∧ Below w.heap.size w w' := by
  have hmx : n ≤ maxLen := Nat.le_trans h.le h.le'
  unfold maxLen at hmx
  by_cases hbig : (1048576 : Int) < (n : Int)
  · go_enter Try.func5, Try.ntmps5
    go_wp2
    go_ret
    exact ⟨rfl, Below.refl _ _⟩
  · have hn : n ≤ 1048576 := by omega
    have S0 := fun a c w hs => specPageOps_calls id kind a n c l w hs hn
    have I0 := fun a c w hs => implPageOps_calls id kind a n c l w hs hn
    generalize page id kind l = P at *
    generalize headOk id kind n = ok at *
    have hE := kOf_le ok
    generalize kOf ok = E at *
    have S1 : Hid _ := S0
    have I1 : Hid _ := I0
    clear S0 I0
    have hok : (ok != ok) = false := by simp
    go_enter Try.func5, Try.ntmps5
    go_wp2_with fail
    refine (toByteS_calls a n cap l _ h hn).mono ?_
    rintro e w1 ⟨g1, rfl, b1, o1⟩
    have s1 := Own.bs o1 h.byte
    go_wp2_with fail
    refine (S1.out _ n _ s1).mono ?_
    rintro e w2 ⟨a2, c2, rfl, b2, A2, N2, C2, r2, hN2⟩
    have d2 : Below w.heap.size w w2 := b1.trans (b2.mono b1.size)
    clear s1 o1
    go_wp2_with fail
    refine (toByteS_calls a n cap l _ (h.below d2) hn).mono ?_
    rintro e w3 ⟨g3, rfl, f3, o3⟩
    have o3' : Own w2.heap.size w3 (some ⟨g3, 0, none⟩) n n l := o3
    have s3 := o3'.bs h.byte
    have d3 : Below w.heap.size w w3 := d2.trans (f3.mono d2.size)
    clear b2 o3
    go_wp2_with fail
    refine (I1.out _ n _ s3).mono ?_
    rintro e w4 ⟨a4, c4, rfl, b4, A4, N4, C4, r4, hN4⟩
    have f4 : Below w2.heap.size w2 w4 := f3.trans (b4.mono f3.size)
    have d4 : Below w.heap.size w w4 := d3.trans (b4.mono d3.size)
    have o3d := o3'.below b4
    clear s3
    go_wp2_with fail
    refine (eqOpS_calls a4 a2 E c4 c2 _ A4 A2 N4 N2 C4 C2 _ _ r4.reads (r2.below f4).reads).mono ?_
    rintro e w5 ⟨rfl, b5⟩
    have f5 : Below w2.heap.size w2 w5 := f4.trans (b5.mono f4.size)
    have o3e := o3d.below b5
    have r4e := r4.below b5
    have d5 : Below w.heap.size w w5 := d4.trans (b5.mono d4.size)
    clear o3d r4
    go_wp2_with fail
    refine (toByteS_calls a n cap l _ (h.below d5) hn).mono ?_
    rintro e w6 ⟨g6, rfl, b6, o6⟩
    have o6' : Own w5.heap.size w6 (some ⟨g6, 0, none⟩) n n l := o6
    have f6 : Below w2.heap.size w2 w6 := f5.trans (b6.mono f5.size)
    have o3f := o3e.below b6
    have r4f := r4e.below b6
    have d6 : Below w.heap.size w w6 := d5.trans (b6.mono d5.size)
    clear o3e r4e o6
    go_wp2_with fail
    refine (eqByteS_calls _ _ _ _ _ _ l _ (o3f.bs h.byte) (o6'.bs h.byte)).mono ?_
    rintro e w7 ⟨rfl, b7⟩
    have f7 : Below w2.heap.size w2 w7 := f6.trans (b7.mono f6.size)
    have o3g := o3f.below b7
    have r4g := r4f.below b7
    have d7 : Below w.heap.size w w7 := d6.trans (b7.mono d6.size)
    clear o3f r4f o6'
    go_wp2_with fail
    refine (markByteS_calls w2.heap.size _ n n l 1 _ o3g hn (by omega) (by omega)).mono ?_
    rintro e w8 ⟨rfl, g8, b8, z8, o3h⟩
    have f8 : Below w2.heap.size w2 w8 := f7.trans b8
    have v8 : Within w2.heap.size w3.heap.size w7 w8 := Within.grown g8 z8 (fun k hk => ⟨(World.ownsRow.lt o3' k hk).1, (World.ownsRow.lt o3' k hk).2⟩)
    have r4h := r4g.within v8 (Nat.le_refl _)
    have d8 : Below w.heap.size w w8 := d7.trans (b8.mono d2.size)
    clear o3g r4g g8 b8 o3h v8
    go_wp2_with fail
    refine (eqOpS_calls a4 a2 E c4 c2 _ A4 A2 N4 N2 C4 C2 _ _ r4h.reads (r2.below f8).reads).mono ?_
    rintro e w9 ⟨rfl, b9⟩
    have f9 : Below w2.heap.size w2 w9 := f8.trans (b9.mono f8.size)
    have r4i := r4h.below b9
    have d9 : Below w.heap.size w w9 := d8.trans (b9.mono d8.size)
    clear r4h
    have hmk : mk 2 N4 1 E ≤ 1099511627776 := mk_bound N4 E hE hN4
    have hmk0 := mk_ge 2 N4 1 E
    have hN4' : ∀ i, i < E → N4 i ≤ 1048576 := fun i hi => by rw [hN4 i hi]; omega
    have HN4 : Hid _ := hN4'
    have HN5 : Hid _ := hN4
    clear hN4' hN4 hN2
    go_wp2_with fail
    refine (markOpS_calls w3.heap.size w9.heap.size a4 E c4 _ A4 N4 C4 _ 1 _ r4i r4i.lt (by omega) HN4.out (by omega) hmk).mono ?_
    rintro e w10 ⟨rfl, v10, r4j⟩
    have f10 : Below w2.heap.size w2 w10 := f9.trans (v10.below.mono f3.size)
    have d10 : Below w.heap.size w w10 := d9.trans (v10.below.mono d3.size)
    clear r4i v10
    go_wp2_with fail
    refine (heldOpS_calls a4 E c4 A4 N4 C4 1 _ r4j.reads (by omega) HN4.out (by omega) hmk).mono ?_
    rintro e w11 ⟨rfl, rfl⟩
    generalize mk 2 N4 1 E = M at *
    have hM : (M != M) = false := by simp
    go_wp2_with fail
    refine (toByteS_calls a n cap l _ (h.below d10) hn).mono ?_
    rintro e w12 ⟨g12, rfl, b12, o12⟩
    have o12' : Own w11.heap.size w12 (some ⟨g12, 0, none⟩) n n l := o12
    have f12 : Below w2.heap.size w2 w12 := f10.trans (b12.mono f10.size)
    have d12 : Below w.heap.size w w12 := d10.trans (b12.mono d10.size)
    clear o12
    go_wp2_with fail
    refine (I1.out _ n _ (o12'.bs h.byte)).mono ?_
    rintro e w13 ⟨a13, c13, rfl, b13, A13, N13, C13, r13, hN13⟩
    have f13 : Below w2.heap.size w2 w13 := f12.trans (b13.mono f12.size)
    have d13 : Below w.heap.size w w13 := d12.trans (b13.mono d12.size)
    clear hN13
    go_wp2_with fail
    refine (eqOpS_calls a13 a2 E c13 c2 _ A13 A2 N13 N2 C13 C2 _ _ r13.reads (r2.below f13).reads).mono ?_
    rintro e w14 ⟨rfl, b14⟩
    go_wp2
    go_ret
    exact ⟨rfl, d13.trans (b14.mono d13.size)⟩
end Go.Proofs.Ytnidnkjipkkljaa
