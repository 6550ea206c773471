/- Bytes are appended, and nothing else is turned. -/
import Derived.Test.YtljpkbapoaafkaaNum
import Derived.Test.YtljpkbapoaafkaaEqHash
namespace Go.Proofs.Ytljpkbapoaafkaa
open Go.RowKit
set_option linter.unusedVariables false

def notU8 : Obj → Bool
  | .cells _ t _ => t != 5
  | _ => true
/-- Every block that holds no bytes is as it was. -/
structure Keeps (w w' : World) : Prop where
  size : w.heap.size ≤ w'.heap.size
  block : ∀ (k : Nat) (o : Obj), w.heap[k]? = some o → notU8 o = true → w'.heap[k]? = some o
theorem Keeps.refl (w : World) : Keeps w w := ⟨Nat.le_refl _, fun _ _ h _ => h⟩
theorem Keeps.trans {a b c : World} (h : Keeps a b) (k : Keeps b c) : Keeps a c := ⟨Nat.le_trans h.size k.size, fun i o hi ho => k.block i o (h.block i o hi ho) ho⟩
theorem keeps_below {w w' : World} (h : Below w.heap.size w w') : Keeps w w' := ⟨h.size, fun k o hk _ => by rw [h.block k (Array.getElem?_eq_some_iff.1 hk).1]; exact hk⟩
theorem Keeps.alloc {w w' : World} (h : Keeps w w') (o : Obj) : Keeps w (w'.alloc o) := h.trans (keeps_below ((Below.refl _ _).alloc (Nat.le_refl _) o))
theorem Keeps.below {a b c : World} (h : Keeps a b) (k : Below b.heap.size b c) : Keeps a c := h.trans (keeps_below k)
theorem Keeps.drew {w w' : World} (h : Keeps w w') : Keeps w w'.drew := ⟨h.size, h.block⟩
theorem keeps_grown {w w' : World} {B : Nat} {a : Option Addr} {n c : Nat} {l : List Int} (ho : Own B w a n c l) (hg : w.grownBy w' (Value.slice a n c).ownBlock) : Keeps w w' :=
  ⟨hg.size, fun k o hk hn => by
    rw [hg.block k (Array.getElem?_eq_some_iff.1 hk).1 (fun e => ?_)]
    · exact hk
    · rcases ho.2 with ⟨e1, _⟩ | ⟨g, cap, cur, e1, _, hh, _⟩
      · cases e1; simp [Value.ownBlock] at e
      · cases e1
        simp [Value.ownBlock] at e
        subst e
        rw [hk] at hh
        cases hh
        simp [notU8] at hn⟩
theorem Blk.keeps {w w' : World} {t g : Nat} {xs : List Value} (h : Blk w t g xs) (hk : Keeps w w') (ht : t ≠ 5) : Blk w' t g xs := hk.block g _ h (by simp [notU8, ht])
theorem ownsRow_keeps {w w' : World} {B e s : Nat} {v : Value} {n : Nat} {xs : List Value} (h : w.ownsRow B e s v n xs) (hk : Keeps w w') (he : e ≠ 5) : w'.ownsRow B e s v n xs := by
  refine ⟨h.1, ?_⟩
  rcases h.2 with h2 | ⟨k, cap, cur, hv, hg, hh, r⟩
  · exact Or.inl h2
  · exact Or.inr ⟨k, cap, cur, hv, hg, hk.block k _ hh (by simp [notU8, he]), r⟩

set_option maxHeartbeats 400000 in
theorem appendNumberK_calls (B : Nat) (a : Option Addr) (n c : Nat) (xs : List Int) (v : Int) (k : Nat) (w : World) (hown : Own B w a n c xs) (hB : B ≤ w.heap.size) (hn : n ≤ 1048576) (h0 : 0 ≤ v) (h1 : v ≤ 9223372036854775807) (hk : k ≤ 8) :
    Calls Try.prog 63 #[.slice a n c, .int .i64 v, .int .i64 k] w fun e w' => ∃ a c, e = .returned (.slice a (n + k) c) ∧ Below B w w' ∧ Keeps w w' ∧ Own B w' a (n + k) c (xs ++ num v k) := by
  go_enter Try.func63, Try.ntmps63
  go_wp2
  go_loopw [0, 1, 8] (fun o x i wr => ∃ j a c, j ≤ k ∧ i = .int .i64 (j : Nat) ∧ o = .slice a (n + j) c ∧ x = .int .i64 (v / 256 ^ j) ∧ Below B w wr ∧ Keeps w wr ∧ Own B wr a (n + j) c (xs ++ num v j)) (fun _ _ i _ => k - (intOf i).toNat)
  case atStart => exact ⟨0, a, c, Nat.zero_le _, rfl, rfl, by simp, Below.refl _ _, Keeps.refl _, by simpa [num] using hown⟩
  case round =>
    obtain ⟨j, a, c, hj, rfl, rfl, rfl, hb, kp, ho⟩ := hrel
    have hd := div_pow_bd v j h0 h1
    have HS : Hid (v / 256 ^ j / 256 = v / 256 ^ (j + 1)) := div_pow_succ v j
    have HN : Hid (num v (j + 1) = num v j ++ [v / 256 ^ j % 256]) := num_snoc v j
    generalize v / 256 ^ j = x at *
    by_cases hlt : j < k
    · go_wp2_with (at_builtin; refine wpList_app rfl _ _ rfl B a (n + j) c (xs ++ num v j) rfl ?own _ 1 1 [x % 256] rfl ?bs ?len ?B ?_)
      case own => exact World.ownsRow.alloc ho _
      case bs => exact bs_lit1 wr (x % 256) (by omega) (by omega)
      case len => omega
      case B => have := hb.size; simp; omega
      intro a' c' w' ho' hb' hg'
      have kp2 : Keeps w w' := (kp.alloc _).trans (keeps_grown (World.ownsRow.alloc ho _) hg')
      have hb2 : Below B w w' := (hb.alloc (Nat.le_trans hB hb.size) _).trans hb'
      clear ho hb hb' hg' kp
      go_wp2
      go_roundw
      case rel => exact ⟨j + 1, a', c', by omega, by go_num, rfl, by rw [← HS.out], hb2, kp2, by rw [HN.out]; exact ho'⟩
      case measure => simp [intOf]; omega
    · have e : j = k := by omega
      subst e
      go_wp2
      go_ret
      exact ⟨a, c, rfl, hb, kp, ho⟩
end Go.Proofs.Ytljpkbapoaafkaa
