import Derived.Test.YtljpkbapoaafkaaDB13
import Derived.Test.YtljpkbapoaafkaaDB10
import Derived.Test.YtljpkbapoaafkaaDB3
import Derived.Test.YtljpkbapoaafkaaDB1
/- A block out of bytes, by places. -/
namespace Go.Proofs.Ytljpkbapoaafkaa
open Go.RowKit
set_option linter.unusedVariables false

/-- Where transaction i begins. -/
def offT (l : List Int) : Nat → Nat
  | 0 => 69
  | i + 1 => offT l i + txLen (l.drop (offT l i))
def blN (l : List Int) : Nat := (l.getD 68 0).toNat
def txsP (l : List Int) (i : Nat) : TxK := txP (l.drop (offT l i))
def blP (l : List Int) : BlK := ⟨l.take 32, (l.drop 32).take 32, low ((l.drop 64).take 4), blN l, txsP l⟩
def blLen (l : List Int) : Nat := offT l (blN l)
theorem offT_mono (l : List Int) : ∀ {i j : Nat}, i ≤ j → offT l i ≤ offT l j := by
  intro i j h
  induction j with
  | zero => obtain rfl : i = 0 := by omega
            exact Nat.le_refl _
  | succ j ih =>
    by_cases e : i = j + 1
    · subst e; exact Nat.le_refl _
    · exact Nat.le_trans (ih (by omega)) (by simp only [offT]; omega)
theorem offT_ge (l : List Int) (i : Nat) : 69 ≤ offT l i := offT_mono l (i := 0) (Nat.zero_le i)
theorem blP_ok {l : List Int} (h : IsB l) (hl : 69 ≤ l.length) : BlOk (blP l) :=
  ⟨by simp only [blP, List.length_take]; omega, by simp only [blP, List.length_take, List.length_drop]; omega, isB_take h _, isB_take (isB_drop h _) _⟩
theorem bl4_all (p r : List Int) (h : Int) (t : Value) (ht : t.oneCell' = true) : (bl4 p r h t).toArray.all (·.oneCell') = true := by
  rw [Array.all_eq_true_iff_forall_mem]
  intro u hu
  simp only [bl4, List.mem_toArray, List.mem_append, List.mem_cons, List.not_mem_nil, or_false] at hu
  rcases hu with hu | hu | rfl | rfl
  · exact ob_oneCell _ u hu
  · exact ob_oneCell _ u hu
  · rfl
  · exact ht
theorem plan_bl : plan Try.prog 45 = some ((bl4 z32 z32 0 (.slice none 0 0)).toArray, [(0, 32), (32, 32), (64, 1), (65, 1)]) := by kernel_rfl
/-- 'Block{Prev: .., Root: .., Height: ..}'. -/
theorem built_bl (X Y : List Int) (n : Int) (hX : X.length = 32) (hY : Y.length = 32) : Try.prog.built 45 [(0, .agg (ob X).toArray), (1, .agg (ob Y).toArray), (2, .int .i64 n)] = some (bl4 X Y n (.slice none 0 0)).toArray := by
  have hl : (ob X).length = 32 := by rw [ob_length, hX]
  have hm : (ob Y).length = 32 := by rw [ob_length, hY]
  have z0 := bl4_len 0 (.slice none 0 0) z32_len z32_len
  have z1 := bl4_len 0 (.slice none 0 0) hX z32_len
  have z2 := bl4_len 0 (.slice none 0 0) hX hY
  rw [built_plan plan_bl, fill_step _ _ 0 0 _ (ob X) _ (by simp [hl]) rfl (by simp [hl, z0])]
  rw [show (bl4 z32 z32 0 (.slice none 0 0)).toArray.toList = bl4 z32 z32 0 (.slice none 0 0) from rfl, bl4_prev 0 _ z32_len hX]
  rw [fill_step _ _ 1 32 _ (ob Y) _ (by simp [hm]) rfl (by simp [hm, z1])]
  rw [show (bl4 X z32 0 (.slice none 0 0)).toArray.toList = bl4 X z32 0 (.slice none 0 0) from rfl, bl4_root 0 _ hX z32_len hY]
  rw [fill_step _ _ 2 64 _ [.int .i64 n] _ (by simp) rfl (by simp [z2])]
  rw [show (bl4 X Y 0 (.slice none 0 0)).toArray.toList = bl4 X Y 0 (.slice none 0 0) from rfl]
  simp only [Instr.fill]
  have : (bl4 X Y 0 (.slice none 0 0)).take 64 ++ [Value.int .i64 n] ++ (bl4 X Y 0 (.slice none 0 0)).drop (64 + [Value.int .i64 n].length) = bl4 X Y n (.slice none 0 0) := by
    unfold bl4
    rw [← List.append_assoc, ← List.append_assoc, List.take_append_of_le_length (by simp [hl, hm]), List.take_of_length_le (by simp [hl, hm]), List.drop_append, List.drop_eq_nil_of_le (by simp [hl, hm])]
    simp [hl, hm]
  rw [this]
end Go.Proofs.Ytljpkbapoaafkaa

/- Bytes are appended, and nothing else is turned. -/
namespace Go.Proofs.Ytljpkbapoaafkaa
open Go.RowKit
set_option linter.unusedVariables false

def notU8 : Obj → Bool
  | .cells _ t _ => t != 5
  | _ => true
/-- Every block that holds no bytes is as it was. -/
structure Keeps (w w' : World) : Prop where
  size : w.heap.size ≤ w'.heap.size
  block : ∀ (k : Nat) (o : Obj), w.heap[k]? = some o → notU8 o = true → w'.heap[k]? = some o
theorem Keeps.refl (w : World) : Keeps w w := ⟨Nat.le_refl _, fun _ _ h _ => h⟩
theorem Keeps.trans {a b c : World} (h : Keeps a b) (k : Keeps b c) : Keeps a c := ⟨Nat.le_trans h.size k.size, fun i o hi ho => k.block i o (h.block i o hi ho) ho⟩
theorem keeps_below {w w' : World} (h : Below w.heap.size w w') : Keeps w w' := ⟨h.size, fun k o hk _ => by rw [h.block k (Array.getElem?_eq_some_iff.1 hk).1]; exact hk⟩
theorem Keeps.alloc {w w' : World} (h : Keeps w w') (o : Obj) : Keeps w (w'.alloc o) := h.trans (keeps_below ((Below.refl _ _).alloc (Nat.le_refl _) o))
theorem Keeps.below {a b c : World} (h : Keeps a b) (k : Below b.heap.size b c) : Keeps a c := h.trans (keeps_below k)
theorem Keeps.drew {w w' : World} (h : Keeps w w') : Keeps w w'.drew := ⟨h.size, h.block⟩
theorem keeps_grown {w w' : World} {B : Nat} {a : Option Addr} {n c : Nat} {l : List Int} (ho : Own B w a n c l) (hg : w.grownBy w' (Value.slice a n c).ownBlock) : Keeps w w' :=
  ⟨hg.size, fun k o hk hn => by
    rw [hg.block k (Array.getElem?_eq_some_iff.1 hk).1 (fun e => ?_)]
    · exact hk
    · rcases ho.2 with ⟨e1, _⟩ | ⟨g, cap, cur, e1, _, hh, _⟩
      · cases e1; simp [Value.ownBlock] at e
      · cases e1
        simp [Value.ownBlock] at e
        subst e
        rw [hk] at hh
        cases hh
        simp [notU8] at hn⟩
theorem Blk.keeps {w w' : World} {t g : Nat} {xs : List Value} (h : Blk w t g xs) (hk : Keeps w w') (ht : t ≠ 5) : Blk w' t g xs := hk.block g _ h (by simp [notU8, ht])
theorem ownsRow_keeps {w w' : World} {B e s : Nat} {v : Value} {n : Nat} {xs : List Value} (h : w.ownsRow B e s v n xs) (hk : Keeps w w') (he : e ≠ 5) : w'.ownsRow B e s v n xs := by
  refine ⟨h.1, ?_⟩
  rcases h.2 with h2 | ⟨k, cap, cur, hv, hg, hh, r⟩
  · exact Or.inl h2
  · exact Or.inr ⟨k, cap, cur, hv, hg, hk.block k _ hh (by simp [notU8, he]), r⟩

set_option maxHeartbeats 400000 in
theorem appendNumberK_calls (B : Nat) (a : Option Addr) (n c : Nat) (xs : List Int) (v : Int) (k : Nat) (w : World) (hown : Own B w a n c xs) (hB : B ≤ w.heap.size) (hn : n ≤ 1048576) (h0 : 0 ≤ v) (h1 : v ≤ 9223372036854775807) (hk : k ≤ 8) :
    Calls Try.prog 63 #[.slice a n c, .int .i64 v, .int .i64 k] w fun e w' => ∃ a c, e = .returned (.slice a (n + k) c) ∧ Below B w w' ∧ Keeps w w' ∧ Own B w' a (n + k) c (xs ++ num v k) := by
  go_enter Try.func63, Try.ntmps63
  go_wp2
  go_loopw [0, 1, 8] (fun o x i wr => ∃ j a c, j ≤ k ∧ i = .int .i64 (j : Nat) ∧ o = .slice a (n + j) c ∧ x = .int .i64 (v / 256 ^ j) ∧ Below B w wr ∧ Keeps w wr ∧ Own B wr a (n + j) c (xs ++ num v j)) (fun _ _ i _ => k - (intOf i).toNat)
  case atStart => exact ⟨0, a, c, Nat.zero_le _, rfl, rfl, by simp, Below.refl _ _, Keeps.refl _, by simpa [num] using hown⟩
  case round =>
    obtain ⟨j, a, c, hj, rfl, rfl, rfl, hb, kp, ho⟩ := hrel
    have hd := div_pow_bd v j h0 h1
    have HS : Hid (v / 256 ^ j / 256 = v / 256 ^ (j + 1)) := div_pow_succ v j
    have HN : Hid (num v (j + 1) = num v j ++ [v / 256 ^ j % 256]) := num_snoc v j
    generalize v / 256 ^ j = x at *
    by_cases hlt : j < k
    · go_wp2_with (at_builtin; refine wpList_app rfl _ _ rfl B a (n + j) c (xs ++ num v j) rfl ?own _ 1 1 [x % 256] rfl ?bs ?len ?B ?_)
      case own => exact World.ownsRow.alloc ho _
      case bs => exact bs_lit1 wr (x % 256) (by omega) (by omega)
      case len => omega
      case B => have := hb.size; simp; omega
      intro a' c' w' ho' hb' hg'
      have kp2 : Keeps w w' := (kp.alloc _).trans (keeps_grown (World.ownsRow.alloc ho _) hg')
      have hb2 : Below B w w' := (hb.alloc (Nat.le_trans hB hb.size) _).trans hb'
      clear ho hb hb' hg' kp
      go_wp2
      go_roundw
      case rel => exact ⟨j + 1, a', c', by omega, by go_num, rfl, by rw [← HS.out], hb2, kp2, by rw [HN.out]; exact ho'⟩
      case measure => simp [intOf]; omega
    · have e : j = k := by omega
      subst e
      go_wp2
      go_ret
      exact ⟨a, c, rfl, hb, kp, ho⟩
end Go.Proofs.Ytljpkbapoaafkaa

