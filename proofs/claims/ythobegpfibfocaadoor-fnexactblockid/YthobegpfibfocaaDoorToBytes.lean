import Derived.Test.YthobegpfibfocaaDoorBase
namespace Go.Proofs.YthobegpfibfocaaDoor
open Go.RowKit

theorem take_set_rep (l : List Int) (k : Nat) (h : k < l.length) :
    ((ob (l.take k)) ++ List.replicate (l.length - k) (Value.int .u8 0)).set k (.int .u8 (l.getD k 0)) = (ob (l.take (k + 1))) ++ List.replicate (l.length - (k + 1)) (Value.int .u8 0) := by
  have e : l.length - k = (l.length - (k + 1)) + 1 := by omega
  have e2 : (ob (l.take k)).length = k := by simp [ob]; omega
  have e3 : ob (l.take (k + 1)) = ob (l.take k) ++ [.int .u8 (l.getD k 0)] := by
    rw [List.take_succ_eq_append_getElem h]
    simp only [ob, List.map_append, List.map_cons, List.map_nil, List.getD, List.getElem?_eq_getElem h, Option.getD_some]
  rw [e, List.replicate_succ, List.set_append_right _ _ (by omega), e2, Nat.sub_self, List.set_cons_zero, e3, List.append_assoc]
  rfl

theorem made_rep (n : Nat) : (madeCells #[Value.int .u8 0] n).toList = List.replicate n (Value.int .u8 0) := by
  apply List.ext_getElem
  · simp [madeCells]
  · intro i h1 h2
    simp [madeCells, Nat.mod_one]

set_option maxHeartbeats 400000 in
theorem toByteS_calls (a : Option Addr) (n cap : Nat) (l : List Int) (w : World) (h : Bs w a n cap l) (hn : n ≤ 1048576) :
    Calls Tryd.prog 9 #[.slice a n cap] w fun e w' => ∃ g, e = .returned (.slice (some ⟨g, 0, none⟩) n n) ∧ Below w.heap.size w w' ∧ w'.ownsRow w.heap.size 5 1 (.slice (some ⟨g, 0, none⟩) n n) n (ob l) := by
  obtain ⟨i, hi, hz0, hz1, hz2⟩ := info_parts info5
  go_enter Tryd.func9, Tryd.ntmps9
  go_wp2_with (at_make; refine wpList_make_full _ rfl _ _ 22 rfl w.heap.size 5 i _ 1 Tryd.underlying22 hi hz0 hz1 _ _ _ _ n rfl rfl rfl rfl ?b1 ?b2 ?b3 ?_)
  case b1 => rw [hz2]; omega
  case b2 => unfold maxLen; omega
  case b3 => exact Nat.le_refl _
  clear hi hz0 hz1 hz2
  intro w1 hown hgr
  rw [made_rep] at hown
  have hbel : Below w.heap.size w w1 := (Below.refl _ _).grown hgr (Nat.le_refl _) (fun _ e => by cases e)
  go_wp2
  go_loopw [4] (fun i wr => ∃ k : Nat, k ≤ n ∧ i = .int .i64 k ∧ Below w.heap.size w wr ∧ wr.ownsRow w.heap.size 5 1 (.slice (some ⟨w.heap.size, 0, none⟩) n n) n (ob (l.take k) ++ List.replicate (n - k) (Value.int .u8 0))) (fun i _ => n - (intOf i).toNat)
  case atStart => exact ⟨0, Nat.zero_le _, rfl, hbel, by simpa [ob] using hown⟩
  case round =>
    obtain ⟨k, hk, rfl, hb, ho⟩ := hrel
    by_cases hlt : k < n
    · obtain ⟨b, off, rfl, hbl, hc⟩ := h.at_ (by omega)
      have hca : wr.cell? ⟨b, off + k, none⟩ = some (.int .u8 (l.getD k 0)) := by rw [hb.cell (p := ⟨b, off + k, none⟩) hbl]; exact hc k hlt
      have hco : wr.cell? ⟨w.heap.size, k, none⟩ = some (.int .u8 0) := by
        rw [ho.cellAt k (by omega)]
        have e2 : (ob (l.take k)).length = k := by simp [ob]; have := h.len_eq; omega
        rw [List.getElem?_append_right (by omega), e2, Nat.sub_self]
        rw [List.getElem?_replicate, if_pos (by omega)]
      have hfr : wr.frozen? ⟨w.heap.size, k, none⟩ = false := ho.frozenAt k
      have ho' := ho.stored k (.int .u8 (l.getD k 0))
      have hts := take_set_rep l k (by have := h.len_eq; omega)
      rw [h.len_eq] at hts
      rw [hts] at ho'
      have HO : Hid (World.ownsRow (wr.setCell ⟨w.heap.size, k, none⟩ (.int .u8 (l.getD k 0))) w.heap.size 5 1 (.slice (some ⟨w.heap.size, 0, none⟩) n n) n (ob (l.take (k + 1)) ++ List.replicate (n - (k + 1)) (Value.int .u8 0))) := ho'.1
      clear ho' hts ho hown hgr hbel
      go_wp2
      go_roundw
      case rel => exact ⟨k + 1, by omega, by go_num, hb.setCell (Nat.le_refl _) _, HO.out⟩
      case measure => simp [intOf]; omega
    · have e : k = n := by omega
      subst e
      go_wp2
      go_ret
      refine ⟨w.heap.size, rfl, hb, ?_⟩
      have e1 : l.take k = l := List.take_of_length_le (by have := h.len_eq; omega)
      rw [e1, Nat.sub_self, List.replicate_zero, List.append_nil] at ho
      exact ho
end Go.Proofs.YthobegpfibfocaaDoor
