import Derived.Test.YtnohmedccbogkaaGreatDoorDi6
import Derived.Test.YtnohmedccbogkaaGreatDoorDi0
import Derived.Test.YtnohmedccbogkaaGreatDoorDi4
import Derived.Test.YtnohmedccbogkaaGreatDoorDi2
import Derived.Test.YtnohmedccbogkaaGreatDoorDi5
namespace Go.Proofs.YtnohmedccbogkaaGreatDoor
open Go.RowKit
set_option linter.unusedVariables false
theorem lfP_facts : ∀ (n : Nat) (l : List Int) (es : List (ByteArray × ByteArray)), l.length ≤ n → lfP l = some es → es.length ≤ l.length ∧ ∀ e ∈ es, 1 ≤ e.1.size
  | 0, l, r, h, e => by rw [lfP_nil (by omega)] at e; cases e; exact ⟨by simp, by simp⟩
  | n + 1, l, r, h, e => by
    by_cases h0 : l.length = 0
    · rw [lfP_nil h0] at e; cases e; exact ⟨by simp, by simp⟩
    · cases h1 : lfOne l with
      | false => rw [lfP_no h0 h1] at e; cases e
      | true =>
        rw [lfP_yes h1] at e
        obtain ⟨r2, e2, rfl⟩ := Option.map_eq_some_iff.1 e
        have hb := lfOne_iff.1 h1
        have hl : lfLen l = 2 + lfK l + lfV l := rfl
        have := lfP_facts n (l.drop (lfLen l)) r2 (by rw [List.length_drop]; omega) e2
        rw [List.length_drop] at this
        refine ⟨by simp; omega, fun x hx => ?_⟩
        rcases List.mem_cons.1 hx with rfl | hx
        · show 1 ≤ (lfKey l).size
          unfold lfKey
          rw [strOfNums_size, List.length_take, List.length_drop]
          omega
        · exact this.2 x hx
theorem lnP_facts : ∀ (n : Nat) (l : List Int) (ls : List (ByteArray × Int)), l.length ≤ n → lnP l = some ls → ∀ e ∈ ls, 1 ≤ e.1.size
  | 0, l, r, h, e => by rw [lnP_nil (by omega)] at e; cases e; simp
  | n + 1, l, r, h, e => by
    by_cases h0 : l.length = 0
    · rw [lnP_nil h0] at e; cases e; simp
    · cases h1 : lnOne l with
      | false => rw [lnP_no h0 h1] at e; cases e
      | true =>
        rw [lnP_yes h1] at e
        obtain ⟨r2, e2, rfl⟩ := Option.map_eq_some_iff.1 e
        have hb := lnOne_iff.1 h1
        have := lnP_facts n (l.drop (5 + lfK l)) r2 (by rw [List.length_drop]; omega) e2
        intro x hx
        rcases List.mem_cons.1 hx with rfl | hx
        · show 1 ≤ (lfKey l).size
          unfold lfKey
          rw [strOfNums_size, List.length_take, List.length_drop]
          omega
        · exact this x hx
structure TrOk (P : Pg) (N : Nat) (st : St) (t : Tr) (st' : St) : Prop where
  full : full t true
  isT : isT t = true
  sm : smT t
  keys : ∀ k ∈ keysT t, 1 ≤ k.size
  pgs : ∀ x ∈ pgsT t, 2 ≤ x ∧ x < (N : Int)
  seen : st'.seen.Perm (pgsT t ++ st.seen)
structure KsOk (P : Pg) (N : Nat) (st : St) (b : Bool) (ls : List (ByteArray × Int)) (t : Tr) (st' : St) : Prop where
  full : full t b
  isT : isT t = false
  sm : smT t
  len : (klist t).length = ls.length
  keys : ∀ k ∈ keysT t, 1 ≤ k.size
  pgs : ∀ x ∈ pgsT t, 2 ≤ x ∧ x < (N : Int)
  seen : st'.seen.Perm (pgsT t ++ st.seen)
theorem rdK_ok {P : Pg} {N : Nat} {r : St → Int → Option (Tr × St)} (hr : ∀ st id t st', r st id = some (t, st') → TrOk P N st t st') : ∀ (ls : List (ByteArray × Int)) (b : Bool) (st : St) (t : Tr) (st' : St), (∀ m, (b = true → 0 < m) → m < ls.length → 1 ≤ (ls.getD m d0).1.size) → rdK r ls st = some (t, st') → KsOk P N st b ls t st'
  | [], b, st, t, st', _, h => by
    rw [rdK] at h
    cases h
    exact ⟨by simp [full], rfl, by simp [smT], rfl, by simp [keysT], by simp [pgsT], by simp [pgsT]⟩
  | (s, id) :: ls, b, st, t, st', hs, h => by
    rw [rdK] at h
    obtain ⟨x, h1, h2⟩ := Option.bind_eq_some_iff.1 h
    obtain ⟨y, h3, h4⟩ := Option.bind_eq_some_iff.1 h2
    cases h4
    have a := hr st id x.1 x.2 h1
    have k := rdK_ok hr ls false x.2 y.1 y.2 (fun m _ hm => by
      have := hs (m + 1) (fun _ => by omega) (by simp; omega)
      simpa using this) h3
    refine ⟨?_, rfl, ⟨a.sm, k.sm⟩, by simp [klist, k.len], fun kk hk => ?_, fun p hp => ?_, ?_⟩
    · rw [full]
      exact ⟨fun hb => by simpa using hs 0 (fun e => by rw [hb] at e; cases e) (by simp), a.isT, k.isT, a.full, k.full⟩
    · rw [keysT, List.mem_append] at hk
      rcases hk with hk | hk
      · exact a.keys kk hk
      · exact k.keys kk hk
    · rw [pgsT, List.mem_append] at hp
      rcases hp with hp | hp
      · exact a.pgs p hp
      · exact k.pgs p hp
    · rw [pgsT]
      refine k.seen.trans ?_
      refine (List.Perm.append_left _ a.seen).trans ?_
      rw [← List.append_assoc]
      exact List.Perm.append_right _ List.perm_append_comm
theorem rdT_ok {P : Pg} {N : Nat} (PW : PgW P N) : ∀ (f : Nat) (steps : Int) (st : St) (id : Int) (t : Tr) (st' : St), rdT P f steps st id = some (t, st') → TrOk P N st t st'
  | 0, steps, st, id, t, st', h => by rw [rdT] at h; cases h
  | f + 1, steps, st, id, t, st', h => by
    rw [rdT] at h
    cases hp : pgOk P st id with
    | false => rw [if_neg (by rw [hp]; decide)] at h; cases h
    | true =>
      rw [if_pos hp] at h
      obtain ⟨p1, p2, p3, p4⟩ := pgOk_iff.1 hp
      have hN := (PW.ok id p1).2
      have hl := PW.len id
      by_cases hk : P.kd id = 2
      · rw [if_pos hk] at h
        by_cases ht : st.tall < 0 ∨ st.tall = steps
        · rw [if_pos ht] at h
          obtain ⟨es, h1, h2⟩ := Option.bind_eq_some_iff.1 h
          by_cases he : es.isEmpty = true
          · rw [if_pos he] at h2; cases h2
          · rw [if_neg he] at h2
            cases h2
            have F := lfP_facts _ _ es (Nat.le_refl _) h1
            exact ⟨by rw [full]; simpa using he, rfl, by rw [smT]; omega, fun k hk => by
              rw [keysT] at hk
              obtain ⟨e, he, rfl⟩ := List.mem_map.1 hk
              exact F.2 e he, fun x hx => by rw [pgsT] at hx; simp at hx; subst hx; exact ⟨p2, hN⟩, by simp [pgsT]⟩
        · rw [if_neg ht] at h; cases h
      · rw [if_neg hk] at h
        obtain ⟨ls, h1, h2⟩ := Option.bind_eq_some_iff.1 h
        obtain ⟨y, h3, h4⟩ := Option.map_eq_some_iff.1 h2
        cases h4
        have hll := inP_len h1
        have hin := h1
        unfold inP at hin
        by_cases h4 : 4 ≤ (P.bd id).length
        · rw [if_pos h4] at hin
          obtain ⟨r, e2, e3⟩ := Option.map_eq_some_iff.1 hin
          have F := lnP_facts _ _ r (Nat.le_refl _) e2
          have k := rdK_ok (P := P) (N := N) (fun st id t st' h => rdT_ok PW f (steps + 1) st id t st' h) ls true ⟨id :: st.seen, st.tall⟩ y.1 y.2 (fun m hm hml => by
            subst e3
            cases m with
            | zero => exact absurd (hm rfl) (Nat.lt_irrefl _)
            | succ m =>
              have hmr : m < r.length := by simpa using hml
              have := F r[m] (List.getElem_mem _)
              simpa [List.getD, List.getElem?_eq_getElem hmr] using this) h3
          refine ⟨?_, rfl, ⟨by rw [k.len]; omega, k.sm⟩, k.keys, fun x hx => ?_, ?_⟩
          · rw [full]
            refine ⟨?_, k.full⟩
            have hlen := k.len
            have hT := k.isT
            cases hy : y.1 with
            | cons s t r => exact ⟨s, t, r, rfl⟩
            | nil => rw [hy] at hlen; subst e3; simp [klist] at hlen
            | leaf _ _ => rw [hy] at hT; simp [Go.Proofs.YtnohmedccbogkaaGreatDoor.isT] at hT
            | node _ _ => rw [hy] at hT; simp [Go.Proofs.YtnohmedccbogkaaGreatDoor.isT] at hT
          · rw [pgsT, List.mem_cons] at hx
            rcases hx with rfl | hx
            · exact ⟨p2, hN⟩
            · exact k.pgs x hx
          · rw [pgsT]
            have := k.seen
            exact this.trans (by simp)
        · rw [if_neg h4] at hin; cases hin
end Go.Proofs.YtnohmedccbogkaaGreatDoor

namespace Go.Proofs.YtnohmedccbogkaaGreatDoor
open Go.RowKit
set_option linter.unusedVariables false
theorem Bs.cut {w : World} {b off n cap : Nat} {l : List Int} (h : Bs w (some ⟨b, off, none⟩) n cap l) (i m : Nat) (hi : i + m ≤ n) (cap' : Nat) (hc : m ≤ cap') (hc' : cap' ≤ maxLen) : Bs w (some ⟨b, off + i, none⟩) m cap' ((l.drop i).take m) := by
  refine ⟨by simp [h.len_eq]; omega, hc, hc', fun e => (by cases e), fun hp => ?_, ?_⟩
  · obtain ⟨b1, off1, e, hl, hcell⟩ := h.at_ (by omega)
    cases e
    refine ⟨b, off + i, rfl, hl, fun j hj => ?_⟩
    rw [Nat.add_assoc, hcell (i + j) (by omega)]
    simp [List.getD, hj]
  · refine isB_take (fun j => ?_) m
    have := h.byte (i + j)
    simpa [List.getD] using this
theorem Bs.only {w w' : World} {a : Option Addr} {n c g : Nat} {l : List Int} (h : Bs w a n c l) (ho : OnlyB g w w') (hg : ∀ b off, 0 < n → a = some ⟨b, off, none⟩ → b ≠ g) : Bs w' a n c l :=
  ⟨h.len_eq, h.le, h.le', h.nil, fun hp => by
    obtain ⟨b, off, e, hl, hc⟩ := h.at_ hp
    refine ⟨b, off, e, Nat.lt_of_lt_of_le hl ho.size, fun i hi => ?_⟩
    rw [World.cell?_of_block (a := ⟨b, off + i, none⟩) (ho.block b hl (hg b off hp e))]
    exact hc i hi, h.byte⟩
def badE : List PanicEntry := [{ v := .iface 237 (.agg #[]), recovered := false }]
theorem need_yes (w : World) : Calls Tryz.prog 161 #[.bool true] w fun e w' => e = .returned (.tuple #[]) ∧ w' = w := by
  go_enter Tryz.func161, Tryz.ntmps161
  go_wp2
  go_end0
  exact ⟨rfl, rfl⟩
theorem need_no (w : World) : Calls Tryz.prog 161 #[.bool false] w fun e w' => e = .panicked badE ∧ w' = w := by
  go_enter Tryz.func161, Tryz.ntmps161
  go_wp2
  exact ⟨rfl, rfl, rfl⟩
structure CurA (w : World) (g B : Nat) (a : Option Addr) (n c : Nat) (l : List Int) : Prop where
  blk : Blk w 162 g [.slice a n c]
  bs : Bs w a n c l
  low : ∀ b off, 0 < n → a = some ⟨b, off, none⟩ → b < B
def Cur (w : World) (g B : Nat) (l : List Int) : Prop := ∃ a n c, CurA w g B a n c l
theorem CurA.ne {w : World} {g B : Nat} {a : Option Addr} {n c : Nat} {l : List Int} (h : CurA w g B a n c l) : ∀ b off, 0 < n → a = some ⟨b, off, none⟩ → b ≠ g := fun b off hp e hb => by
  obtain ⟨b1, off1, e1, hl, hc⟩ := h.bs.at_ hp
  rw [e] at e1
  cases e1
  subst hb
  have := hc 0 hp
  rw [h.blk.cell] at this
  cases off with
  | zero => simp at this
  | succ k => simp at this
theorem Cur.below {w w' : World} {g B : Nat} {l : List Int} (h : Cur w g B l) (ho : Below w.heap.size w w') : Cur w' g B l := by
  obtain ⟨a, n, c, h⟩ := h
  exact ⟨a, n, c, h.blk.below ho, h.bs.below ho, h.low⟩
theorem Cur.only {w w' : World} {g B k : Nat} {l : List Int} (h : Cur w g B l) (ho : OnlyB k w w') (hB : B ≤ k) (hk : g ≠ k) : Cur w' g B l := by
  obtain ⟨a, n, c, h⟩ := h
  exact ⟨a, n, c, h.blk.only ho hk, h.bs.only ho (fun b off hp e hb => by have := h.low b off hp e; omega), h.low⟩
theorem Cur.belowB {w w' : World} {g B N : Nat} {l : List Int} (h : Cur w g B l) (hb : Below N w w') (hB : B ≤ N) (hg : g < N) : Cur w' g B l := by
  obtain ⟨a, n, c, h⟩ := h
  refine ⟨a, n, c, (hb.block g hg).trans h.blk, ⟨h.bs.len_eq, h.bs.le, h.bs.le', h.bs.nil, fun hp => ?_, h.bs.byte⟩, h.low⟩
  obtain ⟨b, off, e, hl, hc⟩ := h.bs.at_ hp
  have hlo := h.low b off hp e
  refine ⟨b, off, e, Nat.lt_of_lt_of_le hl hb.size, fun i hi => ?_⟩
  rw [World.cell?_of_block (a := ⟨b, off + i, none⟩) (hb.block b (by omega))]
  exact hc i hi
theorem OnlyB.thenN {g N : Nat} {w w1 w2 : World} (h : OnlyB g w w1) (hb : Below N w1 w2) (hN : w.heap.size ≤ N) : OnlyB g w w2 :=
  ⟨hb.os.trans h.os, hb.tape.trans h.tape, hb.output.trans h.output, Nat.le_trans h.size hb.size, fun k hk hn => (hb.block k (by omega)).trans (h.block k hk hn)⟩
theorem Cur.lt {w : World} {g B : Nat} {l : List Int} (h : Cur w g B l) : g < w.heap.size := by
  obtain ⟨a, n, c, h⟩ := h
  exact h.blk.lt
theorem Cur.byte {w : World} {g B : Nat} {l : List Int} (h : Cur w g B l) : IsB l := by
  obtain ⟨a, n, c, h⟩ := h
  exact h.bs.byte
set_option maxHeartbeats 1000000 in
theorem take_yes (g B : Nat) (l : List Int) (k : Nat) (w : World) (h : Cur w g B l) (h1 : 1 ≤ k) (hk : k ≤ l.length) :
    Calls Tryz.prog 97 #[.pointer (some ⟨g, 0, none⟩), .int .i64 (k : Int)] w fun e w' => ∃ b off c', e = .returned (.slice (some ⟨b, off, none⟩) k c') ∧ OnlyB g w w' ∧ Cur w' g B (l.drop k) ∧ Bs w' (some ⟨b, off, none⟩) k c' (l.take k) ∧ b < w.heap.size ∧ b ≠ g ∧ b < B := by
  obtain ⟨a, n, c, h⟩ := h
  have hn := h.bs.len_eq
  obtain ⟨b, off, rfl, hl, _⟩ := h.bs.at_ (by omega)
  have hne := h.ne b off (by omega) rfl
  have hbB := h.low b off (by omega) rfl
  have hle := h.bs.le
  have hmx := h.bs.le'
  unfold maxLen at hmx
  have cc := h.blk.cell 0
  have fz := h.blk.free 0
  have hkk : decide (k ≤ n) = true := by simp; omega
  have P1 : Bs w (some ⟨b, off, none⟩) k c (l.take k) := by have := h.bs.cut 0 k (by omega) c (by omega) h.bs.le'; simpa using this
  have P2 : Bs w (some ⟨b, off + k, none⟩) (n - k) (c - k) (l.drop k) := by
    have := h.bs.cut k (n - k) (by omega) (c - k) (by omega) (by have := h.bs.le'; omega)
    rwa [List.take_of_length_le (by rw [List.length_drop]; omega)] at this
  have FIN : Hid (∀ a', (a' = some ⟨b, off + k, none⟩ ∨ (c = k ∧ a' = some ⟨b, off, none⟩)) → OnlyB g w (w.setCell ⟨g, 0, none⟩ (.slice a' (n - k) (c - k))) ∧ Cur (w.setCell ⟨g, 0, none⟩ (.slice a' (n - k) (c - k))) g B (l.drop k) ∧ Bs (w.setCell ⟨g, 0, none⟩ (.slice a' (n - k) (c - k))) (some ⟨b, off, none⟩) k c (l.take k)) := fun a' ha => by
    have o := onlyB_setCell w g 0 (.slice a' (n - k) (c - k))
    refine ⟨o, ⟨a', n - k, c - k, h.blk.set 0 _, ?_, fun b' off' hp e => ?_⟩, P1.only o (fun b' off' _ e => by cases e; exact hne)⟩
    rotate_left
    · rcases ha with rfl | ⟨hc, rfl⟩ <;> cases e <;> exact hbB
    rcases ha with rfl | ⟨hc, rfl⟩
    · exact P2.only o (fun b' off' _ e => by cases e; exact hne)
    · refine ⟨P2.len_eq, P2.le, P2.le', fun e => (by cases e), fun hp => by omega, P2.byte⟩
  clear h P1 P2
  go_enter Tryz.func97, Tryz.ntmps97
  go_wp2_with fail
  refine Calls.mono (need_yes w) ?_
  rintro e w1 ⟨rfl, hw⟩
  obtain rfl := hw.symm
  go_wp2
  · have hck : c - k = 0 := by omega
    go_ret
    have F := FIN.out (some ⟨b, off, none⟩) (Or.inr ⟨by assumption, rfl⟩)
    rw [hck] at F
    exact ⟨b, off, c, by simp_all, F.1, F.2.1, F.2.2, hl, hne, hbB⟩
  · go_ret
    have F := FIN.out (some ⟨b, off + k, none⟩) (Or.inl rfl)
    exact ⟨b, off, c, rfl, F.1, F.2.1, F.2.2, hl, hne, hbB⟩
theorem take_no (g B : Nat) (l : List Int) (k : Nat) (w : World) (h : Cur w g B l) (hk : l.length < k) (hk2 : k ≤ 1048576) :
    Calls Tryz.prog 97 #[.pointer (some ⟨g, 0, none⟩), .int .i64 (k : Int)] w fun e w' => e = .panicked badE ∧ w' = w := by
  obtain ⟨a, n, c, h⟩ := h
  have hn := h.bs.len_eq
  have hle := h.bs.le
  have hmx := h.bs.le'
  unfold maxLen at hmx
  have cc := h.blk.cell 0
  have fz := h.blk.free 0
  have hkk : decide (k ≤ n) = false := by simp; omega
  clear h
  go_enter Tryz.func97, Tryz.ntmps97
  go_wp2_with fail
  refine Calls.mono (need_no w) ?_
  rintro e w1 ⟨rfl, hw⟩
  obtain rfl := hw.symm
  go_wp2
  exact ⟨rfl, rfl, rfl⟩
end Go.Proofs.YtnohmedccbogkaaGreatDoor

namespace Go.Proofs.YtnohmedccbogkaaGreatDoor
open Go.RowKit
set_option linter.unusedVariables false
theorem id_yes (g B : Nat) (l : List Int) (w : World) (h : Cur w g B l) (hk : 4 ≤ l.length) :
    Calls Tryz.prog 186 #[.pointer (some ⟨g, 0, none⟩)] w fun e w' => e = .returned (.int .i64 (low (l.take 4))) ∧ OnlyB g w w' ∧ Cur w' g B (l.drop 4) := by
  have T := take_yes g B l 4 w h (by omega) hk
  clear h
  go_enter Tryz.func186, Tryz.ntmps186
  go_wp2_with fail
  refine Calls.mono T ?_
  rintro e w1 ⟨b, off, c', rfl, o, C, R, _⟩
  have N := numberOf_calls _ 4 c' (l.take 4) w1 R (by omega)
  have FIN : Hid _ := And.intro o C
  clear o C R T
  go_wp2_with fail
  refine Calls.mono N ?_
  rintro e w2 ⟨rfl, hw⟩
  obtain rfl := hw.symm
  go_wp2
  go_ret
  exact ⟨rfl, FIN.out⟩
theorem id_no (g B : Nat) (l : List Int) (w : World) (h : Cur w g B l) (hk : l.length < 4) :
    Calls Tryz.prog 186 #[.pointer (some ⟨g, 0, none⟩)] w fun e w' => e = .panicked badE ∧ OnlyB g w w' := by
  have T := take_no g B l 4 w h hk (by omega)
  clear h
  go_enter Tryz.func186, Tryz.ntmps186
  go_wp2_with fail
  refine Calls.mono T ?_
  rintro e w1 ⟨rfl, hw⟩
  obtain rfl := hw.symm
  go_wp2
  exact ⟨rfl, rfl, OnlyB.refl _ _⟩
theorem done_calls (g B : Nat) (l : List Int) (w : World) (h : Cur w g B l) :
    Calls Tryz.prog 124 #[.pointer (some ⟨g, 0, none⟩)] w fun e w' => e = .returned (.bool (decide (l.length = 0))) ∧ w' = w := by
  obtain ⟨a, n, c, h⟩ := h
  have hn := h.bs.len_eq
  have cc := h.blk.cell 0
  rw [hn]
  clear h
  by_cases h0 : n = 0
  · subst h0
    go_enter Tryz.func124, Tryz.ntmps124
    go_wp2
    go_ret
    exact ⟨rfl, rfl⟩
  · have hd : decide (n = 0) = false := decide_eq_false h0
    rw [hd]
    have h0' : ((n : Int) == 0) = false := by simp [h0]
    clear hd
    go_enter Tryz.func124, Tryz.ntmps124
    go_wp2
    go_ret
    first | exact ⟨rfl, rfl⟩ | exact ⟨by simp [h0], rfl⟩
set_option maxHeartbeats 1000000 in
set_option maxRecDepth 100000 in
theorem key_yes (g B : Nat) (l : List Int) (w : World) (h : Cur w g B l) (h1 : 1 ≤ lfK l) (h2 : lfK l ≤ 40) (h3 : 1 + lfK l ≤ l.length) :
    Calls Tryz.prog 191 #[.pointer (some ⟨g, 0, none⟩)] w fun e w' => e = .returned (.string (lfKey l)) ∧ OnlyB g w w' ∧ Cur w' g B (l.drop (1 + lfK l)) := by
  have hIB := h.byte
  obtain ⟨k0, k1⟩ := hIB 0
  have T := take_yes g B l 1 w h (by omega) (by omega)
  have hk : l.getD 0 0 = ((lfK l : Nat) : Int) := by unfold lfK; omega
  have hkey : Hid (lfKey l = strOfNums ((l.drop 1).take (lfK l))) := rfl
  have hdl : (l.drop 1).length = l.length - 1 := List.length_drop
  generalize lfK l = k at *
  clear h
  go_enter Tryz.func191, Tryz.ntmps191
  go_wp2_with fail
  refine Calls.mono T ?_
  rintro e w1 ⟨b, off, c', rfl, o, C, R, _⟩
  obtain ⟨_, _, e1, _, hc⟩ := R.at_ (by omega)
  cases e1
  have cc : w1.cell? ⟨b, off, none⟩ = some (.int .u8 (k : Nat)) := by
    have := hc 0 (by omega)
    rw [Nat.add_zero] at this
    rw [this]
    have e : (l.take 1).getD 0 0 = l.getD 0 0 := by cases l <;> simp
    rw [e, hk]
  have hd40 : decide ((k : Int) ≤ 40) = true := decide_eq_true (by omega)
  have N := need_yes w1
  have T2 := take_yes g B (l.drop 1) k w1 C h1 (by omega)
  have HO : Hid _ := o
  clear o C R T hc
  go_wp2_with fail
  refine Calls.mono N ?_
  rintro e w2 ⟨rfl, hw⟩
  obtain rfl := hw.symm
  clear hw N cc
  go_wp2_with fail
  refine Calls.mono T2 ?_
  rintro e w3 ⟨b3, off3, c3, rfl, o3, C3, R3, _⟩
  have kc := conv_bsD R3
  rw [← hkey.out] at kc
  have FIN : Hid _ := And.intro (HO.out.trans o3) C3
  clear o3 C3 R3 T2
  go_wp2_with fail
  go_ret
  exact ⟨rfl, FIN.out.1, by have := FIN.out.2; rwa [List.drop_drop] at this⟩
set_option maxHeartbeats 1000000 in
set_option maxRecDepth 100000 in
theorem key_no (g B : Nat) (l : List Int) (w : World) (h : Cur w g B l) (hno : ¬ (1 ≤ lfK l ∧ lfK l ≤ 40 ∧ 1 + lfK l ≤ l.length)) :
    Calls Tryz.prog 191 #[.pointer (some ⟨g, 0, none⟩)] w fun e w' => e = .panicked badE ∧ OnlyB g w w' := by
  have hIB := h.byte
  obtain ⟨k0, k1⟩ := hIB 0
  by_cases h1 : l.length < 1
  · have T := take_no g B l 1 w h h1 (by omega)
    clear h
    go_enter Tryz.func191, Tryz.ntmps191
    go_wp2_with fail
    refine Calls.mono T ?_
    rintro e w1 ⟨rfl, hw⟩
    obtain rfl := hw.symm
    go_wp2
    exact ⟨rfl, rfl, OnlyB.refl _ _⟩
  have T := take_yes g B l 1 w h (by omega) (by omega)
  have hk : l.getD 0 0 = ((lfK l : Nat) : Int) := by unfold lfK; omega
  have hk2 : lfK l < 256 := by omega
  have hdl : (l.drop 1).length = l.length - 1 := List.length_drop
  generalize lfK l = k at *
  clear h
  go_enter Tryz.func191, Tryz.ntmps191
  go_wp2_with fail
  refine Calls.mono T ?_
  rintro e w1 ⟨b, off, c', rfl, o, C, R, _⟩
  obtain ⟨_, _, e1, _, hc⟩ := R.at_ (by omega)
  cases e1
  have cc : w1.cell? ⟨b, off, none⟩ = some (.int .u8 (k : Nat)) := by
    have := hc 0 (by omega)
    rw [Nat.add_zero] at this
    rw [this]
    have e : (l.take 1).getD 0 0 = l.getD 0 0 := by cases l <;> simp
    rw [e, hk]
  have HO : Hid _ := o
  clear o R T hc
  by_cases hin : 1 ≤ k ∧ k ≤ 40
  · obtain ⟨h2, h3⟩ := hin
    have hd40 : decide ((k : Int) ≤ 40) = true := decide_eq_true (by omega)
    have N := need_yes w1
    have T2 := take_no g B (l.drop 1) k w1 C (by omega) (by omega)
    clear C
    go_wp2_with fail
    refine Calls.mono N ?_
    rintro e w2 ⟨rfl, hw⟩
    obtain rfl := hw.symm
    clear hw N cc
    go_wp2_with fail
    refine Calls.mono T2 ?_
    rintro e w3 ⟨rfl, hw⟩
    obtain rfl := hw.symm
    go_wp2
    exact ⟨rfl, rfl, HO.out⟩
  · have N := need_no w1
    clear C
    by_cases h2 : 1 ≤ k
    · have hd40 : decide ((k : Int) ≤ 40) = false := decide_eq_false (by omega)
      go_wp2_with fail
      refine Calls.mono N ?_
      rintro e w2 ⟨rfl, hw⟩
      obtain rfl := hw.symm
      go_wp2
      exact ⟨rfl, rfl, HO.out⟩
    · have h3 : k = 0 := by omega
      subst h3
      go_wp2_with fail
      refine Calls.mono N ?_
      rintro e w2 ⟨rfl, hw⟩
      obtain rfl := hw.symm
      go_wp2
      exact ⟨rfl, rfl, HO.out⟩
theorem take_zero (g B : Nat) (l : List Int) (w : World) (h : Cur w g B l) :
    Calls Tryz.prog 97 #[.pointer (some ⟨g, 0, none⟩), .int .i64 0] w fun e w' => ∃ a c', e = .returned (.slice a 0 c') ∧ OnlyB g w w' ∧ Cur w' g B l ∧ Bs w' a 0 c' [] := by
  obtain ⟨a, n, c, h⟩ := h
  have hn := h.bs.len_eq
  have hle := h.bs.le
  have hmx := h.bs.le'
  unfold maxLen at hmx
  have cc := h.blk.cell 0
  have fz := h.blk.free 0
  have o := onlyB_setCell w g 0 (.slice a n c)
  have hkk : decide ((0 : Int) ≤ (n : Int)) = true := decide_eq_true (by omega)
  have FIN : Hid (OnlyB g w (w.setCell ⟨g, 0, none⟩ (.slice a n c)) ∧ Cur (w.setCell ⟨g, 0, none⟩ (.slice a n c)) g B l ∧ Bs (w.setCell ⟨g, 0, none⟩ (.slice a n c)) a 0 c []) :=
    ⟨o, ⟨a, n, c, h.blk.set 0 _, h.bs.only o h.ne, h.low⟩, rfl, by omega, by unfold maxLen; omega, h.bs.nil, fun hp => absurd hp (Nat.lt_irrefl _), isB_nil⟩
  clear h o
  go_enter Tryz.func97, Tryz.ntmps97
  go_wp2_with fail
  refine Calls.mono (need_yes w) ?_
  rintro e w1 ⟨rfl, hw⟩
  obtain rfl := hw.symm
  cases a with
  | none =>
    go_wp2
    go_ret
    exact ⟨none, c, rfl, FIN.out⟩
  | some ad =>
    go_wp2
    go_ret
    exact ⟨some ad, c, rfl, FIN.out⟩
def vlVal (l : List Int) : ByteArray := strOfNums ((l.drop 1).take (lfK l))
set_option maxHeartbeats 1000000 in
set_option maxRecDepth 100000 in
theorem value_yes (g B : Nat) (l : List Int) (w : World) (h : Cur w g B l) (h2 : lfK l ≤ 70) (h3 : 1 + lfK l ≤ l.length) :
    Calls Tryz.prog 192 #[.pointer (some ⟨g, 0, none⟩)] w fun e w' => e = .returned (.string (vlVal l)) ∧ OnlyB g w w' ∧ Cur w' g B (l.drop (1 + lfK l)) := by
  have hIB := h.byte
  obtain ⟨k0, k1⟩ := hIB 0
  have T := take_yes g B l 1 w h (by omega) (by omega)
  have hk : l.getD 0 0 = ((lfK l : Nat) : Int) := by unfold lfK; omega
  have hkey : Hid (vlVal l = strOfNums ((l.drop 1).take (lfK l))) := rfl
  have hdl : (l.drop 1).length = l.length - 1 := List.length_drop
  generalize lfK l = k at *
  clear h
  go_enter Tryz.func192, Tryz.ntmps192
  go_wp2_with fail
  refine Calls.mono T ?_
  rintro e w1 ⟨b, off, c', rfl, o, C, R, _⟩
  obtain ⟨_, _, e1, _, hc⟩ := R.at_ (by omega)
  cases e1
  have cc : w1.cell? ⟨b, off, none⟩ = some (.int .u8 (k : Nat)) := by
    have := hc 0 (by omega)
    rw [Nat.add_zero] at this
    rw [this]
    have e : (l.take 1).getD 0 0 = l.getD 0 0 := by cases l <;> simp
    rw [e, hk]
  have HO : Hid _ := o
  have hd70 : decide ((k : Int) ≤ 70) = true := decide_eq_true (by omega)
  have N := need_yes w1
  have T2 : Calls Tryz.prog 97 #[.pointer (some ⟨g, 0, none⟩), .int .i64 (k : Int)] w1 fun e w' => ∃ a c', e = .returned (.slice a k c') ∧ OnlyB g w1 w' ∧ Cur w' g B ((l.drop 1).drop k) ∧ Bs w' a k c' ((l.drop 1).take k) := by
    by_cases hk0 : k = 0
    · subst hk0
      refine (take_zero g B (l.drop 1) w1 C).mono ?_
      rintro e w' ⟨a, c, rfl, h1, h2, h3⟩
      exact ⟨a, c, rfl, h1, h2, h3⟩
    · refine (take_yes g B (l.drop 1) k w1 C (by omega) (by omega)).mono ?_
      rintro e w' ⟨b2, off2, c2, rfl, h1, h2, h3, _⟩
      exact ⟨_, c2, rfl, h1, h2, h3⟩
  clear o C R T hc
  go_wp2_with fail
  refine Calls.mono N ?_
  rintro e w2 ⟨rfl, hw⟩
  obtain rfl := hw.symm
  clear hw N cc
  go_wp2_with fail
  refine Calls.mono T2 ?_
  rintro e w3 ⟨a3, c3, rfl, o3, C3, R3⟩
  have kc := conv_bsD R3
  rw [← hkey.out] at kc
  have FIN : Hid _ := And.intro (HO.out.trans o3) C3
  clear o3 C3 R3 T2
  go_wp2_with fail
  go_ret
  exact ⟨rfl, FIN.out.1, by have := FIN.out.2; rwa [List.drop_drop] at this⟩
set_option maxHeartbeats 1000000 in
set_option maxRecDepth 100000 in
theorem value_no (g B : Nat) (l : List Int) (w : World) (h : Cur w g B l) (hno : ¬ (lfK l ≤ 70 ∧ 1 + lfK l ≤ l.length)) :
    Calls Tryz.prog 192 #[.pointer (some ⟨g, 0, none⟩)] w fun e w' => e = .panicked badE ∧ OnlyB g w w' := by
  have hIB := h.byte
  obtain ⟨k0, k1⟩ := hIB 0
  by_cases h1 : l.length < 1
  · have T := take_no g B l 1 w h h1 (by omega)
    clear h
    go_enter Tryz.func192, Tryz.ntmps192
    go_wp2_with fail
    refine Calls.mono T ?_
    rintro e w1 ⟨rfl, hw⟩
    obtain rfl := hw.symm
    go_wp2
    exact ⟨rfl, rfl, OnlyB.refl _ _⟩
  have T := take_yes g B l 1 w h (by omega) (by omega)
  have hk : l.getD 0 0 = ((lfK l : Nat) : Int) := by unfold lfK; omega
  have hk2 : lfK l < 256 := by omega
  have hdl : (l.drop 1).length = l.length - 1 := List.length_drop
  generalize lfK l = k at *
  clear h
  go_enter Tryz.func192, Tryz.ntmps192
  go_wp2_with fail
  refine Calls.mono T ?_
  rintro e w1 ⟨b, off, c', rfl, o, C, R, _⟩
  obtain ⟨_, _, e1, _, hc⟩ := R.at_ (by omega)
  cases e1
  have cc : w1.cell? ⟨b, off, none⟩ = some (.int .u8 (k : Nat)) := by
    have := hc 0 (by omega)
    rw [Nat.add_zero] at this
    rw [this]
    have e : (l.take 1).getD 0 0 = l.getD 0 0 := by cases l <;> simp
    rw [e, hk]
  have HO : Hid _ := o
  clear o R T hc
  by_cases hin : k ≤ 70
  · have hd70 : decide ((k : Int) ≤ 70) = true := decide_eq_true (by omega)
    have N := need_yes w1
    have T2 := take_no g B (l.drop 1) k w1 C (by omega) (by omega)
    clear C
    go_wp2_with fail
    refine Calls.mono N ?_
    rintro e w2 ⟨rfl, hw⟩
    obtain rfl := hw.symm
    clear hw N cc
    go_wp2_with fail
    refine Calls.mono T2 ?_
    rintro e w3 ⟨rfl, hw⟩
    obtain rfl := hw.symm
    go_wp2
    exact ⟨rfl, rfl, HO.out⟩
  · have hd70 : decide ((k : Int) ≤ 70) = false := decide_eq_false (by omega)
    have N := need_no w1
    clear C
    go_wp2_with fail
    refine Calls.mono N ?_
    rintro e w2 ⟨rfl, hw⟩
    obtain rfl := hw.symm
    go_wp2
    exact ⟨rfl, rfl, HO.out⟩
end Go.Proofs.YtnohmedccbogkaaGreatDoor

namespace Go.Proofs.YtnohmedccbogkaaGreatDoor
open Go.RowKit
set_option linter.unusedVariables false
theorem elEn : ElT 77 93 2 (.agg #[.string (strOfNums []), .string (strOfNums [])]) 32 := ⟨Tryz.underlying77, by kernel_rfl, rfl, by omega⟩
def e0 : ByteArray × ByteArray := (strOfNums [], strOfNums [])
def enF (es : List (ByteArray × ByteArray)) : Nat → List Value := fun i => [.string (es.getD i e0).1, .string (es.getD i e0).2]
theorem ORow.onlyN {e s B g : Nat} {w w' : World} {a : Option Addr} {n c : Nat} {f : Nat → List Value} (h : ORow e s B w a n c f) (ho : OnlyB g w w') (hg : g < B) : ORow e s B w' a n c f :=
  h.keep (fun k ek => by
    subst ek
    obtain ⟨hB, cur, hc⟩ := h.blk
    exact ho.block k (Array.getElem?_eq_some_iff.1 hc).1 (by omega))
theorem enF_app (es : List (ByteArray × ByteArray)) (x : ByteArray × ByteArray) (i : Nat) (hi : i < es.length + 1) : updR (enF es) es.length [.string x.1, .string x.2] i = enF (es ++ [x]) i := by
  by_cases e : i = es.length
  · subst e
    rw [updR_same]
    simp [enF]
  · rw [updR_lt _ _ (by omega)]
    simp [enF, List.getD, List.getElem?_append_left (show i < es.length by omega)]
def curLen (w : World) (g : Nat) : Nat := match w.cell? ⟨g, 0, none⟩ with | some (.slice _ n _) => n | _ => 0
theorem curLen_is {w : World} {g B : Nat} {l : List Int} (h : Cur w g B l) : curLen w g = l.length := by
  obtain ⟨a, n, c, h⟩ := h
  have cc : w.cell? ⟨g, 0, none⟩ = some (.slice a n c) := h.blk.cell 0
  unfold curLen
  rw [cc, h.bs.len_eq]
def EnP (l : List Int) (g : Nat) (w : World) (e : Ending) (w' : World) : Prop := OnlyB g w w' ∧ ((∃ es a c, lfP l = some es ∧ es ≠ [] ∧ e = .returned (.slice a es.length c) ∧ ORow 93 2 w.heap.size w' a es.length c (enF es)) ∨ ((lfP l = none ∨ lfP l = some []) ∧ e = .panicked badE))
theorem built_en (a b : ByteArray) : Tryz.prog.built 93 [(0, .string a), (1, .string b)] = some #[.string a, .string b] := by kernel_rfl
theorem lfV_is (l : List Int) : lfV l = lfK (l.drop (1 + lfK l)) := by
  unfold lfV
  generalize 1 + lfK l = p
  unfold lfK
  simp [List.getD]
set_option maxHeartbeats 2000000 in
set_option maxRecDepth 100000 in
theorem entries_calls (g B : Nat) (l : List Int) (w : World) (h : Cur w g B l) (hB : B ≤ w.heap.size) (hl : l.length ≤ 1048576) :
    Calls Tryz.prog 158 #[.pointer (some ⟨g, 0, none⟩)] w fun e w' => EnP l g w e w' := by
  have hg := h.lt
  have H0 : Hid _ := h
  clear h
  go_enter Tryz.func158, Tryz.ntmps158
  go_wp2_with fail
  go_loopw [3] (fun s wr => ∃ (a : Option Addr) (c : Nat) (es : List (ByteArray × ByteArray)) (l1 : List Int), s = .slice a es.length c ∧ OnlyB g w wr ∧ Cur wr g B l1 ∧ ORow 93 2 w.heap.size wr a es.length c (enF es) ∧ lfP l = (lfP l1).map (es ++ ·) ∧ es.length + l1.length ≤ l.length) (fun _ wr => curLen wr g)
  case atStart => exact ⟨none, 0, [], l, rfl, OnlyB.refl _ _, H0.out, orow_nil _ _ _ _ _, by simp, by simp⟩
  case round =>
    obtain ⟨a, c, es, l1, rfl, ho, hc, hr, heq, hle⟩ := hrel
    obtain ⟨wR, hwX⟩ : ∃ wX, wX = wr := ⟨_, rfl⟩
    subst hwX
    have hcl := curLen_is hc
    have HCL : Hid _ := hcl
    have HE : Hid _ := And.intro heq (And.intro ho hr)
    have hwz : w.heap.size ≤ wR.heap.size := ho.size
    clear hcl heq ho hr
    by_cases hstop : 0 < es.length ∧ l1.length = 0
    · obtain ⟨he0, hl0⟩ := hstop
      have DC := done_calls g B l1 wR hc
      rw [decide_eq_true hl0] at DC
      have he1 : ((es.length : Int) == 0) = false := by simp only [beq_eq_false_iff_ne, ne_eq]; omega
      have hfin : Hid (lfP l = some es) := by show lfP l = some es; rw [HE.out.1, lfP_nil hl0]; simp
      clear hc
      go_wp2_with fail
      refine DC.mono ?_
      rintro e u ⟨rfl, hu⟩
      obtain rfl := hu.symm
      clear hu DC
      go_wp2_with fail
      go_ret
      exact ⟨HE.out.2.1, Or.inl ⟨es, a, c, hfin.out, fun e => by rw [e] at he0; simp at he0, rfl, HE.out.2.2⟩⟩
    have hd : es.length = 0 ∨ (0 < es.length ∧ 0 < l1.length) := by omega
    have FINP : Hid (∀ w', OnlyB g wR w' → lfOne l1 = false → EnP l g w (.panicked badE) w') := fun w' ho hq => by
      refine ⟨HE.out.2.1.trans ho, Or.inr ⟨?_, rfl⟩⟩
      rw [HE.out.1]
      rcases hd with e | ⟨_, e⟩
      · rw [List.length_eq_zero_iff.1 e]
        by_cases hz : l1.length = 0
        · right; rw [lfP_nil hz]; rfl
        · left; rw [lfP_no hz hq]; rfl
      · left; rw [lfP_no (by omega) hq]; rfl
    rcases hd with he0 | ⟨he0, hl0⟩
    all_goals
      first
        | (have he1 : ((es.length : Int) == 0) = true := by rw [he0]; rfl
           have HZ : Hid _ := he0
           clear he0
           go_upto_region 3 with fail
           clear he1)
        | (have DC := done_calls g B l1 wR hc
           rw [decide_eq_false (by omega)] at DC
           have he1 : ((es.length : Int) == 0) = false := by simp only [beq_eq_false_iff_ne, ne_eq]; omega
           go_upto_region 3 with fail
           refine DC.mono ?_
           rintro e u ⟨rfl, hu⟩
           obtain rfl := hu.symm
           clear hu DC
           go_upto_region 3 with fail
           clear he1)
      by_cases hk : ¬ (1 ≤ lfK l1 ∧ lfK l1 ≤ 40 ∧ 1 + lfK l1 ≤ l1.length)
      · have KN := key_no g B l1 wR hc hk
        have hno : lfOne l1 = false := by
          rw [← Bool.not_eq_true, lfOne_iff]; omega
        clear hc
        go_wp2_with fail
        refine KN.mono ?_
        rintro e w1 ⟨rfl, o1⟩
        go_wp2
        exact ⟨rfl, FINP.out _ o1 hno⟩
      obtain ⟨hk1, hk2, hk3⟩ := Decidable.of_not_not hk
      have KY := key_yes g B l1 wR hc hk1 hk2 hk3
      clear hc
      go_upto_region 4 with fail
      refine KY.mono ?_
      rintro e w1 ⟨rfl, o1, C1⟩
      clear KY
      go_upto_region 4 with fail
      have hdl : (l1.drop (1 + lfK l1)).length = l1.length - (1 + lfK l1) := List.length_drop
      have hvk : lfV l1 = lfK (l1.drop (1 + lfK l1)) := lfV_is l1
      by_cases hv : ¬ (lfK (l1.drop (1 + lfK l1)) ≤ 70 ∧ 1 + lfK (l1.drop (1 + lfK l1)) ≤ (l1.drop (1 + lfK l1)).length)
      · have VN := value_no g B _ w1 C1 hv
        have hno : lfOne l1 = false := by
          rw [← Bool.not_eq_true, lfOne_iff]; omega
        clear C1
        go_wp2_with fail
        refine VN.mono ?_
        rintro e w2 ⟨rfl, o2⟩
        go_wp2
        exact ⟨rfl, FINP.out _ (o1.trans o2) hno⟩
      obtain ⟨hv1, hv2⟩ := Decidable.of_not_not hv
      have VY := value_yes g B _ w1 C1 hv1 hv2
      clear C1
      have hone : lfOne l1 = true := by rw [lfOne_iff]; omega
      have hval : vlVal (l1.drop (1 + lfK l1)) = lfVal l1 := by
        unfold vlVal lfVal
        rw [hvk, List.drop_drop]
        congr 3
        omega
      rw [hval, List.drop_drop] at VY
      have hlen : 1 + lfK l1 + (1 + lfK (l1.drop (1 + lfK l1))) = lfLen l1 := by unfold lfLen; omega
      rw [hlen] at VY
      have hll : lfLen l1 ≤ l1.length := by omega
      have hlp : 0 < lfLen l1 := by omega
      have HY : Hid _ := hone
      clear hval hvk hdl hv1 hv2 hk1 hk2 hk3 hlen hone
      go_wp2_with fail
      refine VY.mono ?_
      rintro e w2 ⟨rfl, o2, C2⟩
      clear VY
      have o12 := o1.trans o2
      have hR2 := HE.out.2.2.onlyN o12 (by omega)
      have hz2 : w.heap.size ≤ w2.heap.size := Nat.le_trans hwz o12.size
      have HC2 : Hid _ := And.intro C2 o12
      clear C2 o12 o1 o2
      have hbu := built_en (lfKey l1) (lfVal l1)
      go_upto_region 9 with (first | (refine wpList_appRow rfl _ _ elEn rfl w.heap.size a _ c (enF es) rfl hR2 [.string (lfKey l1), .string (lfVal l1)] rfl (by simp [Value.oneCell']) rfl (by omega) (by omega) hz2 ?_; rintro a' c' w4 hown' hb hgr))
      have o4 : OnlyB g w w4 := (HE.out.2.1.trans HC2.out.2).thenN hb (Nat.le_refl _)
      have C4 := HC2.out.1.belowB hb (by omega) hg
      refine ⟨⟨a', c', es ++ [(lfKey l1, lfVal l1)], l1.drop (lfLen l1), by simp, o4, C4, ?_, ?_, ?_⟩, ?_⟩
      · rw [List.length_append]
        exact hown'.congr (fun i hi => enF_app es (lfKey l1, lfVal l1) i hi)
      · rw [HE.out.1, lfP_yes HY.out]
        cases lfP (l1.drop (lfLen l1)) with
        | none => rfl
        | some r => simp
      · simp; omega
      · rw [curLen_is C4, HCL.out]
        simp; omega
end Go.Proofs.YtnohmedccbogkaaGreatDoor

namespace Go.Proofs.YtnohmedccbogkaaGreatDoor
open Go.RowKit
set_option linter.unusedVariables false
theorem elLn : ElT 227 230 2 (.agg #[.string (strOfNums []), .int .i64 0]) 24 := ⟨Tryz.underlying227, by kernel_rfl, rfl, by omega⟩
def l0 : ByteArray × Int := (strOfNums [], 0)
def lnF (es : List (ByteArray × Int)) : Nat → List Value := fun i => [.string (es.getD i l0).1, .int .i64 (es.getD i l0).2]
theorem lnF_app (es : List (ByteArray × Int)) (x : ByteArray × Int) (i : Nat) (hi : i < es.length + 1) : updR (lnF es) es.length [.string x.1, .int .i64 x.2] i = lnF (es ++ [x]) i := by
  by_cases e : i = es.length
  · subst e
    rw [updR_same]
    simp [lnF]
  · rw [updR_lt _ _ (by omega)]
    simp [lnF, List.getD, List.getElem?_append_left (show i < es.length by omega)]
def LnP (l : List Int) (g : Nat) (w : World) (e : Ending) (w' : World) : Prop := OnlyB g w w' ∧ ((∃ ls a c, inP l = some ls ∧ e = .returned (.slice a ls.length c) ∧ ORow 230 2 w.heap.size w' a ls.length c (lnF ls)) ∨ (inP l = none ∧ e = .panicked badE))
theorem built_ln (a : ByteArray) (i : Int) : Tryz.prog.built 230 [(0, .string a), (1, .int .i64 i)] = some #[.string a, .int .i64 i] := by kernel_rfl
theorem built_ln1 (i : Int) : Tryz.prog.built 230 [(1, .int .i64 i)] = some #[.string (strOfNums []), .int .i64 i] := by kernel_rfl
theorem orow_one (e s B : Nat) (w : World) (hB : B ≤ w.heap.size) (x : List Value) (hx : x.length = s) (f : Nat → List Value) (hf : f 0 = x) : ORow e s B (w.alloc (.cells x.toArray e)) (some ⟨w.heap.size, 0, none⟩) 1 1 f := by
  have := World.ownsRow_lit (base := B) (e := e) (size := s) w x.toArray 1 hB (by unfold maxLen; omega) (by simp [hx])
  simpa [ORow, rowV, hf] using this
set_option maxHeartbeats 2000000 in
set_option maxRecDepth 100000 in
theorem links_calls (g B : Nat) (l : List Int) (w : World) (h : Cur w g B l) (hB : B ≤ w.heap.size) (hl : l.length ≤ 1048576) :
    Calls Tryz.prog 159 #[.pointer (some ⟨g, 0, none⟩)] w fun e w' => LnP l g w e w' := by
  have hg := h.lt
  by_cases h4 : l.length < 4
  · have I := id_no g B l w h h4
    have hno : inP l = none := by unfold inP; rw [if_neg (by omega)]
    clear h
    go_enter Tryz.func159, Tryz.ntmps159
    go_wp2_with fail
    refine I.mono ?_
    rintro e w1 ⟨rfl, o1⟩
    go_wp2
    exact ⟨rfl, o1, Or.inr ⟨hno, rfl⟩⟩
  have I := id_yes g B l w h (by omega)
  have hin : inP l = (lnP (l.drop 4)).map ((strOfNums [], low4 l) :: ·) := by unfold inP; rw [if_pos (by omega)]
  have HIN : Hid _ := hin
  rw [show low (l.take 4) = low4 l from rfl] at I
  clear h hin
  go_enter Tryz.func159, Tryz.ntmps159
  go_upto_region 2 with fail
  refine I.mono ?_
  rintro e w1 ⟨rfl, o1, C1⟩
  clear I
  have hbu := built_ln1 (low4 l)
  have HC1 : Hid _ := And.intro o1 C1
  have hz1 := o1.size
  clear o1 C1
  go_upto_region 2 with fail
  have hR1 : ORow 230 2 w.heap.size (w1.alloc (.cells [.string (strOfNums []), .int .i64 (low4 l)].toArray 230)) (some ⟨w1.heap.size, 0, none⟩) 1 1 (lnF [(strOfNums [], low4 l)]) := orow_one _ _ _ _ hz1 _ rfl _ rfl
  have hb1 : Below w1.heap.size w1 (w1.alloc (.cells [.string (strOfNums []), .int .i64 (low4 l)].toArray 230)) := (Below.refl _ _).alloc (Nat.le_refl _) _
  have o1 := HC1.out.1.thenN hb1 hz1
  have C1 := HC1.out.2.belowB hb1 (by omega) (by omega)
  change Code.wp _ _ _ _ (w1.alloc (.cells [.string (strOfNums []), .int .i64 (low4 l)].toArray 230))
  generalize (w1.alloc (.cells [.string (strOfNums []), .int .i64 (low4 l)].toArray 230)) = W at *
  generalize w1.heap.size = k1 at *
  have H0 : Hid _ := And.intro o1 (And.intro C1 hR1)
  clear o1 C1 hR1 hb1 HC1 hz1 hbu
  go_loopw [3] (fun s wr => ∃ (a : Option Addr) (c : Nat) (es : List (ByteArray × Int)) (l1 : List Int), s = .slice a es.length c ∧ OnlyB g w wr ∧ Cur wr g B l1 ∧ ORow 230 2 w.heap.size wr a es.length c (lnF es) ∧ inP l = (lnP l1).map (es ++ ·) ∧ es.length + l1.length ≤ l.length) (fun _ wr => curLen wr g)
  case atStart => exact ⟨some ⟨k1, 0, none⟩, 1, [(strOfNums [], low4 l)], l.drop 4, rfl, H0.out.1, H0.out.2.1, H0.out.2.2, by rw [HIN.out]; rfl, by simp; omega⟩
  case round =>
    obtain ⟨a, c, es, l1, rfl, ho, hc, hr, heq, hle⟩ := hrel
    obtain ⟨wR, hwX⟩ : ∃ wX, wX = wr := ⟨_, rfl⟩
    subst hwX
    have hcl := curLen_is hc
    have HCL : Hid _ := hcl
    have HE : Hid _ := And.intro heq (And.intro ho hr)
    have hwz : w.heap.size ≤ wR.heap.size := ho.size
    clear hcl heq ho hr
    have DC := done_calls g B l1 wR hc
    by_cases hl0 : l1.length = 0
    · rw [decide_eq_true hl0] at DC
      have hfin : Hid (inP l = some es) := by show inP l = some es; rw [HE.out.1, lnP_nil hl0]; simp
      clear hc
      go_wp2_with fail
      refine DC.mono ?_
      rintro e u ⟨rfl, hu⟩
      obtain rfl := hu.symm
      clear hu DC
      go_wp2_with fail
      go_ret
      exact ⟨HE.out.2.1, Or.inl ⟨es, a, c, hfin.out, rfl, HE.out.2.2⟩⟩
    rw [decide_eq_false hl0] at DC
    have FINP : Hid (∀ w', OnlyB g wR w' → lnOne l1 = false → LnP l g w (.panicked badE) w') := fun w' ho hq => by
      refine ⟨HE.out.2.1.trans ho, Or.inr ⟨?_, rfl⟩⟩
      rw [HE.out.1, lnP_no hl0 hq]; rfl
    go_upto_region 3 with fail
    refine DC.mono ?_
    rintro e u ⟨rfl, hu⟩
    obtain rfl := hu.symm
    clear hu DC
    go_upto_region 3 with fail
    by_cases hk : ¬ (1 ≤ lfK l1 ∧ lfK l1 ≤ 40 ∧ 1 + lfK l1 ≤ l1.length)
    · have KN := key_no g B l1 wR hc hk
      have hno : lnOne l1 = false := by
        rw [← Bool.not_eq_true, lnOne_iff]; omega
      clear hc
      go_wp2_with fail
      refine KN.mono ?_
      rintro e w1 ⟨rfl, o1⟩
      go_wp2
      exact ⟨rfl, FINP.out _ o1 hno⟩
    obtain ⟨hk1, hk2, hk3⟩ := Decidable.of_not_not hk
    have KY := key_yes g B l1 wR hc hk1 hk2 hk3
    clear hc
    go_upto_region 4 with fail
    refine KY.mono ?_
    rintro e w1 ⟨rfl, o1, C1⟩
    clear KY
    go_upto_region 4 with fail
    have hdl : (l1.drop (1 + lfK l1)).length = l1.length - (1 + lfK l1) := List.length_drop
    by_cases hv : (l1.drop (1 + lfK l1)).length < 4
    · have VN := id_no g B _ w1 C1 hv
      have hno : lnOne l1 = false := by
        rw [← Bool.not_eq_true, lnOne_iff]; omega
      clear C1
      go_wp2_with fail
      refine VN.mono ?_
      rintro e w2 ⟨rfl, o2⟩
      go_wp2
      exact ⟨rfl, FINP.out _ (o1.trans o2) hno⟩
    have VY := id_yes g B _ w1 C1 (by omega)
    clear C1
    have hone : lnOne l1 = true := by rw [lnOne_iff]; omega
    rw [show low ((l1.drop (1 + lfK l1)).take 4) = low4 (l1.drop (1 + lfK l1)) from rfl, List.drop_drop, show 1 + lfK l1 + 4 = 5 + lfK l1 by omega] at VY
    have hll : 5 + lfK l1 ≤ l1.length := by omega
    have HY : Hid _ := hone
    clear hdl hv hk1 hk2 hk3 hone
    go_wp2_with fail
    refine VY.mono ?_
    rintro e w2 ⟨rfl, o2, C2⟩
    clear VY
    have o12 := o1.trans o2
    have hR2 := HE.out.2.2.onlyN o12 (by omega)
    have hz2 : w.heap.size ≤ w2.heap.size := Nat.le_trans hwz o12.size
    have HC2 : Hid _ := And.intro C2 o12
    clear C2 o12 o1 o2
    have hbu := built_ln (lfKey l1) (low4 (l1.drop (1 + lfK l1)))
    generalize hid : low4 (l1.drop (1 + lfK l1)) = idn at *
    have HID : Hid _ := hid
    clear hid
    go_upto_region 9 with (first | (refine wpList_appRow rfl _ _ elLn rfl w.heap.size a _ c (lnF es) rfl hR2 [.string (lfKey l1), .int .i64 idn] rfl (by simp [Value.oneCell']) rfl (by omega) (by omega) hz2 ?_; rintro a' c' w4 hown' hb hgr))
    have o4 : OnlyB g w w4 := (HE.out.2.1.trans HC2.out.2).thenN hb (Nat.le_refl _)
    have C4 := HC2.out.1.belowB hb (by omega) hg
    refine ⟨⟨a', c', es ++ [(lfKey l1, idn)], l1.drop (5 + lfK l1), by simp, o4, C4, ?_, ?_, ?_⟩, ?_⟩
    · rw [List.length_append]
      exact hown'.congr (fun i hi => lnF_app es (lfKey l1, idn) i hi)
    · rw [HE.out.1, lnP_yes HY.out, HID.out]
      cases lnP (l1.drop (5 + lfK l1)) with
      | none => rfl
      | some r => simp
    · simp; omega
    · rw [curLen_is C4, HCL.out]
      simp; omega
end Go.Proofs.YtnohmedccbogkaaGreatDoor

