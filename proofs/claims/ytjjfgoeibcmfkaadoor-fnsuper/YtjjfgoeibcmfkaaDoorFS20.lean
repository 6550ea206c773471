import Derived.Test.YtjjfgoeibcmfkaaDoorFS6
import Derived.Lib.AppendZeros
import Derived.Test.YtjjfgoeibcmfkaaDoorFS8
import Derived.Deep.RegionWith
import Derived.Test.YtjjfgoeibcmfkaaDoorFS1
import Derived.Test.YtjjfgoeibcmfkaaDoorFS5
namespace Go.Proofs.YtjjfgoeibcmfkaaDoor
open Go.RowKit

set_option maxRecDepth 100000 in
set_option maxHeartbeats 400000 in
theorem grow_calls (n : Nat) (w : World) (hn : n ≤ 1048576) :
    Calls Tryd.prog 98 #[.slice none 0 0, .int .i64 n] w fun e w' => ∃ a c, e = .returned (.slice a 0 c) ∧ Below w.heap.size w w' ∧ Own w.heap.size w' a 0 c [] := by
  by_cases h0 : 0 < n
  · obtain ⟨i, hi, hz0, hz1, hz2⟩ := info_parts info5
    have hr := fun ty wx => Lib.run_append_nil_zeros (P := Tryd.prog) wx 38 3 ty 5 i _ .i64 .i64 Tryd.underlying38 Tryd.underlying3 hi hz0 n h0 (by omega) (by omega) (by rw [hz2]; omega)
    have hi0 : (0 : Int) < (n : Int) := by omega
    go_enter Tryd.func98, Tryd.ntmps98
    go_wp2_with (at_builtin; refine Lib.wpList_append_run _ rfl _ _ _ _ rfl _ _ rfl rfl _ _ (hr _ _) ?_)
    go_ret
    have hge := grownCap_ge w n 0 5
    have hcm := grownCap_le_maxLen w n 0 5 (by unfold maxLen; omega)
    refine ⟨_, _, rfl, ((Below.refl _ _).alloc (Nat.le_refl _) _).drew, ?_⟩
    refine World.ownsRow_made (size := 1) w _ _ (Nat.le_refl _) hcm ?_
    simp [size_zeroCells]
    omega
  · have e : n = 0 := by omega
    subst e
    go_enter Tryd.func98, Tryd.ntmps98
    go_wp2
    go_ret
    exact ⟨none, 0, rfl, Below.refl _ _, own_nil _ _⟩

/-- One behind the other. -/
def catTo (L : Nat → List Int) : Nat → List Int
  | 0 => []
  | k + 1 => catTo L k ++ L k
theorem catTo_mono (L : Nat → List Int) {j k : Nat} (h : j ≤ k) : (catTo L j).length ≤ (catTo L k).length := by
  induction k with
  | zero => have : j = 0 := by omega
            subst this; exact Nat.le_refl _
  | succ k ih =>
    by_cases e : j = k + 1
    · subst e; exact Nat.le_refl _
    · have := ih (by omega)
      simp [catTo]; omega

set_option maxRecDepth 100000 in
set_option maxHeartbeats 1000000 in
theorem concat_calls (b off n cap : Nat) (A : Nat → Option Addr) (N C : Nat → Nat) (L : Nat → List Int) (w : World) (hb : b < w.heap.size) (hn : n ≤ 1048576)
    (hc : ∀ i, i < n → w.cell? ⟨b, off + i, none⟩ = some (.slice (A i) (N i) (C i))) (hs : ∀ i, i < n → Bs w (A i) (N i) (C i) (L i)) (ht : (catTo L n).length ≤ 1048576) :
    Calls Tryd.prog 88 #[.slice (some ⟨b, off, none⟩) n cap] w fun e w' => ∃ a c, e = .returned (.slice a (catTo L n).length c) ∧ Below w.heap.size w w' ∧ Own w.heap.size w' a (catTo L n).length c (catTo L n) := by
  go_enter Tryd.func88, Tryd.ntmps88
  go_wp2
  go_loop [3, 11] (fun x i => ∃ k : Nat, k ≤ n ∧ i = .int .i64 k ∧ x = .int .i64 ((catTo L k).length : Nat)) (fun _ i => n - (intOf i).toNat)
  case atStart => exact ⟨0, Nat.zero_le _, rfl, rfl⟩
  case round =>
    obtain ⟨k, hk, rfl, rfl⟩ := hrel
    have hm := catTo_mono L hk
    by_cases hlt : k < n
    · have hck := hc k hlt
      have hsk := hs k hlt
      have HL : Hid ((catTo L (k + 1)).length = (catTo L k).length + N k) := by
        show (catTo L k ++ L k).length = _
        rw [List.length_append, hsk.len_eq]
      have hm1 := catTo_mono L (show k + 1 ≤ n from hlt)
      rw [HL.out] at hm1
      generalize (catTo L k).length = X at *
      generalize N k = Y at *
      have hneg : ¬ ((X : Int) + (Y : Int) < 0) := by omega
      clear hc hs hsk
      go_wp2
      go_round
      case rel => exact ⟨k + 1, by omega, by go_num, by rw [HL.out]; go_num⟩
      case measure => simp [intOf]; omega
    · have e : k = n := by omega
      subst e
      go_wp2_with fail
      refine (grow_calls (catTo L k).length _ ht).mono ?_
      rintro e w1 ⟨a1, c1, rfl, hb1, ho1⟩
      go_wp2_with fail
      go_loopw [6, 27] (fun o i wr => ∃ j a c, j ≤ k ∧ i = .int .i64 (j : Nat) ∧ o = .slice a (catTo L j).length c ∧ Below w.heap.size w wr ∧ Own w.heap.size wr a (catTo L j).length c (catTo L j)) (fun _ i _ => k - (intOf i).toNat)
      case atStart => exact ⟨0, a1, c1, Nat.zero_le _, rfl, rfl, hb1, ho1⟩
      case round =>
        obtain ⟨j, a, c, hj, rfl, rfl, hbj, hoj⟩ := hrel
        by_cases hlt : j < k
        · have hck : wr.cell? ⟨b, off + j, none⟩ = some (.slice (A j) (N j) (C j)) := by rw [hbj.cell (p := ⟨b, off + j, none⟩) hb]; exact hc j hlt
          have hsj := (hs j hlt).below hbj
          have hm1 := catTo_mono L (show j + 1 ≤ k from hlt)
          have HL : Hid ((catTo L (j + 1)).length = (catTo L j).length + N j) := by
            show (catTo L j ++ L j).length = _
            rw [List.length_append, hsj.len_eq]
          rw [HL.out] at hm1
          have HC : Hid (catTo L (j + 1) = catTo L j ++ L j) := rfl
          have hz := hbj.size
          clear hc hs ho1 hb1
          go_wp2_with (at_builtin; refine wpList_app rfl _ _ rfl w.heap.size a _ c (catTo L j) rfl ?own (A j) (N j) (C j) (L j) rfl ?bs ?len ?B ?_)
          case own => exact hoj
          case bs => exact hsj
          case len => omega
          case B => exact hz
          intro a' c' w' ho' hb' _
          have hb2 : Below w.heap.size w w' := hbj.trans hb'
          rw [← HL.out, ← HC.out] at ho'
          rw [← HL.out]
          clear hoj hbj hb' hsj hck
          go_wp2
          go_roundw
          case rel => exact ⟨j + 1, a', c', by omega, by go_num, rfl, hb2, ho'⟩
          case measure => simp [intOf]; omega
        · have e : j = k := by omega
          subst e
          go_wp2
          go_ret
          exact ⟨a, c, rfl, hbj, hoj⟩
end Go.Proofs.YtjjfgoeibcmfkaaDoor

namespace Go.Proofs.YtjjfgoeibcmfkaaDoor
open Go.RowKit

theorem run_make8 (k : Nat) (z : Int) (hz : z = (k : Int)) (hk : k ≤ 1048576) (w : World) :
    (Instr.makeSlice 38 (.int .i64 z) (.int .i64 z)).run Tryd.prog w = .ok (.slice (some ⟨w.heap.size, 0, none⟩) k k) (w.alloc (.cells (madeCells #[.int .u8 0] k) 5)) := by
  obtain ⟨i, hi, hz0, hz1, hz2⟩ := info_parts info5
  subst hz
  have hr := run_make (P := Tryd.prog) w 38 5 i _ Tryd.underlying38 hi hz0 .i64 .i64 k k (by omega) (Int.le_refl _) (by rw [hz2]; omega) (by omega)
  rw [hr, hz1]
  simp [Value.cells]

theorem bs_made (k : Nat) (hk : k ≤ 1048576) (w : World) : Bs (w.alloc (.cells (madeCells #[.int .u8 0] k) 5)) (some ⟨w.heap.size, 0, none⟩) k k (List.replicate k 0) := by
  have e : madeCells #[Value.int .u8 0] k = (ob (List.replicate k 0)).toArray := by
    apply Array.toList_inj.1
    rw [toList_madeCells_one]
    simp [ob]
  rw [e]
  exact bs_lit w _ k (by simp) hk (isB_rep k)

theorem concat3_calls (b : Nat) (A0 A1 A2 : Option Addr) (n0 n1 n2 c0 c1 c2 : Nat) (l0 l1 l2 : List Int) (w : World) (hb : b < w.heap.size)
    (k0 : w.cell? ⟨b, 0, none⟩ = some (.slice A0 n0 c0)) (k1 : w.cell? ⟨b, 1, none⟩ = some (.slice A1 n1 c1)) (k2 : w.cell? ⟨b, 2, none⟩ = some (.slice A2 n2 c2))
    (s0 : Bs w A0 n0 c0 l0) (s1 : Bs w A1 n1 c1 l1) (s2 : Bs w A2 n2 c2 l2) (ht : n0 + n1 + n2 ≤ 1048576) :
    Calls Tryd.prog 88 #[.slice (some ⟨b, 0, none⟩) 3 3] w fun e w' => ∃ a c, e = .returned (.slice a (n0 + n1 + n2) c) ∧ Below w.heap.size w w' ∧ Own w.heap.size w' a (n0 + n1 + n2) c (l0 ++ l1 ++ l2) := by
  have e1 : catTo (fun i => if i = 0 then l0 else if i = 1 then l1 else l2) 3 = l0 ++ l1 ++ l2 := by simp [catTo]
  have e2 : (l0 ++ l1 ++ l2).length = n0 + n1 + n2 := by simp [s0.len_eq, s1.len_eq, s2.len_eq]; omega
  have := concat_calls b 0 3 3 (fun i => if i = 0 then A0 else if i = 1 then A1 else A2) (fun i => if i = 0 then n0 else if i = 1 then n1 else n2) (fun i => if i = 0 then c0 else if i = 1 then c1 else c2)
    (fun i => if i = 0 then l0 else if i = 1 then l1 else l2) w hb (by omega)
    (fun i hi => by
      rcases (show i = 0 ∨ i = 1 ∨ i = 2 by omega) with rfl | rfl | rfl
      · exact k0
      · exact k1
      · exact k2)
    (fun i hi => by
      rcases (show i = 0 ∨ i = 1 ∨ i = 2 by omega) with rfl | rfl | rfl
      · exact s0
      · exact s1
      · exact s2) (by rw [e1, e2]; exact ht)
  rw [e1, e2] at this
  exact this

theorem cell_lit3 (w : World) (v0 v1 v2 : Value) (t : TypeId) : (w.alloc (.cells #[v0, v1, v2] t)).cell? ⟨w.heap.size, 0, none⟩ = some v0 ∧ (w.alloc (.cells #[v0, v1, v2] t)).cell? ⟨w.heap.size, 1, none⟩ = some v1 ∧ (w.alloc (.cells #[v0, v1, v2] t)).cell? ⟨w.heap.size, 2, none⟩ = some v2 := by
  simp

theorem below_alloc1 (w : World) (o : Obj) : Below w.heap.size w (w.alloc o) := (Below.refl _ _).alloc (Nat.le_refl _) _

/-- The three are put together: the head was made ahead of the zeros. -/
theorem catA (W w2 : World) (a2 a : Option Addr) (c2 n c k : Nat) (H l : List Int) (b2 : Below W.heap.size W w2) (o2 : Own W.heap.size w2 a2 12 c2 H) (hH : IsB H) (s : Bs W a n c l) (hk : n + k ≤ 240) :
    Calls Tryd.prog 88 #[.slice (some ⟨w2.heap.size + 1, 0, none⟩) 3 3] ((w2.alloc (.cells (madeCells #[.int .u8 0] k) 5)).alloc (.cells #[.slice a2 12 c2, .slice a n c, .slice (some ⟨w2.heap.size, 0, none⟩) k k] 38))
      fun e w' => ∃ a' c', e = .returned (.slice a' (12 + n + k) c') ∧ Below W.heap.size W w' ∧ Own W.heap.size w' a' (12 + n + k) c' (H ++ l ++ List.replicate k 0) := by
  have q1 := below_alloc1 w2 (.cells (madeCells #[.int .u8 0] k) 5)
  have q2 := below_alloc1 (w2.alloc (.cells (madeCells #[.int .u8 0] k) 5)) (.cells #[.slice a2 12 c2, .slice a n c, .slice (some ⟨w2.heap.size, 0, none⟩) k k] 38)
  have q3 := cell_lit3 (w2.alloc (.cells (madeCells #[.int .u8 0] k) 5)) (.slice a2 12 c2) (.slice a n c) (.slice (some ⟨w2.heap.size, 0, none⟩) k k) 38
  have e1 : (w2.alloc (.cells (madeCells #[.int .u8 0] k) 5)).heap.size = w2.heap.size + 1 := World.size_alloc _ _
  rw [e1] at q2 q3
  have q : Below w2.heap.size w2 _ := q1.trans (q2.mono (Nat.le_succ _))
  refine (concat3_calls (w2.heap.size + 1) a2 a _ 12 n k c2 c k H l _ _ (by simp) q3.1 q3.2.1 q3.2.2 ((o2.below q).bs hH) ((s.below b2).below q) ((bs_made k (by omega) w2).below (by rw [e1]; exact q2)) (by omega)).mono ?_
  rintro e w' ⟨a', c', rfl, b', o'⟩
  have z := b2.size
  exact ⟨a', c', rfl, b2.trans ((q.trans (b'.mono q.size)).mono z), o'.mono (Nat.le_trans z q.size)⟩

/-- .. behind the zeros. -/
theorem catB (W w2 : World) (a2 a : Option Addr) (c2 n c k : Nat) (H l : List Int) (b2 : Below (W.heap.size + 1) (W.alloc (.cells (madeCells #[.int .u8 0] k) 5)) w2) (o2 : Own (W.heap.size + 1) w2 a2 12 c2 H) (hH : IsB H) (s : Bs W a n c l) (hk : n + k ≤ 240) :
    Calls Tryd.prog 88 #[.slice (some ⟨w2.heap.size, 0, none⟩) 3 3] (w2.alloc (.cells #[.slice a2 12 c2, .slice a n c, .slice (some ⟨W.heap.size, 0, none⟩) k k] 38))
      fun e w' => ∃ a' c', e = .returned (.slice a' (12 + n + k) c') ∧ Below W.heap.size W w' ∧ Own W.heap.size w' a' (12 + n + k) c' (H ++ l ++ List.replicate k 0) := by
  have q1 := below_alloc1 W (.cells (madeCells #[.int .u8 0] k) 5)
  have q2 := below_alloc1 w2 (.cells #[.slice a2 12 c2, .slice a n c, .slice (some ⟨W.heap.size, 0, none⟩) k k] 38)
  have q3 := cell_lit3 w2 (.slice a2 12 c2) (.slice a n c) (.slice (some ⟨W.heap.size, 0, none⟩) k k) 38
  have e1 : (W.alloc (.cells (madeCells #[.int .u8 0] k) 5)).heap.size = W.heap.size + 1 := World.size_alloc _ _
  have b2' : Below (W.alloc (.cells (madeCells #[.int .u8 0] k) 5)).heap.size (W.alloc (.cells (madeCells #[.int .u8 0] k) 5)) w2 := by rw [e1]; exact b2
  have q : Below W.heap.size W w2 := q1.trans (b2.mono (Nat.le_succ _))
  refine (concat3_calls w2.heap.size a2 a _ 12 n k c2 c k H l _ _ (by simp) q3.1 q3.2.1 q3.2.2 ((o2.below q2).bs hH) ((s.below q).below q2) (((bs_made k (by omega) W).below b2').below q2) (by omega)).mono ?_
  rintro e w' ⟨a', c', rfl, b', o'⟩
  exact ⟨a', c', rfl, q.trans ((q2.trans (b'.mono q2.size)).mono q.size), o'.mono (Nat.le_trans q.size q2.size)⟩

set_option maxHeartbeats 1000000 in
theorem implEnc_yes (id kind : Int) (a : Option Addr) (n c : Nat) (l : List Int) (w : World) (h : Bs w a n c l) (hok : headOk id kind n = true) :
    Calls Tryd.prog 72 #[.int .i64 id, .int .i64 kind, .slice a n c] w fun e w' => ∃ a' c', e = .returned (.tuple #[.slice a' 256 c', .bool true]) ∧ Below w.heap.size w w' ∧ Own w.heap.size w' a' 256 c' (page id kind l) := by
  have hn : n ≤ 240 := by have := headOk_le hok; omega
  have HOK : Hid (headOk id kind n = true) := hok
  clear hok
  have HL : Hid (l.length = n) := h.len_eq
  have hmk := run_make8 (240 - n) (IntKind.i64.wrap (240 - (n : Int))) (by rw [IntKind.wrap_i64]; omega) (by omega)
  go_enter Tryd.func72, Tryd.ntmps72
  go_wp2_with fail
  refine (fits_yes id kind n _ HOK.out).mono ?_
  rintro e w1 ⟨rfl, b1⟩
  have k0 : w1.cell? ⟨w.heap.size, 0, none⟩ = some (.int .i64 id) := by rw [b1.cell (p := ⟨w.heap.size, 0, none⟩) (by simp)]; simp
  have k1 : w1.cell? ⟨w.heap.size, 1, none⟩ = some (.int .i64 kind) := by rw [b1.cell (p := ⟨w.heap.size, 1, none⟩) (by simp)]; simp
  have k2 : w1.cell? ⟨w.heap.size, 2, none⟩ = some (.int .i64 n) := by rw [b1.cell (p := ⟨w.heap.size, 2, none⟩) (by simp)]; simp
  have z1 : w.heap.size < w1.heap.size := by have := b1.size; simp at this; omega
  have c1 : Below w.heap.size w w1 := ((Below.refl _ _).alloc (Nat.le_refl _) _).trans (b1.mono (by simp))
  clear b1
  have hH := head_isB HOK.out
  have s1 : Bs w1.drew a n c l := h.below c1.drew
  go_wp2_with fail
  go_region_with (first
    | (go_at_call 89; refine (bytes_calls id kind n _ HOK.out (by omega)).mono ?_; rintro e w2 ⟨a2, c2, rfl, b2, o2⟩; simp [World.size_drew] at b2 o2)
    | (go_at_call 88; have hA : Below w1.heap.size w1.drew w2 := b2; refine (catA w1.drew w2 a2 a c2 n c (240 - n) (head id kind n) l hA o2 hH s1 (by omega)).mono ?_; rintro e w3 ⟨a3, c3, rfl, b3, o3⟩; clear b2 o2 hA)
    | (go_at_call 88; refine (catB w1.drew w2 a2 a c2 n c (240 - n) (head id kind n) l b2 o2 hH s1 (by omega)).mono ?_; rintro e w3 ⟨a3, c3, rfl, b3, o3⟩; clear b2 o2))
  all_goals
    have c3' : Below w.heap.size w w3 := c1.drew.trans (b3.mono (Nat.le_of_lt z1))
    have z3 : w.heap.size ≤ w3.heap.size := c3'.size
    have HR : Hid (restOf id kind l = head id kind n ++ l ++ List.replicate (240 - n) 0) := by rw [Hid, restOf, HL.out]
    have e9 : 12 + n + (240 - n) = 252 := by omega
    have o3h : Own w.heap.size w3 a3 252 c3 (restOf id kind l) := by rw [HR.out, ← e9]; exact o3.mono (Nat.le_of_lt z1)
    have hR : IsB (restOf id kind l) := rest_isB (by rw [HL.out]; exact HOK.out) h.byte
    have hcl := crc_lt hR
    have HP : Hid (page id kind l = num (crc (restOf id kind l)) 4 ++ restOf id kind l) := rfl
    generalize restOf id kind l = R at *
    rw [e9]
    clear e9 HR o3 b3 hmk k0 k1 k2 s1 c1
    go_wp2_with fail
    refine (implCrc_calls _ _ _ R _ (o3h.bs hR) (by omega)).mono ?_
    rintro e w8 ⟨rfl, rfl⟩
    go_wp2_with fail
    refine (appendNumber_calls w8.heap.size none 0 0 [] (crc R) 4 _ (own_nil _ _) (Nat.le_refl _) (by omega) (by omega) (by omega) (by omega)).mono ?_
    rintro e w9 ⟨a9, c9, rfl, b9, o9⟩
    have s9 := (o3h.below b9).bs hR
    have z9 := b9.size
    go_wp2_with (at_builtin; refine wpList_app rfl _ _ rfl w8.heap.size a9 4 c9 (num (crc R) 4) rfl ?own a3 252 c3 R rfl ?bs ?len ?B ?_)
    case own => exact o9
    case bs => exact s9
    case len => omega
    case B => exact z9
    intro a10 c10 w10 o10 b10 _
    have b11 : Below w.heap.size w w10 := c3'.trans ((b9.trans b10).mono z3)
    clear o3h b9 o9 s9 b10
    go_wp2
    go_ret2
    exact ⟨a10, c10, rfl, b11, by rw [HP.out]; exact o10.mono z3⟩

set_option maxHeartbeats 400000 in
theorem implEnc_no (id kind : Int) (a : Option Addr) (n c : Nat) (w : World) (_hn : n ≤ 1048576) (hok : headOk id kind n = false) :
    Calls Tryd.prog 72 #[.int .i64 id, .int .i64 kind, .slice a n c] w fun e w' => ∃ a' c', e = .returned (.tuple #[.slice a' 0 c', .bool false]) ∧ Below w.heap.size w w' ∧ Own w.heap.size w' a' 0 c' [] := by
  have HOK : Hid (headOk id kind n = false) := hok
  clear hok
  go_enter Tryd.func72, Tryd.ntmps72
  go_wp2_with fail
  refine (fits_no id kind n _ HOK.out).mono ?_
  rintro e w1 ⟨rfl, b1⟩
  go_wp2
  go_ret2
  exact ⟨none, 0, rfl, ((Below.refl _ _).alloc (Nat.le_refl _) _).trans (b1.mono (by simp)), own_nil _ _⟩

/-- EncodePage of the program. -/
theorem implEnc_calls (id kind : Int) (a : Option Addr) (n c : Nat) (l : List Int) (w : World) (h : Bs w a n c l) (hn : n ≤ 1048576) :
    Calls Tryd.prog 72 #[.int .i64 id, .int .i64 kind, .slice a n c] w fun e w' => ∃ a' c', e = .returned (.tuple #[.slice a' (encL id kind l).length c', .bool (headOk id kind n)]) ∧ Below w.heap.size w w' ∧ Own w.heap.size w' a' (encL id kind l).length c' (encL id kind l) := by
  cases hok : headOk id kind n with
  | true =>
    have e1 := encL_yes (l := l) (by rw [h.len_eq]; exact hok)
    have e2 : (page id kind l).length = 256 := page_len (by have := headOk_le hok; have := h.len_eq; omega)
    rw [e1, e2]
    exact implEnc_yes id kind a n c l w h hok
  | false =>
    have e1 := encL_no (l := l) (by rw [h.len_eq]; exact hok)
    rw [e1]
    exact implEnc_no id kind a n c w hn hok
end Go.Proofs.YtjjfgoeibcmfkaaDoor

namespace Go.Proofs.YtjjfgoeibcmfkaaDoor
open Go.RowKit

theorem info51 : (Tryd.prog.info? 90).map (fun i => (i.zero, i.size, i.bytes)) = some (some (.agg #[.int .i64 0, .int .i64 0, .slice none 0 0]), 3, 40) := by kernel_rfl
theorem inf51 : ∃ i z, Tryd.prog.info? 90 = some i ∧ i.zero = some z ∧ i.size = 2 + 1 ∧ z.cells.size = 2 + 1 ∧ i.bytes ≤ 64 := by
  obtain ⟨i, hi, hz0, hz1, hz2⟩ := info_parts info51
  exact ⟨i, _, hi, hz0, hz1, rfl, by omega⟩

/-- The numbers of the four writes of a page. -/
def opI (id : Int) : Nat → Nat → Int := fun i q => if q = 0 then 1 else 4 * id + i
/-- Their bytes. -/
def opL (P : List Int) : Nat → List Int := fun i => (P.drop (64 * i)).take 64

/-- k writes of the page P. -/
def POps (B : Nat) (w : World) (a : Option Addr) (k c : Nat) (id : Int) (P : List Int) : Prop :=
  ∃ A N C, ORecs 2 90 B w a k c (opI id) A N C (opL P) ∧ ∀ i, i < k → N i = 64

theorem ORecs.congr {p e B : Nat} {w : World} {a : Option Addr} {n c : Nat} {I I' : Nat → Nat → Int} {A : Nat → Option Addr} {N C : Nat → Nat} {L L' : Nat → List Int} (h : ORecs p e B w a n c I A N C L) (hI : ∀ i, i < n → ∀ q, q < p → I i q = I' i q) (hL : ∀ i, i < n → L i = L' i) : ORecs p e B w a n c I' A N C L' :=
  ⟨by rw [← flat_congr p n (fun i hi => ⟨hI i hi, rfl⟩)]; exact h.row, fun i hi => by rw [← hL i hi]; exact h.data i hi, fun i hi => by rw [← hL i hi]; exact h.byte i hi, h.sep1⟩

theorem POps.step {B : Nat} {w : World} {a : Option Addr} {k c : Nat} {id : Int} {P : List Int} {A : Nat → Option Addr} {N C : Nat → Nat} {a1 : Option Addr} {c1 : Nat} {J : Nat → Int} (hN : ∀ i, i < k → N i = 64)
    (h : ORecs 2 90 B w a (k + 1) c (upd (opI id) k J) (upd A k a1) (upd N k 64) (upd C k c1) (upd (opL P) k (opL P k))) (hJ : ∀ q, q < 2 → J q = opI id k q) : POps B w a (k + 1) c id P := by
  refine ⟨_, _, _, h.congr (fun i hi q hq => ?_) (fun i hi => ?_), fun i hi => ?_⟩
  · by_cases e : i = k
    · subst e; rw [upd_same]; exact hJ q hq
    · rw [upd_ne _ _ _ e]
  · by_cases e : i = k
    · subst e; rw [upd_same]
    · rw [upd_ne _ _ _ e]
  · by_cases e : i = k
    · subst e; rw [upd_same]
    · rw [upd_ne _ _ _ e]; exact hN i (by omega)

theorem opL_isB {P : List Int} (h : IsB P) (i : Nat) : IsB (opL P i) := isB_take (fun j => by have := h (64 * i + j); simpa [List.getD] using this) 64

set_option maxHeartbeats 1000000 in
theorem specPageOps_yes (id kind : Int) (a : Option Addr) (n c : Nat) (l : List Int) (w : World) (h : Bs w a n c l) (hok : headOk id kind n = true) :
    Calls Tryd.prog 41 #[.int .i64 id, .int .i64 kind, .slice a n c] w fun e w' => ∃ a' c', e = .returned (.tuple #[.slice a' 4 c', .bool true]) ∧ Below w.heap.size w w' ∧ POps w.heap.size w' a' 4 c' id (page id kind l) := by
  have hid : 0 ≤ id ∧ id ≤ 1023 := ⟨(of_decide_eq_true hok).1, (of_decide_eq_true hok).2.1⟩
  have hpl : (page id kind l).length = 256 := page_len (by have := headOk_le hok; have := h.len_eq; omega)
  have hpB : IsB (page id kind l) := page_isB (by rw [h.len_eq]; exact hok) h.byte
  have HOK : Hid (headOk id kind n = true) := hok
  have HPL : Hid ((page id kind l).length = 256) := hpl
  clear hok hpl
  go_enter Tryd.func41, Tryd.ntmps41
  go_wp2_with fail
  have q0 := (Below.refl w.heap.size w).alloc (Nat.le_refl _) (.cells #[] 90)
  refine (specEnc_yes id kind a n c l _ (h.below q0) HOK.out).mono ?_
  rintro e w1 ⟨a1, c1, rfl, b1, o1⟩
  generalize hPG : page id kind l = P at *
  have HPG : Hid (page id kind l = P) := hPG
  clear hPG
  have r0 := (orecs_lit0 2 90 w.heap.size w (Nat.le_refl _) (opI id) (fun _ => none) (fun _ => 0) (fun _ => 0) (opL P)).below b1
  have d1 : Below w.heap.size w w1 := q0.trans (b1.mono q0.size)
  obtain ⟨g, rfl, hg⟩ := own_pos o1 (by omega)
  have hc1 : 256 ≤ c1 := (o1.bs hpB).le
  have hc2 : c1 ≤ maxLen := (o1.bs hpB).le'
  have o1' := o1.mono (B' := w.heap.size) (by simp)
  clear o1 b1
  go_wp2_with fail
  go_loopw [8, 11] (fun o i wr => ∃ k a c, k ≤ 4 ∧ i = .int .i64 (k : Nat) ∧ o = .slice a k c ∧ Below w.heap.size w wr ∧ Own w.heap.size wr (some ⟨g, 0, none⟩) 256 c1 P ∧ POps w.heap.size wr a k c id P) (fun _ i _ => 4 - (intOf i).toNat)
  case atStart => exact ⟨0, _, _, Nat.zero_le _, rfl, rfl, d1, o1', _, _, _, r0, fun i hi => absurd hi (by omega)⟩
  case round =>
    obtain ⟨k, a2, c2, hk, rfl, rfl, d2, e2, A, N, C, r2, hN⟩ := hrel
    by_cases hlt : k < 4
    · have sp : Bs wr (some ⟨g, 64 * k, none⟩) 64 (c1 - 64 * k) (opL P k) := by
        have := (e2.bs hpB).piece (64 * k) 64 (by omega) (c1 - 64 * k) (by omega) (by omega)
        rw [Nat.zero_add] at this
        exact this
      go_wp2_with fail
      refine (l1Bytes_calls _ 64 _ _ _ sp (by omega)).mono ?_
      rintro e w3 ⟨a3, c3, rfl, b3, o3⟩
      go_wp2_with (at_builtin; refine wpList_appRec rfl _ _ _ rfl 2 90 w.heap.size Tryd.underlying41 inf51 (by decide) a2 k c2 (opI id) A N C (opL P) rfl r2 b3 (opI id k) a3 64 c3 (opL P k) o3 (opL_isB hpB k) d2.size _ rfl rfl (by omega) ?_)
      intro a4 c4 w4 r4 b4 keep4
      have d4 : Below w.heap.size w w4 := (d2.trans (b3.mono d2.size)).trans b4
      have e4 := keep4 (e2.below b3)
      have p4 := POps.step hN r4 (fun _ _ => rfl)
      clear r4 b4 b3 o3 sp r2 hN d2 e2 keep4
      go_wp2
      go_roundw
      case rel => exact ⟨k + 1, a4, c4, by omega, by go_num, rfl, d4, e4, p4⟩
      case measure => simp [intOf]; omega
    · have e : k = 4 := by omega
      subst e
      go_wp2
      go_ret2
      exact ⟨a2, c2, rfl, d2, by rw [HPG.out]; exact ⟨A, N, C, r2, hN⟩⟩
end Go.Proofs.YtjjfgoeibcmfkaaDoor

