import Derived.Test.YtjjfgoeibcmfkaaDoorFS28
import Derived.Test.YtjjfgoeibcmfkaaDoorFS29
import Derived.Test.YtjjfgoeibcmfkaaDoorFS30
import Derived.Test.YtjjfgoeibcmfkaaDoorFS19
import Derived.Test.YtjjfgoeibcmfkaaDoorFS27
/- The draw of a disk, all of it. -/
namespace Go.Proofs.YtjjfgoeibcmfkaaDoor
open Go.RowKit
set_option linter.unusedVariables false

/-- Where the reader stands when the sectors are drawn. -/
def dskP (l : List Int) (n p : Nat) : Nat := rdIt n (rdIt n (rdP n p) (2 * (l.getD p 0 / 7 % 6).toNat)) (1 + l.getD p 0 % 7).toNat
/-- The disk before it is spoilt. -/
def dskB (l : List Int) (n p : Nat) : DK := drS l n (rdP n p) (1 + l.getD p 0 % 7).toNat (l.getD p 0 / 7 % 6).toNat (1 + l.getD p 0 % 7).toNat
/-- The disk that is drawn. -/
def dskK (l : List Int) (n p : Nat) : DK :=
  let B := dskB l n p
  let m := (l.getD p 0 / 7 % 6).toNat
  let v := l.getD (dskP l n p) 0
  let r := (v % 3).toNat
  if l.getD p 0 < 240 then B
  else if l.getD p 0 % 6 = 0 then { B with m := m + 1, At := upd B.At m (v % 9 - 1), D := upd B.D m (secL (l.getD (rdP n (dskP l n p)) 0)) }
  else if l.getD p 0 % 6 = 1 then { B with S := upd B.S 0 (List.replicate (63 + r) 0) }
  else if l.getD p 0 % 6 = 2 then { B with m := m + 1, At := upd B.At m 0, D := upd B.D m (List.replicate (63 + r) 0) }
  else if l.getD p 0 % 6 = 3 then { B with n := 0 }
  else if l.getD p 0 % 6 = 4 then manyK B m (4999 + r) (secL (l.getD (rdP n (dskP l n p)) 0))
  else if v % 2 = 0 then newK 4096 else { newK 4096 with n := 4097 }
/-- Where the reader stands behind it. -/
def dskQ (l : List Int) (n p : Nat) : Nat :=
  if l.getD p 0 < 240 then dskP l n p
  else if l.getD p 0 % 6 = 0 ∨ l.getD p 0 % 6 = 4 then rdP n (rdP n (dskP l n p)) else rdP n (dskP l n p)

set_option maxRecDepth 100000 in
theorem l1Disk_calls (g : Nat) (a : Option Addr) (n c : Nat) (l : List Int) (p : Nat) (w : World) (h : IsRd w g a n c l p) :
    Calls Tryd.prog 37 #[.pointer (some ⟨g, 0, none⟩)] w fun e w' => ∃ d, e = .returned (dval d (dskK l n p)) ∧ OnlyB g w w' ∧ IsRd w' g a n c l (dskQ l n p) ∧ RDisk w' d (dskK l n p) := by
  obtain ⟨k0, k1⟩ := h.bs.byte p
  obtain ⟨v0, v1⟩ := h.bs.byte (dskP l n p)
  have hn : 1 + l.getD p 0 % 7 = ((1 + l.getD p 0 % 7).toNat : Int) := by omega
  have hm : l.getD p 0 / 7 % 6 = ((l.getD p 0 / 7 % 6).toNat : Int) := by omega
  have hr : l.getD (dskP l n p) 0 % 3 = ((l.getD (dskP l n p) 0 % 3).toNat : Int) := by omega
  by_cases h240 : l.getD p 0 < 240
  · have ek : dskK l n p = dskB l n p := if_pos h240
    have eq : dskQ l n p = dskP l n p := if_pos h240
    rw [ek, eq]
    exact l1Disk_plain _ _ g a n c l p hn hm h240 w h
  have hk : 240 ≤ l.getD p 0 := by omega
  rcases (by omega : l.getD p 0 % 6 = 0 ∨ l.getD p 0 % 6 = 1 ∨ l.getD p 0 % 6 = 2 ∨ l.getD p 0 % 6 = 3 ∨ l.getD p 0 % 6 = 4 ∨ l.getD p 0 % 6 = 5) with h6 | h6 | h6 | h6 | h6 | h6
  · have := l1Disk_0 _ _ g a n c l p hn hm ⟨hk, h6⟩ w h
    unfold dskK dskQ
    simp only [h240, h6, if_true, if_false, true_or]
    exact this
  · have := l1Disk_1 _ _ g a n c l p hn hm _ ⟨hk, h6⟩ hr w h
    unfold dskK dskQ
    simp only [h240, h6, if_false, show ¬ ((1 : Int) = 0) by omega, show ¬ ((1 : Int) = 4) by omega, if_true, or_false]
    exact this
  · have := l1Disk_2 _ _ g a n c l p hn hm _ ⟨hk, h6⟩ hr w h
    unfold dskK dskQ
    simp only [h240, h6, if_false, show ¬ ((2 : Int) = 0) by omega, show ¬ ((2 : Int) = 1) by omega, show ¬ ((2 : Int) = 4) by omega, if_true, or_false]
    exact this
  · have := l1Disk_3 _ _ g a n c l p hn hm ⟨hk, h6⟩ w h
    unfold dskK dskQ
    simp only [h240, h6, if_false, show ¬ ((3 : Int) = 0) by omega, show ¬ ((3 : Int) = 1) by omega, show ¬ ((3 : Int) = 2) by omega, show ¬ ((3 : Int) = 4) by omega, if_true, or_false]
    exact this
  · have := l1Disk_4 _ _ g a n c l p hn hm _ ⟨hk, h6⟩ hr w h
    unfold dskK dskQ
    simp only [h240, h6, if_false, show ¬ ((4 : Int) = 0) by omega, show ¬ ((4 : Int) = 1) by omega, show ¬ ((4 : Int) = 2) by omega, show ¬ ((4 : Int) = 3) by omega, if_true, or_true]
    exact this
  · by_cases h2 : l.getD (dskP l n p) 0 % 2 = 0
    · have := l1Disk_5 _ _ g a n c l p hn hm ⟨hk, h6⟩ h2 w h
      unfold dskK dskQ
      simp only [h240, h6, h2, if_false, show ¬ ((5 : Int) = 0) by omega, show ¬ ((5 : Int) = 1) by omega, show ¬ ((5 : Int) = 2) by omega, show ¬ ((5 : Int) = 3) by omega, show ¬ ((5 : Int) = 4) by omega, if_true, or_false]
      exact this
    · have := l1Disk_6 _ _ g a n c l p hn hm ⟨hk, h6⟩ (show l.getD (dskP l n p) 0 % 2 = 1 by omega) w h
      unfold dskK dskQ
      simp only [h240, h6, h2, if_false, show ¬ ((5 : Int) = 0) by omega, show ¬ ((5 : Int) = 1) by omega, show ¬ ((5 : Int) = 2) by omega, show ¬ ((5 : Int) = 3) by omega, show ¬ ((5 : Int) = 4) by omega, or_false]
      exact this
end Go.Proofs.YtjjfgoeibcmfkaaDoor

/- Drawn disks stay when the variables of the answer are written. -/
namespace Go.Proofs.YtjjfgoeibcmfkaaDoor
open Go.RowKit
set_option linter.unusedVariables false

/-- A block that holds no bytes, and no slice but empty ones. -/
def Zed (w : World) (g : Nat) : Prop := ∃ cur e fr, w.heap[g]? = some (.cells cur e fr) ∧ ∀ (i : Nat) (u : Value), cur[i]? = some u → (∀ a n c, u = .slice a n c → n = 0) ∧ ∀ x, u ≠ .int .u8 x
theorem zed_disk {w : World} {g : Nat} (h : w.heap[g]? = some (.cells #[.slice none 0 0, .slice none 0 0] 33 (0, 0))) : Zed w g := ⟨_, _, _, h, fun i u hu => by
  rcases i with _ | _ | i <;> simp at hu <;> subst hu <;> exact ⟨fun a n c e => by cases e; rfl, fun x e => by cases e⟩⟩
theorem zed_op {w : World} {g : Nat} (h : w.heap[g]? = some (.cells #[.int .i64 0, .int .i64 0, .slice none 0 0] 90 (0, 0))) : Zed w g := ⟨_, _, _, h, fun i u hu => by
  rcases i with _ | _ | _ | i <;> simp at hu <;> subst hu
  · exact ⟨fun a n c e => (by cases e), fun x e => (by cases e)⟩
  · exact ⟨fun a n c e => (by cases e), fun x e => (by cases e)⟩
  · exact ⟨fun a n c e => by cases e; rfl, fun x e => by cases e⟩⟩
theorem Zed.notByte {w : World} {g : Nat} (h : Zed w g) {off : Nat} {x : Int} (hc : w.cell? ⟨g, off, none⟩ = some (.int .u8 x)) : False := by
  obtain ⟨cur, e, fr, hx, hz⟩ := h
  rw [cell_of_row w g off _ _ _ hx] at hc
  exact (hz off _ hc).2 x rfl
theorem Zed.notSlice {w : World} {g : Nat} (h : Zed w g) {off n c : Nat} {a : Option Addr} (hc : w.cell? ⟨g, off, none⟩ = some (.slice a n c)) : n = 0 := by
  obtain ⟨cur, e, fr, hx, hz⟩ := h
  rw [cell_of_row w g off _ _ _ hx] at hc
  exact (hz off _ hc).1 a n c rfl
/-- Two blocks are turned. -/
structure But2 (r1 r2 : Nat) (w w' : World) : Prop where
  size : w.heap.size ≤ w'.heap.size
  block : ∀ k, k < w.heap.size → k ≠ r1 → k ≠ r2 → w'.heap[k]? = w.heap[k]?
theorem Bs.but {r1 r2 : Nat} {w w' : World} {a : Option Addr} {n c : Nat} {l : List Int} (h : Bs w a n c l) (z1 : Zed w r1) (z2 : Zed w r2) (hb : But2 r1 r2 w w') : Bs w' a n c l :=
  ⟨h.len_eq, h.le, h.le', h.nil, fun hp => by
    obtain ⟨b, off, e, hl, hc⟩ := h.at_ hp
    have n1 : b ≠ r1 := fun e1 => by subst e1; exact z1.notByte (hc 0 hp)
    have n2 : b ≠ r2 := fun e1 => by subst e1; exact z2.notByte (hc 0 hp)
    refine ⟨b, off, e, Nat.lt_of_lt_of_le hl hb.size, fun i hi => ?_⟩
    rw [World.cell?_of_block (a := ⟨b, off + i, none⟩) (hb.block b hl n1 n2)]
    exact hc i hi, h.byte⟩
theorem RRecs.but {p r1 r2 : Nat} {w w' : World} {a : Option Addr} {n c : Nat} {I : Nat → Nat → Int} {A : Nat → Option Addr} {N C : Nat → Nat} {L : Nat → List Int} (h : RRecs p w a n c I A N C L) (hL : ∀ i, i < n → 0 < (L i).length) (z1 : Zed w r1) (z2 : Zed w r2) (hb : But2 r1 r2 w w') : RRecs p w' a n c I A N C L :=
  ⟨h.le, h.le', h.nil, fun hp => by
    obtain ⟨b, off, e, hl, hc⟩ := h.at_ hp
    have hN : 0 < N 0 := by rw [← (h.data 0 hp).len_eq]; exact hL 0 hp
    have n1 : b ≠ r1 := fun e1 => by subst e1; have := z1.notSlice (hc 0 hp).2; omega
    have n2 : b ≠ r2 := fun e1 => by subst e1; have := z2.notSlice (hc 0 hp).2; omega
    refine ⟨b, off, e, Nat.lt_of_lt_of_le hl hb.size, fun i hi => ⟨fun q hq => ?_, ?_⟩⟩
    · rw [World.cell?_of_block (a := ⟨b, _, none⟩) (hb.block b hl n1 n2)]; exact (hc i hi).1 q hq
    · rw [World.cell?_of_block (a := ⟨b, _, none⟩) (hb.block b hl n1 n2)]; exact (hc i hi).2, fun i hi => (h.data i hi).but z1 z2 hb⟩

theorem bs_onlyR {g : Nat} {w w' : World} {a oa : Option Addr} {n c p on oc : Nat} {l ol : List Int} (hr : IsRd w g a n c l p) (h : Bs w oa on oc ol) (ho : OnlyB g w w') : Bs w' oa on oc ol :=
  ⟨h.len_eq, h.le, h.le', h.nil, fun hp => by
    obtain ⟨b, off, e, hl, hc⟩ := h.at_ hp
    have hne : b ≠ g := fun hb => by
      subst hb
      have h0 := hc 0 hp
      rw [cell_of_row _ _ _ _ _ _ hr.box] at h0
      rcases off with _ | _ | off <;> simp at h0
    refine ⟨b, off, e, Nat.lt_of_lt_of_le hl ho.size, fun i hi => ?_⟩
    rw [World.cell?_of_block (a := ⟨b, off + i, none⟩) (ho.block b hl hne)]
    exact hc i hi, h.byte⟩

/-- The sizes of a drawn disk. -/
structure Lens (K : DK) : Prop where
  n : K.n ≤ 4097
  m : K.m ≤ 5001
  S : ∀ i, i < K.n → 63 ≤ (K.S i).length ∧ (K.S i).length ≤ 65
  D : ∀ j, j < K.m → 63 ≤ (K.D j).length ∧ (K.D j).length ≤ 65
theorem RDisk.but {r1 r2 : Nat} {w w' : World} {d : DV} {K : DK} (h : RDisk w d K) (hL : Lens K) (z1 : Zed w r1) (z2 : Zed w r2) (hb : But2 r1 r2 w w') : RDisk w' d K :=
  ⟨h.safe.but (fun i hi => by have := hL.S i hi; omega) z1 z2 hb, h.pend.but (fun i hi => by have := hL.D i hi; omega) z1 z2 hb⟩
theorem sumN_le65 (N : Nat → Nat) (c : Nat) : ∀ n, (∀ i, i < n → N i ≤ c) → sumN N n ≤ c * n
  | 0, _ => by simp [sumN]
  | n + 1, h => by
    have h1 := sumN_le65 N c n (fun i hi => h i (by omega))
    have h2 := h n (Nat.lt_succ_self _)
    simp only [sumN]
    rw [Nat.mul_add, Nat.mul_one]
    omega
theorem lens_small {w : World} {d : DV} {K : DK} (hr : RDisk w d K) (h : Lens K) : Small d K := by
  have hs : ∀ i, i < K.n → d.sN i ≤ 65 := fun i hi => by have := (hr.safe.data i hi).len_eq; have := h.S i hi; omega
  have hp : ∀ i, i < K.m → d.pN i ≤ 65 := fun i hi => by have := (hr.pend.data i hi).len_eq; have := h.D i hi; omega
  have hn := h.n
  have hm := h.m
  refine ⟨by omega, by omega, fun i hi => by have := hs i hi; omega, fun i hi => by have := hp i hi; omega, ?_⟩
  show mk 1 d.pN (mk 0 d.sN 1 K.n) K.m ≤ _
  have s1 := sumN_le65 d.sN 65 K.n hs
  have s2 := sumN_le65 d.pN 65 K.m hp
  rw [mk_sum, mk_sum]
  simp
  omega
theorem dskB_lens (l : List Int) (n p : Nat) : (∀ i, 63 ≤ ((dskB l n p).S i).length ∧ ((dskB l n p).S i).length ≤ 65) ∧ (∀ j, 63 ≤ ((dskB l n p).D j).length ∧ ((dskB l n p).D j).length ≤ 65) := by
  refine ⟨fun i => ?_, fun j => ?_⟩
  · show 63 ≤ (if i < _ then secL _ else zeros64).length ∧ (if i < _ then secL _ else zeros64).length ≤ 65
    split
    · rw [secL_len]; omega
    · rw [zeros64_len]; omega
  · show 63 ≤ (secL _).length ∧ (secL _).length ≤ 65
    rw [secL_len]
    omega
theorem dskK_lens {l : List Int} (hB : IsB l) (n p : Nat) : Lens (dskK l n p) := by
  obtain ⟨k0, k1⟩ := hB p
  obtain ⟨bS, bD⟩ := dskB_lens l n p
  have bn : (dskB l n p).n = (1 + l.getD p 0 % 7).toNat := rfl
  have bm : (dskB l n p).m = (l.getD p 0 / 7 % 6).toNat := rfl
  have hr : (l.getD (dskP l n p) 0 % 3).toNat ≤ 2 := by omega
  unfold dskK
  simp only []
  split
  · exact ⟨by omega, by omega, fun i _ => bS i, fun j _ => bD j⟩
  split
  · refine ⟨by show (dskB l n p).n ≤ _; omega, by show _ + 1 ≤ _; omega, fun i _ => bS i, fun j _ => ?_⟩
    show 63 ≤ (upd (dskB l n p).D _ _ j).length ∧ (upd (dskB l n p).D _ _ j).length ≤ 65
    unfold upd
    split
    · rw [secL_len]; omega
    · exact bD j
  split
  · refine ⟨by show (dskB l n p).n ≤ _; omega, by show (dskB l n p).m ≤ _; omega, fun i _ => ?_, fun j _ => bD j⟩
    show 63 ≤ (upd (dskB l n p).S _ _ i).length ∧ (upd (dskB l n p).S _ _ i).length ≤ 65
    unfold upd
    split
    · rw [List.length_replicate]; omega
    · exact bS i
  split
  · refine ⟨by show (dskB l n p).n ≤ _; omega, by show _ + 1 ≤ _; omega, fun i _ => bS i, fun j _ => ?_⟩
    show 63 ≤ (upd (dskB l n p).D _ _ j).length ∧ (upd (dskB l n p).D _ _ j).length ≤ 65
    unfold upd
    split
    · rw [List.length_replicate]; omega
    · exact bD j
  split
  · exact ⟨Nat.zero_le _, by show (dskB l n p).m ≤ _; omega, fun i hi => absurd hi (Nat.not_lt_zero _), fun j _ => bD j⟩
  split
  · refine ⟨by show (dskB l n p).n ≤ _; omega, by show 4999 + _ ≤ _; omega, fun i _ => bS i, fun j _ => ?_⟩
    show 63 ≤ (if j < _ then (dskB l n p).D j else secL _).length ∧ (if j < _ then (dskB l n p).D j else secL _).length ≤ 65
    split
    · exact bD j
    · rw [secL_len]; omega
  split
  · exact ⟨by show 4096 ≤ _; omega, Nat.zero_le _, fun i _ => by show 63 ≤ zeros64.length ∧ zeros64.length ≤ 65; rw [zeros64_len]; omega, fun j hj => absurd hj (Nat.not_lt_zero _)⟩
  · exact ⟨by show 4097 ≤ _; omega, Nat.zero_le _, fun i _ => by show 63 ≤ zeros64.length ∧ zeros64.length ≤ 65; rw [zeros64_len]; omega, fun j hj => absurd hj (Nat.not_lt_zero _)⟩
end Go.Proofs.YtjjfgoeibcmfkaaDoor

/- The draws of BestSuper and SuperOps: that there is an answer. -/
namespace Go.Proofs.YtjjfgoeibcmfkaaDoor
open Go.RowKit
set_option linter.unusedVariables false

theorem dOk_lens {K : DK} (h : dOk K) : Lens K := by
  obtain ⟨⟨h1, h2, h3⟩, h4, h5⟩ := h
  exact ⟨by omega, by omega, fun i hi => by have := h4 i hi; omega, fun j hj => by have := (h5 j hj).2; omega⟩

theorem best_fin {w w3 : World} {d : DV} {K : DK} (hy : w3.heap[w.heap.size]? = some (.cells #[.slice none 0 0, .slice none 0 0] 33 (0, 0))) (hd : Below w.heap.size w w3) (hr : RDisk w3 d K) (hL : Lens K) :
    Below w.heap.size w ((w3.setCell ⟨w.heap.size, 0, none⟩ (.slice d.sa K.n d.sc)).setCell ⟨w.heap.size, 1, none⟩ (.slice d.pa K.m d.pc)) ∧ RDisk ((w3.setCell ⟨w.heap.size, 0, none⟩ (.slice d.sa K.n d.sc)).setCell ⟨w.heap.size, 1, none⟩ (.slice d.pa K.m d.pc)) d K := by
  have q := ((Below.refl w.heap.size w3).setCell (p := ⟨w.heap.size, 0, none⟩) (Nat.le_refl _) (.slice d.sa K.n d.sc)).setCell (p := ⟨w.heap.size, 1, none⟩) (Nat.le_refl _) (.slice d.pa K.m d.pc)
  have bt : But2 w.heap.size w.heap.size w3 ((w3.setCell ⟨w.heap.size, 0, none⟩ (.slice d.sa K.n d.sc)).setCell ⟨w.heap.size, 1, none⟩ (.slice d.pa K.m d.pc)) := ⟨q.size, fun k hk h1 _ => (Below.heap_setCell _ ⟨w.heap.size, 1, none⟩ _ k h1).trans (Below.heap_setCell _ ⟨w.heap.size, 0, none⟩ _ k h1)⟩
  have zz := zed_disk hy
  exact ⟨hd.trans (q.mono (Nat.le_refl _)), hr.but hL zz zz bt⟩

set_option maxRecDepth 100000 in
set_option maxHeartbeats 2000000 in
theorem drawBest_calls (a : Option Addr) (n c : Nat) (l : List Int) (w : World) (h : Bs w a n c l) :
    Calls Tryd.prog 12 #[.slice a n c] w fun e w' => ∃ d K, e = .returned (dval d K) ∧ Below w.heap.size w w' ∧ RDisk w' d K := by
  have hBL : IsB (l.take 1000) := isB_take h.byte 1000
  have q0 : Below w.heap.size w (w.alloc (.cells #[.slice none 0 0, .slice none 0 0] 33)) := (Below.refl _ _).alloc (Nat.le_refl _) _
  have y0 := heap_alloc_new w (.cells #[.slice none 0 0, .slice none 0 0] 33)
  have z0 : (w.alloc (.cells #[.slice none 0 0, .slice none 0 0] 33)).heap.size = w.heap.size + 1 := by simp
  have s0 := h.below q0
  go_enter Tryd.func12, Tryd.ntmps12
  go_wp2_with fail
  generalize hW0 : w.alloc (.cells #[.slice none 0 0, .slice none 0 0] 33) = W0 at *
  clear hW0
  refine (l1Open_calls a n c l W0 s0).mono ?_
  rintro e w1 ⟨g, rfl, b1, hg, r1⟩
  generalize l.take 1000 = L at *
  generalize min n 1000 = N at *
  have z1 := b1.size
  have y1 := (b1.block w.heap.size (by omega)).trans y0
  have d1 := q0.trans (b1.mono q0.size)
  have hgl := r1.lt
  clear s0 y0 b1 q0 h
  go_wp2_with fail
  refine (next_calls g a N c L 0 w1 r1).mono ?_
  rintro e w2 ⟨rfl, o2, r2⟩
  have y2 := (o2.block w.heap.size (by omega) (by omega)).trans y1
  have z2 := o2.size
  have d2 := d1.trans (o2.below (by omega) d1.size)
  obtain ⟨k0, k1⟩ := hBL 0
  generalize L.getD 0 0 = k at *
  clear y1 d1 o2 r1
  generalize rdP N 0 = p at *
  by_cases hk : 250 ≤ k
  · have LN := dskK_lens hBL N p
    go_wp2_with fail
    refine (l1Disk_calls g a N c L p w2 r2).mono ?_
    rintro e w3 ⟨d, rfl, o3, r3, rd3⟩
    have y3 := (o3.block w.heap.size (by omega) (by omega)).trans y2
    have d3 := d2.trans (o3.below (by omega) d2.size)
    generalize dskK L N p = KK at *
    have l0 := cell_of_row _ _ 0 _ _ _ y3
    have l1 := cell_of_row _ _ 1 _ _ _ y3
    have f0 := frozen_of_row _ _ 0 _ _ y3
    have f1 := frozen_of_row _ _ 1 _ _ y3
    have F : Hid _ := best_fin y3 d3 rd3 LN
    clear o3 r3 rd3 y3 d3 r2 y2 d2 LN
    unfold dval
    go_wp2
    refine bodyPost_ret (v := .agg #[.slice d.sa KK.n d.sc, .slice d.pa KK.m d.pc]) (by simp [results, Tryd.results12, go_sem, l0, l1]) rfl ?_
    exact ⟨d, KK, rfl, F.out⟩
  · have hk2 : k < 250 := by omega
    go_wp2_with fail
    refine (l2Disk_calls g a N c L p w2 r2).mono ?_
    rintro e w3 ⟨d, KK, rfl, o3, rd3, ok3⟩
    have y3 := (o3.block w.heap.size (by omega) (by omega)).trans y2
    have d3 := d2.trans (o3.below (by omega) d2.size)
    have l0 := cell_of_row _ _ 0 _ _ _ y3
    have l1 := cell_of_row _ _ 1 _ _ _ y3
    have f0 := frozen_of_row _ _ 0 _ _ y3
    have f1 := frozen_of_row _ _ 1 _ _ y3
    have F : Hid _ := best_fin y3 d3 rd3 (dOk_lens ok3)
    clear o3 rd3 y3 d3 r2 y2 d2 ok3
    unfold dval
    go_wp2
    refine bodyPost_ret (v := .agg #[.slice d.sa KK.n d.sc, .slice d.pa KK.m d.pc]) (by simp [results, Tryd.results12, go_sem, l0, l1]) rfl ?_
    exact ⟨d, KK, rfl, F.out⟩

set_option maxRecDepth 100000 in
set_option maxHeartbeats 2000000 in
theorem drawSuper_calls (a : Option Addr) (n c : Nat) (l : List Int) (w : World) (h : Bs w a n c l) :
    Calls Tryd.prog 13 #[.slice a n c] w fun e w' => ∃ G R U F, e = .returned (.agg #[.int .i64 G, .int .i64 R, .int .i64 U, .int .i64 F]) ∧ Below w.heap.size w w' ∧ SuB G R U F := by
  have q0 : Below w.heap.size w (w.alloc (.cells #[.int .i64 0, .int .i64 0, .int .i64 0, .int .i64 0] 28)) := (Below.refl _ _).alloc (Nat.le_refl _) _
  have y0 := heap_alloc_new w (.cells #[.int .i64 0, .int .i64 0, .int .i64 0, .int .i64 0] 28)
  have z0 : (w.alloc (.cells #[.int .i64 0, .int .i64 0, .int .i64 0, .int .i64 0] 28)).heap.size = w.heap.size + 1 := by simp
  have s0 := h.below q0
  go_enter Tryd.func13, Tryd.ntmps13
  go_wp2_with fail
  generalize hW0 : w.alloc (.cells #[.int .i64 0, .int .i64 0, .int .i64 0, .int .i64 0] 28) = W0 at *
  clear hW0
  refine (l1Open_calls a n c l W0 s0).mono ?_
  rintro e w1 ⟨g, rfl, b1, hg, r1⟩
  generalize l.take 1000 = L at *
  generalize min n 1000 = N at *
  have z1 := b1.size
  have y1 := (b1.block w.heap.size (by omega)).trans y0
  have d1 := q0.trans (b1.mono q0.size)
  clear s0 y0 b1 q0 h
  go_wp2_with fail
  refine (l2Super_calls g a N c L 0 w1 r1).mono ?_
  rintro e w2 ⟨G, R, U, F, p', rfl, bd, o2, r2⟩
  have y2 := (o2.block w.heap.size (by omega) (by omega)).trans y1
  have d2 := d1.trans (o2.below (by omega) d1.size)
  have l0 := cell_of_row _ _ 0 _ _ _ y2
  have l1 := cell_of_row _ _ 1 _ _ _ y2
  have l2 := cell_of_row _ _ 2 _ _ _ y2
  have l3 := cell_of_row _ _ 3 _ _ _ y2
  have f0 := frozen_of_row _ _ 0 _ _ y2
  have f1 := frozen_of_row _ _ 1 _ _ y2
  have f2 := frozen_of_row _ _ 2 _ _ y2
  have f3 := frozen_of_row _ _ 3 _ _ y2
  have FIN : Hid _ := And.intro ((((d2.setCell (p := ⟨w.heap.size, 0, none⟩) (Nat.le_refl _) (.int .i64 G)).setCell (p := ⟨w.heap.size, 1, none⟩) (Nat.le_refl _) (.int .i64 R)).setCell (p := ⟨w.heap.size, 2, none⟩) (Nat.le_refl _) (.int .i64 U)).setCell (p := ⟨w.heap.size, 3, none⟩) (Nat.le_refl _) (.int .i64 F)) bd
  clear bd o2 r2 y1 y2 d1 d2 r1
  go_wp2
  refine bodyPost_ret (v := .agg #[.int .i64 G, .int .i64 R, .int .i64 U, .int .i64 F]) (by simp [results, Tryd.results13, go_sem, l0, l1, l2, l3]) rfl ?_
  exact ⟨G, R, U, F, rfl, FIN.out⟩
end Go.Proofs.YtjjfgoeibcmfkaaDoor

