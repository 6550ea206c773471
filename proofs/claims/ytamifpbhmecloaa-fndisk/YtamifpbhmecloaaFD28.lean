import Derived.Test.YtamifpbhmecloaaFD11
import Derived.Test.YtamifpbhmecloaaFD17
import Derived.Test.YtamifpbhmecloaaFD27
/- The draw of a choice. -/
namespace Go.Proofs.Ytamifpbhmecloaa
open Go.RowKit
set_option linter.unusedVariables false

/-- Where the reader stands behind so many bytes. -/
def rdN (n p : Nat) : Nat → Nat
  | 0 => p
  | j + 1 => rdP n (rdN n p j)
def rdL (l : List Int) (n p : Nat) : Nat → List Int
  | 0 => []
  | j + 1 => rdL l n p j ++ [l.getD (rdN n p j) 0]
theorem rdL_len (l : List Int) (n p : Nat) : ∀ j, (rdL l n p j).length = j
  | 0 => rfl
  | j + 1 => by simp [rdL, rdL_len l n p j]
def choM (l : List Int) (p : Nat) : Nat := (l.getD p 0 % 5).toNat
def choL (l : List Int) (n p : Nat) : List Int := rdL l n (rdP n p) (choM l p)
def choQ (l : List Int) (n p : Nat) : Nat := rdN n (rdP n p) (choM l p)
theorem isB_snoc {l : List Int} {v : Int} (h : IsB l) (h0 : 0 ≤ v) (h1 : v < 256) : IsB (l ++ [v]) := isB_append h (isB_one h0 h1)
theorem isB_rdL {l : List Int} (h : IsB l) (n p : Nat) : ∀ j, IsB (rdL l n p j)
  | 0 => isB_nil
  | j + 1 => isB_snoc (isB_rdL h n p j) (h _).1 (h _).2
set_option maxRecDepth 100000 in
set_option maxHeartbeats 2000000 in
theorem l1Choice_calls (g : Nat) (a : Option Addr) (n c : Nat) (l : List Int) (p : Nat) (w : World) (h : IsRd w g a n c l p) :
    Calls Try.prog 58 #[.pointer (some ⟨g, 0, none⟩)] w fun e w' => ∃ a' c', e = .returned (.slice a' (choM l p) c') ∧ OnlyB g w w' ∧ IsRd w' g a n c l (choQ l n p) ∧ Own w.heap.size w' a' (choM l p) c' (choL l n p) := by
  have hB := h.bs.byte p
  have hg := h.lt
  go_enter Try.func58, Try.ntmps58
  go_wp2_with fail
  refine (next_calls g a n c l p w h).mono ?_
  rintro e w1 ⟨rfl, o1, r1⟩
  obtain ⟨m, hm⟩ : ∃ m : Nat, l.getD p 0 % 5 = (m : Int) := ⟨(l.getD p 0 % 5).toNat, by omega⟩
  have HM : Hid (choM l p = m) := by show choM l p = m; unfold choM; rw [hm]; rfl
  generalize l.getD p 0 = k at *
  obtain ⟨k0, k1⟩ := hB
  have hm5 : k.tmod 5 = k % 5 := Int.tmod_eq_emod_of_nonneg k0
  have hm' : m ≤ 4 := by omega
  have q1 := (Below.refl w1.heap.size w1).alloc (Nat.le_refl _) (.cells #[] 5)
  have o2 := o1.thenB q1 o1.size
  have r2 := r1.below q1
  have s2 := own_lit w1 [] 0 rfl (by omega) w.heap.size o1.size
  rw [hm] at hm5
  have H : Hid (IsRd w g a n c l p) := h
  clear q1 o1 r1 h
  go_wp2_with fail
  go_loopw [4, 5] (fun o i wr => ∃ (j : Nat) (a' : Option Addr) (c' : Nat), j ≤ m ∧ i = .int .i64 (j : Nat) ∧ o = .slice a' j c' ∧ OnlyB g w wr ∧ IsRd wr g a n c l (rdN n (rdP n p) j) ∧ Own w.heap.size wr a' j c' (rdL l n (rdP n p) j)) (fun _ i _ => m - (intOf i).toNat)
  case atStart => exact ⟨0, _, 0, Nat.zero_le _, rfl, rfl, o2, r2, s2⟩
  case round =>
    obtain ⟨j, a', c', hj, rfl, rfl, hO, hR, ho⟩ := hrel
    clear o2 r2 s2
    by_cases hlt : j < m
    · have hlt' : (j : Int) < (m : Int) := by omega
      have hv := hR.bs.byte (rdN n (rdP n p) j)
      go_wp2_with fail
      refine (next_calls g a n c l _ wr hR).mono ?_
      rintro e w2 ⟨rfl, o2, r2⟩
      have hne : (Value.slice a' j c').ownBlock ≠ some g := fun e => by have := (World.ownsRow.lt ho g e).1; omega
      have ho2 := o2.own ho hne
      have z2 : w.heap.size ≤ w2.heap.size := Nat.le_trans hO.size o2.size
      have O2 : Hid _ := hO.trans o2
      have R2 : Hid _ := r2
      have HO2 : Hid _ := ho2
      have HV : Hid (rdL l n (rdP n p) (j + 1) = rdL l n (rdP n p) j ++ [l.getD (rdN n (rdP n p) j) 0]) := rfl
      generalize l.getD (rdN n (rdP n p) j) 0 = v at *
      obtain ⟨hv0, hv1⟩ := hv
      clear ho hR hO o2 r2 ho2
      go_wp2_with (at_builtin; refine wpList_app rfl _ _ rfl w.heap.size a' j c' (rdL l n (rdP n p) j) rfl ?own _ 1 1 [v] rfl ?bs ?len ?B ?_)
      case own => exact World.ownsRow.alloc HO2.out _
      case bs => exact bs_lit1 w2 v (by omega) (by omega)
      case len => omega
      case B => simp; omega
      intro a3 c3 w3 o3 b3 _
      have q := (Below.refl w2.heap.size w2).alloc (Nat.le_refl _) (.cells #[.int .u8 v] 5)
      have b4 : Below w.heap.size w2 w3 := (q.mono z2).trans b3
      have o4 := O2.out.thenB b4 (Nat.le_refl _)
      have r4 := H.out.only o4 (by rw [b4.block g hg]; exact R2.out.box) R2.out.at_
      have O4 : Hid _ := o4
      have R4 : Hid _ := r4
      have O3 : Hid _ := o3
      clear o3 b3 q b4 o4 r4 O2 R2 HO2
      go_wp2
      go_roundw
      case rel => exact ⟨j + 1, a3, c3, by omega, by go_num, rfl, O4.out, R4.out, by rw [HV.out]; exact O3.out⟩
      case measure => simp [intOf]; omega
    · have e : j = m := by omega
      subst e
      have F : Hid _ := And.intro hO (And.intro hR ho)
      have hlt' : ¬ (j : Int) < (j : Int) := by omega
      clear hO hR ho
      go_wp2
      go_ret
      unfold choL choQ
      rw [HM.out]
      exact ⟨a', c', rfl, F.out⟩
end Go.Proofs.Ytamifpbhmecloaa

/- Drawn disks stay when the variables of the answer are written. -/
namespace Go.Proofs.Ytamifpbhmecloaa
open Go.RowKit
set_option linter.unusedVariables false

/-- A block that holds no bytes, and no slice but empty ones. -/
def Zed (w : World) (g : Nat) : Prop := ∃ cur e fr, w.heap[g]? = some (.cells cur e fr) ∧ ∀ (i : Nat) (u : Value), cur[i]? = some u → (∀ a n c, u = .slice a n c → n = 0) ∧ ∀ x, u ≠ .int .u8 x
theorem zed_disk {w : World} {g : Nat} (h : w.heap[g]? = some (.cells #[.slice none 0 0, .slice none 0 0] 26 (0, 0))) : Zed w g := ⟨_, _, _, h, fun i u hu => by
  rcases i with _ | _ | i <;> simp at hu <;> subst hu <;> exact ⟨fun a n c e => by cases e; rfl, fun x e => by cases e⟩⟩
theorem zed_op {w : World} {g : Nat} (h : w.heap[g]? = some (.cells #[.int .i64 0, .int .i64 0, .slice none 0 0] 28 (0, 0))) : Zed w g := ⟨_, _, _, h, fun i u hu => by
  rcases i with _ | _ | _ | i <;> simp at hu <;> subst hu
  · exact ⟨fun a n c e => (by cases e), fun x e => (by cases e)⟩
  · exact ⟨fun a n c e => (by cases e), fun x e => (by cases e)⟩
  · exact ⟨fun a n c e => by cases e; rfl, fun x e => by cases e⟩⟩
theorem Zed.notByte {w : World} {g : Nat} (h : Zed w g) {off : Nat} {x : Int} (hc : w.cell? ⟨g, off, none⟩ = some (.int .u8 x)) : False := by
  obtain ⟨cur, e, fr, hx, hz⟩ := h
  rw [cell_of_row w g off _ _ _ hx] at hc
  exact (hz off _ hc).2 x rfl
theorem Zed.notSlice {w : World} {g : Nat} (h : Zed w g) {off n c : Nat} {a : Option Addr} (hc : w.cell? ⟨g, off, none⟩ = some (.slice a n c)) : n = 0 := by
  obtain ⟨cur, e, fr, hx, hz⟩ := h
  rw [cell_of_row w g off _ _ _ hx] at hc
  exact (hz off _ hc).1 a n c rfl
/-- Two blocks are turned. -/
structure But2 (r1 r2 : Nat) (w w' : World) : Prop where
  size : w.heap.size ≤ w'.heap.size
  block : ∀ k, k < w.heap.size → k ≠ r1 → k ≠ r2 → w'.heap[k]? = w.heap[k]?
theorem Bs.but {r1 r2 : Nat} {w w' : World} {a : Option Addr} {n c : Nat} {l : List Int} (h : Bs w a n c l) (z1 : Zed w r1) (z2 : Zed w r2) (hb : But2 r1 r2 w w') : Bs w' a n c l :=
  ⟨h.len_eq, h.le, h.le', h.nil, fun hp => by
    obtain ⟨b, off, e, hl, hc⟩ := h.at_ hp
    have n1 : b ≠ r1 := fun e1 => by subst e1; exact z1.notByte (hc 0 hp)
    have n2 : b ≠ r2 := fun e1 => by subst e1; exact z2.notByte (hc 0 hp)
    refine ⟨b, off, e, Nat.lt_of_lt_of_le hl hb.size, fun i hi => ?_⟩
    rw [World.cell?_of_block (a := ⟨b, off + i, none⟩) (hb.block b hl n1 n2)]
    exact hc i hi, h.byte⟩
theorem RRecs.but {p r1 r2 : Nat} {w w' : World} {a : Option Addr} {n c : Nat} {I : Nat → Nat → Int} {A : Nat → Option Addr} {N C : Nat → Nat} {L : Nat → List Int} (h : RRecs p w a n c I A N C L) (hL : ∀ i, i < n → 0 < (L i).length) (z1 : Zed w r1) (z2 : Zed w r2) (hb : But2 r1 r2 w w') : RRecs p w' a n c I A N C L :=
  ⟨h.le, h.le', h.nil, fun hp => by
    obtain ⟨b, off, e, hl, hc⟩ := h.at_ hp
    have hN : 0 < N 0 := by rw [← (h.data 0 hp).len_eq]; exact hL 0 hp
    have n1 : b ≠ r1 := fun e1 => by subst e1; have := z1.notSlice (hc 0 hp).2; omega
    have n2 : b ≠ r2 := fun e1 => by subst e1; have := z2.notSlice (hc 0 hp).2; omega
    refine ⟨b, off, e, Nat.lt_of_lt_of_le hl hb.size, fun i hi => ⟨fun q hq => ?_, ?_⟩⟩
    · rw [World.cell?_of_block (a := ⟨b, _, none⟩) (hb.block b hl n1 n2)]; exact (hc i hi).1 q hq
    · rw [World.cell?_of_block (a := ⟨b, _, none⟩) (hb.block b hl n1 n2)]; exact (hc i hi).2, fun i hi => (h.data i hi).but z1 z2 hb⟩

theorem bs_onlyR {g : Nat} {w w' : World} {a oa : Option Addr} {n c p on oc : Nat} {l ol : List Int} (hr : IsRd w g a n c l p) (h : Bs w oa on oc ol) (ho : OnlyB g w w') : Bs w' oa on oc ol :=
  ⟨h.len_eq, h.le, h.le', h.nil, fun hp => by
    obtain ⟨b, off, e, hl, hc⟩ := h.at_ hp
    have hne : b ≠ g := fun hb => by
      subst hb
      have h0 := hc 0 hp
      rw [cell_of_row _ _ _ _ _ _ hr.box] at h0
      rcases off with _ | _ | off <;> simp at h0
    refine ⟨b, off, e, Nat.lt_of_lt_of_le hl ho.size, fun i hi => ?_⟩
    rw [World.cell?_of_block (a := ⟨b, off + i, none⟩) (ho.block b hl hne)]
    exact hc i hi, h.byte⟩

/-- The sizes of a drawn disk. -/
structure Lens (K : DK) : Prop where
  n : K.n ≤ 4097
  m : K.m ≤ 5001
  S : ∀ i, i < K.n → 63 ≤ (K.S i).length ∧ (K.S i).length ≤ 65
  D : ∀ j, j < K.m → 63 ≤ (K.D j).length ∧ (K.D j).length ≤ 65
theorem RDisk.but {r1 r2 : Nat} {w w' : World} {d : DV} {K : DK} (h : RDisk w d K) (hL : Lens K) (z1 : Zed w r1) (z2 : Zed w r2) (hb : But2 r1 r2 w w') : RDisk w' d K :=
  ⟨h.safe.but (fun i hi => by have := hL.S i hi; omega) z1 z2 hb, h.pend.but (fun i hi => by have := hL.D i hi; omega) z1 z2 hb⟩
theorem sumN_le65 (N : Nat → Nat) (c : Nat) : ∀ n, (∀ i, i < n → N i ≤ c) → sumN N n ≤ c * n
  | 0, _ => by simp [sumN]
  | n + 1, h => by
    have h1 := sumN_le65 N c n (fun i hi => h i (by omega))
    have h2 := h n (Nat.lt_succ_self _)
    simp only [sumN]
    rw [Nat.mul_add, Nat.mul_one]
    omega
theorem lens_small {w : World} {d : DV} {K : DK} (hr : RDisk w d K) (h : Lens K) : Small d K := by
  have hs : ∀ i, i < K.n → d.sN i ≤ 65 := fun i hi => by have := (hr.safe.data i hi).len_eq; have := h.S i hi; omega
  have hp : ∀ i, i < K.m → d.pN i ≤ 65 := fun i hi => by have := (hr.pend.data i hi).len_eq; have := h.D i hi; omega
  have hn := h.n
  have hm := h.m
  refine ⟨by omega, by omega, fun i hi => by have := hs i hi; omega, fun i hi => by have := hp i hi; omega, ?_⟩
  show mk 1 d.pN (mk 0 d.sN 1 K.n) K.m ≤ _
  have s1 := sumN_le65 d.sN 65 K.n hs
  have s2 := sumN_le65 d.pN 65 K.m hp
  rw [mk_sum, mk_sum]
  simp
  omega
theorem dskB_lens (l : List Int) (n p : Nat) : (∀ i, 63 ≤ ((dskB l n p).S i).length ∧ ((dskB l n p).S i).length ≤ 65) ∧ (∀ j, 63 ≤ ((dskB l n p).D j).length ∧ ((dskB l n p).D j).length ≤ 65) := by
  refine ⟨fun i => ?_, fun j => ?_⟩
  · show 63 ≤ (if i < _ then secL _ else zeros64).length ∧ (if i < _ then secL _ else zeros64).length ≤ 65
    split
    · rw [secL_len]; omega
    · rw [zeros64_len]; omega
  · show 63 ≤ (secL _).length ∧ (secL _).length ≤ 65
    rw [secL_len]
    omega
theorem dskK_lens {l : List Int} (hB : IsB l) (n p : Nat) : Lens (dskK l n p) := by
  obtain ⟨k0, k1⟩ := hB p
  obtain ⟨bS, bD⟩ := dskB_lens l n p
  have bn : (dskB l n p).n = (1 + l.getD p 0 % 7).toNat := rfl
  have bm : (dskB l n p).m = (l.getD p 0 / 7 % 6).toNat := rfl
  have hr : (l.getD (dskP l n p) 0 % 3).toNat ≤ 2 := by omega
  unfold dskK
  simp only []
  split
  · exact ⟨by omega, by omega, fun i _ => bS i, fun j _ => bD j⟩
  split
  · refine ⟨by show (dskB l n p).n ≤ _; omega, by show _ + 1 ≤ _; omega, fun i _ => bS i, fun j _ => ?_⟩
    show 63 ≤ (upd (dskB l n p).D _ _ j).length ∧ (upd (dskB l n p).D _ _ j).length ≤ 65
    unfold upd
    split
    · rw [secL_len]; omega
    · exact bD j
  split
  · refine ⟨by show (dskB l n p).n ≤ _; omega, by show (dskB l n p).m ≤ _; omega, fun i _ => ?_, fun j _ => bD j⟩
    show 63 ≤ (upd (dskB l n p).S _ _ i).length ∧ (upd (dskB l n p).S _ _ i).length ≤ 65
    unfold upd
    split
    · rw [List.length_replicate]; omega
    · exact bS i
  split
  · refine ⟨by show (dskB l n p).n ≤ _; omega, by show _ + 1 ≤ _; omega, fun i _ => bS i, fun j _ => ?_⟩
    show 63 ≤ (upd (dskB l n p).D _ _ j).length ∧ (upd (dskB l n p).D _ _ j).length ≤ 65
    unfold upd
    split
    · rw [List.length_replicate]; omega
    · exact bD j
  split
  · exact ⟨Nat.zero_le _, by show (dskB l n p).m ≤ _; omega, fun i hi => absurd hi (Nat.not_lt_zero _), fun j _ => bD j⟩
  split
  · refine ⟨by show (dskB l n p).n ≤ _; omega, by show 4999 + _ ≤ _; omega, fun i _ => bS i, fun j _ => ?_⟩
    show 63 ≤ (if j < _ then (dskB l n p).D j else secL _).length ∧ (if j < _ then (dskB l n p).D j else secL _).length ≤ 65
    split
    · exact bD j
    · rw [secL_len]; omega
  split
  · exact ⟨by show 4096 ≤ _; omega, Nat.zero_le _, fun i _ => by show 63 ≤ zeros64.length ∧ zeros64.length ≤ 65; rw [zeros64_len]; omega, fun j hj => absurd hj (Nat.not_lt_zero _)⟩
  · exact ⟨by show 4097 ≤ _; omega, Nat.zero_le _, fun i _ => by show 63 ≤ zeros64.length ∧ zeros64.length ≤ 65; rw [zeros64_len]; omega, fun j hj => absurd hj (Nat.not_lt_zero _)⟩
end Go.Proofs.Ytamifpbhmecloaa

