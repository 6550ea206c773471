import Derived.Test.YtjjfgoeibcmfkaaDoorFS27
import Derived.Test.YtjjfgoeibcmfkaaDoorFS24
import Derived.Test.YtjjfgoeibcmfkaaDoorFS12
import Derived.Deep.DeepCutAuto
/- The draw of a disk: its first two loops. -/
namespace Go.Proofs.YtjjfgoeibcmfkaaDoor
open Go.RowKit
set_option linter.unusedVariables false

theorem infoPw : (Tryd.prog.info? 100).map (fun i => (i.zero, i.size, i.bytes)) = some (some (.agg #[.int .i64 0, .slice none 0 0]), 2, 32) := by kernel_rfl
theorem infPw : ∃ i z, Tryd.prog.info? 100 = some i ∧ i.zero = some z ∧ i.size = 1 + 1 ∧ z.cells.size = 1 + 1 ∧ i.bytes ≤ 64 := by
  obtain ⟨i, hi, h0, h1, h2⟩ := info_parts infoPw
  exact ⟨i, _, hi, h0, h1, rfl, by omega⟩

def rdIt (n p : Nat) : Nat → Nat
  | 0 => p
  | k + 1 => rdP n (rdIt n p k)
/-- The pending writes that were drawn first, i of them. -/
def drP (l : List Int) (n p : Nat) (nS : Nat) (i : Nat) : DK := { n := nS, S := fun _ => zeros64, m := i, At := fun j => l.getD (rdIt n p (2 * j)) 0 % nS, D := fun j => secL (l.getD (rdIt n p (2 * j + 1)) 0) }

/-- .. and the first i sectors. -/
def drS (l : List Int) (n p : Nat) (nS m : Nat) (i : Nat) : DK := { drP l n p nS m with S := fun j => if j < i then secL (l.getD (rdIt n (rdIt n p (2 * m)) j) 0) else zeros64 }

theorem WRecs.setBox {p e B : Nat} {w : World} {a : Option Addr} {n c : Nat} {I : Nat → Nat → Int} {A : Nat → Option Addr} {N C : Nat → Nat} {L : Nat → List Int} (h : WRecs p e B w a n c I A N C L) {g e' : Nat} {cur : Array Value} {fr : Nat × Nat} (hx : w.heap[g]? = some (.cells cur e' fr)) (he : e ≠ e') (hb : 5 ≠ e') (q : Nat) (v : Value) : WRecs p e B (w.setCell ⟨g, q, none⟩ v) a n c I A N C L :=
  ⟨ownsRow_setCell_other h.row (row_ne_block h.row hx he) v, fun i hi => ownsRow_setCell_other (h.data i hi) (row_ne_block (h.data i hi) hx hb) v, h.byte⟩

theorem WRecs.setBelow {p e B : Nat} {w : World} {a : Option Addr} {n c : Nat} {I : Nat → Nat → Int} {A : Nat → Option Addr} {N C : Nat → Nat} {L : Nat → List Int} (h : WRecs p e B w a n c I A N C L) {q : Addr} (hq : q.block < B) (u : Value) : WRecs p e B (w.setCell q u) a n c I A N C L :=
  ⟨ownsRow_setCell_below h.row hq u, fun i hi => ownsRow_setCell_below (h.data i hi) hq u, h.byte⟩
theorem WRecs.congr {p e B : Nat} {w : World} {a : Option Addr} {n c : Nat} {I I' : Nat → Nat → Int} {A : Nat → Option Addr} {N C : Nat → Nat} {L L' : Nat → List Int} (h : WRecs p e B w a n c I A N C L) (hI : ∀ i, i < n → ∀ q, q < p → I i q = I' i q) (hL : ∀ i, i < n → L i = L' i) : WRecs p e B w a n c I' A N C L' :=
  ⟨by rw [← flat_congr p n (fun i hi => ⟨hI i hi, rfl⟩)]; exact h.row, fun i hi => by rw [← hL i hi]; exact h.data i hi, fun i hi => by rw [← hL i hi]; exact h.byte i hi⟩

/-- A disk in a box, its rows the call's own. -/
structure WBox (B : Nat) (w : World) (g : Nat) (d : DV) (K : DK) : Prop where
  box : IsBox w g d K
  safe : WRecs 0 38 B w d.sa K.n d.sc zI d.sA d.sN d.sC K.S
  pend : WRecs 1 100 B w d.pa K.m d.pc (aI K) d.pA d.pN d.pC K.D
theorem WBox.below {B : Nat} {w w' : World} {g : Nat} {d : DV} {K : DK} (h : WBox B w g d K) (hb : Below w.heap.size w w') : WBox B w' g d K := ⟨h.box.below hb, h.safe.below hb, h.pend.below hb⟩
theorem WBox.only {B : Nat} {w w' : World} {g r : Nat} {d : DV} {K : DK} (h : WBox B w g d K) (ho : OnlyB r w w') (hr : r < B) (hg : B ≤ g) : WBox B w' g d K :=
  ⟨by have h1 := ho.block g h.box.lt (by omega); exact h1.trans h.box, h.safe.only ho hr, h.pend.only ho hr⟩
theorem WBox.reads {B : Nat} {w : World} {g : Nat} {d : DV} {K : DK} (h : WBox B w g d K) : RDisk w d K := ⟨h.safe.reads, h.pend.reads⟩

/-- The result is stored, and the call ends. -/
theorem draw_fin {B g n c p q : Nat} {a : Option Addr} {l : List Int} {w v : World} {d : DV} {K : DK} (H : IsRd w g a n c l p) (hlb : w.heap.size < B) (O : OnlyB g w v) (hb : v.heap[g]? = some (.cells #[.slice a n c, .int .i64 (q : Nat)] 107 (0, 0))) (hq : q ≤ n)
    (hs : WRecs 0 38 B v d.sa K.n d.sc zI d.sA d.sN d.sC K.S) (hp : WRecs 1 100 B v d.pa K.m d.pc (aI K) d.pA d.pN d.pC K.D) (u0 u1 : Value) :
    OnlyB g w ((v.setCell ⟨w.heap.size, 0, none⟩ u0).setCell ⟨w.heap.size, 1, none⟩ u1) ∧ IsRd ((v.setCell ⟨w.heap.size, 0, none⟩ u0).setCell ⟨w.heap.size, 1, none⟩ u1) g a n c l q ∧ RDisk ((v.setCell ⟨w.heap.size, 0, none⟩ u0).setCell ⟨w.heap.size, 1, none⟩ u1) d K := by
  have B7 : Below w.heap.size v ((v.setCell ⟨w.heap.size, 0, none⟩ u0).setCell ⟨w.heap.size, 1, none⟩ u1) := ((Below.refl w.heap.size v).setCell (p := ⟨w.heap.size, 0, none⟩) (Nat.le_refl _) _).setCell (p := ⟨w.heap.size, 1, none⟩) (Nat.le_refl _) _
  have O7 := O.thenB B7 (Nat.le_refl _)
  exact ⟨O7, H.only O7 ((B7.block g H.lt).trans hb) hq, ⟨((hs.setBelow (q := ⟨w.heap.size, 0, none⟩) hlb _).setBelow (q := ⟨w.heap.size, 1, none⟩) hlb _).reads, ((hp.setBelow (q := ⟨w.heap.size, 0, none⟩) hlb _).setBelow (q := ⟨w.heap.size, 1, none⟩) hlb _).reads⟩⟩
/-- No record at all. -/
theorem WRecs.none {p e B : Nat} {w : World} {a : Option Addr} {n c : Nat} {I : Nat → Nat → Int} {A : Nat → Option Addr} {N C : Nat → Nat} {L : Nat → List Int} (h : WRecs p e B w a n c I A N C L) : WRecs p e B w a 0 c I A N C L := by
  refine ⟨⟨by simp [flat], ?_⟩, fun i hi => absurd hi (Nat.not_lt_zero _), fun i hi => absurd hi (Nat.not_lt_zero _)⟩
  rcases h.row.2 with ⟨e1, h0⟩ | ⟨g, cap, cur, e1, hg, hh, h1, h2, h3, h4⟩
  · cases e1; exact Or.inl ⟨rfl, rfl⟩
  · cases e1; exact Or.inr ⟨g, _, cur, rfl, hg, hh, Nat.zero_le _, h2, h3, by simp [flat]⟩
end Go.Proofs.YtjjfgoeibcmfkaaDoor

/- The draw of a disk. -/
namespace Go.Proofs.YtjjfgoeibcmfkaaDoor
open Go.RowKit
set_option linter.unusedVariables false

theorem wbox_cells {B : Nat} {w : World} {g : Nat} {d : DV} {K : DK} (h : WBox B w g d K) : w.cell? ⟨g, 0, none⟩ = some (.slice d.sa K.n d.sc) ∧ w.cell? ⟨g, 1, none⟩ = some (.slice d.pa K.m d.pc) := ⟨h.box.c0, h.box.c1⟩

set_option maxRecDepth 100000 in
set_option maxHeartbeats 8000000 in
theorem l1Disk_plain (nS m1 : Nat) (g : Nat) (a : Option Addr) (n c : Nat) (l : List Int) (p : Nat) (hnS0 : 1 + l.getD p 0 % 7 = (nS : Int)) (hm0 : l.getD p 0 / 7 % 6 = (m1 : Int)) (hk0 : l.getD p 0 < 240) (w : World) (h : IsRd w g a n c l p) :
    Calls Tryd.prog 37 #[.pointer (some ⟨g, 0, none⟩)] w fun e w' => ∃ d, e = .returned (dval d (drS l n (rdP n p) nS m1 nS)) ∧ OnlyB g w w' ∧ IsRd w' g a n c l (rdIt n (rdIt n (rdP n p) (2 * m1)) nS) ∧ RDisk w' d (drS l n (rdP n p) nS m1 nS) := by
  have HN0 : Hid _ := hnS0
  have HM0 : Hid _ := hm0
  have HK0 : Hid _ := hk0
  clear hnS0 hm0 hk0
  have hB := h.bs.byte p
  have hg := h.lt
  have q0 := (Below.refl w.heap.size w).alloc (Nat.le_refl _) (.cells #[.slice none 0 0, .slice none 0 0] 33)
  have y0 := heap_alloc_new w (.cells #[.slice none 0 0, .slice none 0 0] 33)
  have z0 : (w.alloc (.cells #[.slice none 0 0, .slice none 0 0] 33)).heap.size = w.heap.size + 1 := by simp
  have r0 := h.below q0
  have H : Hid _ := h
  have HBY : Hid (IsB l) := h.bs.byte
  go_enter Tryd.func37, Tryd.ntmps37
  go_wp2_with fail
  generalize hW0 : w.alloc (.cells #[.slice none 0 0, .slice none 0 0] 33) = W0 at *
  clear hW0
  refine (next_calls g a n c l p W0 r0).mono ?_
  rintro e w1 ⟨rfl, o1, r1⟩
  have y1 := (o1.block w.heap.size (by omega) (by omega)).trans y0
  have zo := o1.size
  have O1 : Hid (OnlyB g w w1) := (Below.onlyB q0 g).trans o1
  generalize hkk : l.getD p 0 = k at *
  have HK : Hid (l.getD p 0 = k) := hkk
  clear hkk y0 q0 r0 o1 h
  obtain ⟨k0, k1⟩ := hB
  have hm7 : k.tmod 7 = k % 7 := Int.tmod_eq_emod_of_nonneg k0
  have hnS : 1 + k % 7 = (nS : Int) := HN0.out
  have hn1 : 1 ≤ nS := by omega
  have hn7 : nS ≤ 7 := by omega
  have ND := specNewDisk_yes nS w1 (by omega) (by omega)
  have HNS : Hid (1 + k % 7 = (nS : Int)) := hnS
  rw [← hnS] at ND
  clear hnS
  go_wp2_with fail
  refine ND.mono ?_
  rintro e w2 ⟨d2, rfl, b2, o2⟩
  have x3 := isBox_new w2 d2 (newK nS)
  have q3 := (Below.refl w2.heap.size w2).alloc (Nat.le_refl _) (.cells #[.slice d2.sa (newK nS).n d2.sc, .slice d2.pa (newK nS).m d2.pc] 33)
  have o3 := o2.below q3
  have b3 := b2.trans (q3.mono b2.size)
  have O3 : Hid (OnlyB g w _) := O1.out.thenB b3 O1.out.size
  have R3 : Hid _ := r1.below b3
  have y3 := (b3.block w.heap.size (by omega)).trans y1
  have zb2 := b2.size
  have WB3 : Hid (WBox w1.heap.size _ w2.heap.size d2 (drP l n (rdP n p) nS 0)) := ⟨x3, o3.safe.weak, ⟨o3.pend.row, fun i hi => absurd hi (Nat.not_lt_zero _), fun i hi => absurd hi (Nat.not_lt_zero _)⟩⟩
  unfold dval
  clear ND x3 q3 o3 b3 y1 r1 o2 b2
  go_upto_region 3 with fail
  have hd7 : k.tdiv 7 = k / 7 := Int.tdiv_eq_ediv_of_nonneg k0
  have hm6 : (k / 7).tmod 6 = k / 7 % 6 := Int.tmod_eq_emod_of_nonneg (by omega)
  have hm1 : k / 7 % 6 = (m1 : Int) := HM0.out
  have hm5 : m1 ≤ 5 := by omega
  generalize hW3 : w2.alloc (.cells #[.slice d2.sa (newK nS).n d2.sc, .slice d2.pa (newK nS).m d2.pc] 33) = W3 at *
  clear hW3
  go_wp2_with fail
  go_loopw [6] (fun s6 wr => ∃ (i : Nat) (d' : DV), i ≤ m1 ∧ s6 = .int .i64 (i : Nat) ∧ OnlyB g w wr ∧ wr.heap[w.heap.size]? = some (.cells #[.slice none 0 0, .slice none 0 0] 33 (0, 0)) ∧ IsRd wr g a n c l (rdIt n (rdP n p) (2 * i)) ∧ WBox w1.heap.size wr w2.heap.size d' (drP l n (rdP n p) nS i) ∧ w2.heap.size < wr.heap.size) (fun s6 _ => m1 - (intOf s6).toNat)
  case atStart => exact ⟨0, d2, Nat.zero_le _, rfl, O3.out, y3, R3.out, WB3.out, WB3.out.box.lt⟩
  case round =>
    obtain ⟨i, d', hi, rfl, hO, hy, hR, hW, hz⟩ := hrel
    by_cases hlt : i < m1
    · have hlt' : (i : Int) < (m1 : Int) := by omega
      obtain ⟨c0, c1⟩ := wbox_cells hW
      have hbv := HBY.out (rdIt n (rdP n p) (2 * i))
      have HBV2 : Hid (IsB (secL (l.getD (rdIt n (rdP n p) (2 * i + 1)) 0))) := secL_isB (HBY.out _).1 (HBY.out _).2
      have KEY : Hid (∀ v, OnlyB g wr v → v.cell? ⟨w2.heap.size, 0, none⟩ = some (.slice d'.sa nS d'.sc) ∧ v.cell? ⟨w2.heap.size, 1, none⟩ = some (.slice d'.pa i d'.pc)) := fun v b => wbox_cells (hW.only b (by omega) (by omega))
      have HO : Hid _ := hO
      have HW : Hid _ := hW
      have HR : Hid _ := hR
      have HY : Hid _ := hy
      clear hO hW hR hy c0 c1 WB3 O3 R3 y3
      have hS0 := KEY.out wr.drew (OnlyB.refl g wr).drew
      obtain ⟨c0, c1⟩ := KEY.out wr (OnlyB.refl g wr)
      go_wp2_with fail
      refine wp_regionD (fun v => v.cell? ⟨w2.heap.size, 0, none⟩ = some (.slice d'.sa nS d'.sc) ∧ v.cell? ⟨w2.heap.size, 1, none⟩ = some (.slice d'.pa i d'.pc)) (fun j => j == 14) (by kernel_rfl) ?_
      refine wpAnyD_takeS 0 27 (v := ?vva0) rfl rfl (by kernel_rfl) (by kernel_rfl) (by kernel_rfl) (by kernel_rfl) (fun _ _ _ h => h) (Or.inl ⟨by rfl, ?hya0⟩) hS0 ?resta0
      case hya0 => (intro w hSw; (try dsimp only at hSw); go_simp; try with_reducible rfl)
      simp only [Act.put, List.setIfInBounds_toArray, List.set_cons_zero, List.set_cons_succ]
      refine wpAnyD_takeS 1 28 (v := ?vva1) rfl rfl (by kernel_rfl) (by kernel_rfl) (by kernel_rfl) (by kernel_rfl) (fun _ _ _ h => h) (Or.inl ⟨by rfl, ?hya1⟩) hS0 ?resta1
      case hya1 => (intro w hSw; (try dsimp only at hSw); go_simp; try with_reducible rfl)
      simp only [Act.put, List.setIfInBounds_toArray, List.set_cons_zero, List.set_cons_succ]
      refine wpAnyD_takeS 2 29 (v := ?vva2) rfl rfl (by kernel_rfl) (by kernel_rfl) (by kernel_rfl) (by kernel_rfl) (fun _ _ _ h => h) (Or.inl ⟨by rfl, ?hya2⟩) hS0 ?resta2
      case hya2 => (intro w hSw; (try dsimp only at hSw); go_simp; try with_reducible rfl)
      simp only [Act.put, List.setIfInBounds_toArray, List.set_cons_zero, List.set_cons_succ]
      refine wpAnyD_takeS 4 31 (v := ?vva4) rfl rfl (by kernel_rfl) (by kernel_rfl) (by kernel_rfl) (by kernel_rfl) (fun _ _ _ h => h) (Or.inl ⟨by rfl, ?hya4⟩) hS0 ?resta4
      case hya4 => (intro w hSw; (try dsimp only at hSw); go_simp; try with_reducible rfl)
      simp only [Act.put, List.setIfInBounds_toArray, List.set_cons_zero, List.set_cons_succ]
      refine wpAnyD_takeS 5 32 (v := ?vva5) rfl rfl (by kernel_rfl) (by kernel_rfl) (by kernel_rfl) (by kernel_rfl) (fun _ _ _ h => h) (Or.inl ⟨by rfl, ?hya5⟩) hS0 ?resta5
      case hya5 => (intro w hSw; (try dsimp only at hSw); go_simp; try with_reducible rfl)
      simp only [Act.put, List.setIfInBounds_toArray, List.set_cons_zero, List.set_cons_succ]
      refine wpAnyD_takeS 6 33 (v := ?vva6) rfl rfl (by kernel_rfl) (by kernel_rfl) (by kernel_rfl) (by kernel_rfl) (fun _ _ _ h => h) (Or.inl ⟨by rfl, ?hya6⟩) hS0 ?resta6
      case hya6 => (intro w hSw; (try dsimp only at hSw); go_simp; try with_reducible rfl)
      simp only [Act.put, List.setIfInBounds_toArray, List.set_cons_zero, List.set_cons_succ]
      refine wpAnyD_takeS 8 35 (v := ?vva8) rfl rfl (by kernel_rfl) (by kernel_rfl) (by kernel_rfl) (by kernel_rfl) (fun _ _ _ h => h) (Or.inl ⟨by rfl, ?hya8⟩) hS0 ?resta8
      case hya8 => (intro w hSw; (try dsimp only at hSw); go_simp; try with_reducible rfl)
      simp only [Act.put, List.setIfInBounds_toArray, List.set_cons_zero, List.set_cons_succ]
      refine wpAnyD_one 3 (by kernel_rfl) rfl (fun KK hK => ?_)
      rw [if_pos (show Region.wanted _ _ = true from rfl)]
      go_wp2_with fail
      refine (next_calls g a n c l _ _ HR.out.drew).mono ?_
      rintro e w4 ⟨rfl, o4, r4⟩
      have o4' : OnlyB g wr w4 := ⟨o4.os, o4.tape, o4.output, o4.size, o4.block⟩
      have hS4 := KEY.out w4 o4'
      generalize hva : l.getD (rdIt n (rdP n p) (2 * i)) 0 = va at *
      obtain ⟨va0, va1⟩ := hbv
      go_wp2_with fail
      refine hK.out _ _ (fun _ => hS4) ?_
      clear hK KK
      have hnz : ¬ (nS : Int) = 0 := by omega
      have HMD : Hid (va.tmod (nS : Int) = va % (nS : Int)) := Int.tmod_eq_emod_of_nonneg va0
      refine wpAnyD_takeS 7 34 (v := .int .i64 (va % (nS : Int))) rfl rfl (by kernel_rfl) (by kernel_rfl) (by kernel_rfl) (by kernel_rfl) (fun _ _ _ h => h) (Or.inl ⟨by rfl, ?hyb7⟩) hS4 ?restb7
      case hyb7 => (intro w hSw; go_simp; (try rw [HMD.out]); rw [if_neg (by omega)])
      simp only [Act.put, List.setIfInBounds_toArray, List.set_cons_zero, List.set_cons_succ]
      refine wpAnyD_one 9 (by kernel_rfl) rfl (fun KK hK => ?_)
      rw [if_pos (show Region.wanted _ _ = true from rfl)]
      go_wp2_with fail
      refine (l1Sector_calls g a n c l _ w4 r4).mono ?_
      rintro e w5 ⟨rfl, o5, r5, s5⟩
      have o45 := o4'.trans o5
      have hS5 := KEY.out w5 o45
      have W5 := HW.out.only o45 (by omega) (by omega)
      have y5 := (o45.block w.heap.size (by omega) (by omega)).trans HY.out
      have OO5 : Hid (OnlyB g w w5) := HO.out.trans o45
      have zz4 := o4'.size
      have zz5 := o45.size
      have EP : Hid (rdP n (rdIt n (rdP n p) (2 * i)) = rdIt n (rdP n p) (2 * i + 1)) := rfl
      rw [EP.out] at s5 r5
      go_wp2_with fail
      refine hK.out _ _ (fun _ => hS5) ?_
      clear hK KK
      refine wpAnyD_takeS 10 37 (v := ?vvc10) rfl rfl (by kernel_rfl) (by kernel_rfl) (by kernel_rfl) (by kernel_rfl) (fun _ _ _ h => h) (Or.inl ⟨by rfl, ?hyc10⟩) hS5 ?restc10
      case hyc10 => (intro w hSw; (try dsimp only at hSw); go_simp; try with_reducible rfl)
      simp only [Act.put, List.setIfInBounds_toArray, List.set_cons_zero, List.set_cons_succ]
      refine wpAnyD_one 11 (by kernel_rfl) rfl (fun KK hK => ?_)
      go_simp
      refine hK.out _ _ (fun _ => KEY.out _ (o45.thenB ((Below.refl w5.heap.size w5).alloc (Nat.le_refl _) _) o45.size)) ?_
      clear hK KK
      refine wpAnyD_one 12 (by kernel_rfl) rfl (fun KK hK => ?_)
      refine step_appW rfl _ _ 31 rfl 1 100 w1.heap.size Tryd.underlying31 infPw (by decide) d'.pa i d'.pc (aI (drP l n (rdP n p) nS i)) d'.pA d'.pN d'.pC (drP l n (rdP n p) nS i).D rfl W5.pend (fun _ => va % (nS : Int)) (some ⟨w4.heap.size, 0, none⟩) 64 64 (secL (l.getD (rdIt n (rdP n p) (2 * i + 1)) 0)) (s5.mono (by omega)) HBV2.out (by omega) _ rfl ?_ (by omega) ?_
      · rfl
      intro a6 c6 w6 r6 b6 g6
      have x6 : IsBox w6 w2.heap.size d' (drP l n (rdP n p) nS i) := by
        have hlt6 : w2.heap.size < w5.heap.size := W5.box.lt
        have q5 := (Below.refl w5.heap.size w5).alloc (Nat.le_refl _) (.cells #[.int .i64 (va % (nS : Int)), .slice (some ⟨w4.heap.size, 0, none⟩) 64 64] 100)
        have hne := row_ne_block W5.pend.row W5.box (by decide)
        exact ((g6.block w2.heap.size (by simp; omega) (fun e1 => hne e1.symm)).trans (q5.block _ hlt6)).trans W5.box
      have sf6 := (W5.safe.below ((Below.refl w5.heap.size w5).alloc (Nat.le_refl _) (.cells #[.int .i64 (va % (nS : Int)), .slice (some ⟨w4.heap.size, 0, none⟩) 64 64] 100))).kept (own_below W5.pend.row ((Below.refl w5.heap.size w5).alloc (Nat.le_refl _) (.cells #[.int .i64 (va % (nS : Int)), .slice (some ⟨w4.heap.size, 0, none⟩) 64 64] 100))) (by decide) (by decide) g6
      have q4 : w6.cell? ⟨w2.heap.size, 1, none⟩ = some (.slice d'.pa i d'.pc) := x6.c1
      have q0 : w6.cell? ⟨w2.heap.size, 0, none⟩ = some (.slice d'.sa nS d'.sc) := x6.c0
      have qf : w6.frozen? ⟨w2.heap.size, 1, none⟩ = false := frozen_of_row w6 _ 1 _ _ x6
      refine hK.out _ _ (fun _ => ⟨q0, q4⟩) ?_
      clear hK KK
      refine wpAnyD_one 13 (by kernel_rfl) rfl (fun KK hK => ?_)
      go_simp
      refine hK.out _ _ (fun _ => ⟨q0, q4⟩) ?_
      clear hK KK
      refine wpAnyD_one 14 (by kernel_rfl) rfl (fun KK hK => ?_)
      go_simp
      refine hK.out _ _ (fun h => by cases h) ?_
      clear hK KK
      refine wpAnyD_done (by kernel_rfl) ?_ _
      have x7 := heap_setCell_same w6 _ 1 _ _ (.slice a6 (i + 1) c6) x6
      have sf7 := sf6.setBox x6 (by decide) (by decide) 1 (.slice a6 (i + 1) c6)
      have pd7 := (r6.setBox x6 (by decide) (by decide) 1 (.slice a6 (i + 1) c6)).congr (I' := aI (drP l n (rdP n p) nS (i + 1))) (L' := (drP l n (rdP n p) nS (i + 1)).D) (fun i' hi' q hq => by
        by_cases e1 : i' = i
        · subst e1; rw [upd_same]; show va % (nS : Int) = l.getD (rdIt n (rdP n p) (2 * i')) 0 % nS; rw [hva]
        · rw [upd_ne _ _ _ e1]; rfl) (fun i' hi' => by
        by_cases e1 : i' = i
        · subst e1; rw [upd_same]; rfl
        · rw [upd_ne _ _ _ e1]; rfl)
      have b7 : Below w1.heap.size w5 (w6.setCell ⟨w2.heap.size, 1, none⟩ (.slice a6 (i + 1) c6)) := b6.setCell (p := ⟨w2.heap.size, 1, none⟩) zb2 _
      have O7 : Hid _ := OO5.out.thenB b7 (show w.heap.size ≤ w1.heap.size by omega)
      have Y7 : Hid _ := (b7.block w.heap.size (by omega)).trans y5
      have R7 : Hid (IsRd _ g a n c l (rdIt n (rdP n p) (2 * (i + 1)))) := H.out.only O7.out ((b7.block g (by omega)).trans r5.box) r5.at_
      have W7 : Hid (WBox w1.heap.size _ w2.heap.size ⟨d'.sa, d'.sc, d'.sA, d'.sN, d'.sC, a6, c6, upd d'.pA i (some ⟨w4.heap.size, 0, none⟩), upd d'.pN i 64, upd d'.pC i 64⟩ (drP l n (rdP n p) nS (i + 1))) := ⟨x7, sf7, pd7⟩
      clear x7 sf7 pd7 b7 x6 r6 b6 g6 sf6 q4 q0 qf W5 y5 s5 r5 o5 o45 hS0 hS4 hS5 c0 c1 KEY HO HW HR HY r4 o4 o4' hva HMD
      go_wp2
      go_roundw
      case rel => exact ⟨i + 1, _, by omega, by go_num, O7.out, Y7.out, R7.out, W7.out, W7.out.box.lt⟩
      case measure => simp [intOf]; omega
    · obtain rfl : i = m1 := by omega
      have hnl : ¬ (i : Int) < (i : Int) := by omega
      have HO : Hid _ := hO
      have HW0 : Hid (WBox w1.heap.size wr w2.heap.size d' (drS l n (rdP n p) nS i 0)) := ⟨hW.box, hW.safe.congr (fun i' hi' q hq => rfl) (fun i' hi' => by unfold drS drP; simp), hW.pend⟩
      have HR : Hid _ := hR
      have HY : Hid _ := hy
      have c0 := (wbox_cells hW).1
      clear hO hW hR hy WB3 O3 R3 y3
      go_wp2_with fail
      go_loopw [7] (fun s7 wv => ∃ (j : Nat) (e' : DV), j ≤ nS ∧ s7 = .int .i64 (j : Nat) ∧ OnlyB g w wv ∧ wv.heap[w.heap.size]? = some (.cells #[.slice none 0 0, .slice none 0 0] 33 (0, 0)) ∧ IsRd wv g a n c l (rdIt n (rdIt n (rdP n p) (2 * i)) j) ∧ WBox w1.heap.size wv w2.heap.size e' (drS l n (rdP n p) nS i j) ∧ w2.heap.size < wv.heap.size) (fun s7 _ => nS - (intOf s7).toNat)
      case atStart => exact ⟨0, d', Nat.zero_le _, rfl, HO.out, HY.out, HR.out, HW0.out, hz⟩
      case round =>
        obtain ⟨j, ⟨sa, sc, sA, sN, sC, pa, pc, pA, pN, pC⟩, hj, rfl, hO, hy, hR, hW, hz⟩ := hrel
        clear c0 HW0 HR HY HO
        have hbox := wbox_cells hW
        by_cases hlt : j < nS
        · have hlt' : (j : Int) < (nS : Int) := by omega
          obtain ⟨gs, rfl, hgsB⟩ : ∃ gs, sa = some ⟨gs, 0, none⟩ ∧ w1.heap.size ≤ gs := by
            rcases hW.safe.row.2 with ⟨e1, h0⟩ | ⟨gs, cap, cur, e1, hg1, _⟩
            · exact absurd h0 (by show ¬ nS = 0; omega)
            · cases e1; exact ⟨gs, rfl, hg1⟩
          have HBV2 : Hid (IsB (secL (l.getD (rdIt n (rdIt n (rdP n p) (2 * i)) j) 0))) := secL_isB (HBY.out _).1 (HBY.out _).2
          have KEY : Hid (∀ v, OnlyB g wr v → v.cell? ⟨w2.heap.size, 0, none⟩ = some (.slice (some ⟨gs, 0, none⟩) nS sc) ∧ v.cell? ⟨w2.heap.size, 1, none⟩ = some (.slice pa i pc)) := fun v b => wbox_cells (hW.only b (by omega) (by omega))
          have HO : Hid _ := hO
          have HW : Hid _ := hW
          have HR : Hid _ := hR
          have HY : Hid _ := hy
          clear hO hW hR hy
          have hS0 := KEY.out wr.drew (OnlyB.refl g wr).drew
          obtain ⟨c0, c1⟩ := KEY.out wr (OnlyB.refl g wr)
          go_wp2_with fail
          refine wp_regionD (fun v => v.cell? ⟨w2.heap.size, 0, none⟩ = some (.slice (some ⟨gs, 0, none⟩) nS sc) ∧ v.cell? ⟨w2.heap.size, 1, none⟩ = some (.slice pa i pc)) (fun j => j == 6) (by kernel_rfl) ?_
          refine wpAnyD_takeS 0 48 (v := ?vvd0) rfl rfl (by kernel_rfl) (by kernel_rfl) (by kernel_rfl) (by kernel_rfl) (fun _ _ _ h => h) (Or.inl ⟨by rfl, ?hyd0⟩) hS0 ?restd0
          case hyd0 => (intro w hSw; (try dsimp only at hSw); go_simp; try with_reducible rfl)
          simp only [Act.put, List.setIfInBounds_toArray, List.set_cons_zero, List.set_cons_succ]
          refine wpAnyD_takeS 1 49 (v := ?vvd1) rfl rfl (by kernel_rfl) (by kernel_rfl) (by kernel_rfl) (by kernel_rfl) (fun _ _ _ h => h) (Or.inl ⟨by rfl, ?hyd1⟩) hS0 ?restd1
          case hyd1 => (intro w hSw; (try dsimp only at hSw); go_simp; try with_reducible rfl)
          simp only [Act.put, List.setIfInBounds_toArray, List.set_cons_zero, List.set_cons_succ]
          refine wpAnyD_takeS 2 50 (v := ?vvd2) rfl rfl (by kernel_rfl) (by kernel_rfl) (by kernel_rfl) (by kernel_rfl) (fun _ _ _ h => h) (Or.inl ⟨by rfl, ?hyd2⟩) hS0 ?restd2
          case hyd2 => (intro w hSw; (try dsimp only at hSw); go_simp; try with_reducible rfl)
          simp only [Act.put, List.setIfInBounds_toArray, List.set_cons_zero, List.set_cons_succ]
          refine wpAnyD_takeS 3 51 (v := ?vvd3) rfl rfl (by kernel_rfl) (by kernel_rfl) (by kernel_rfl) (by kernel_rfl) (fun _ _ _ h => h) (Or.inl ⟨by rfl, ?hyd3⟩) hS0 ?restd3
          case hyd3 => (intro w hSw; (try dsimp only at hSw); go_simp; try with_reducible rfl)
          simp only [Act.put, List.setIfInBounds_toArray, List.set_cons_zero, List.set_cons_succ]
          refine wpAnyD_one 4 (by kernel_rfl) rfl (fun KK hK => ?_)
          rw [if_pos (show Region.wanted _ _ = true from rfl)]
          go_wp2_with fail
          refine (l1Sector_calls g a n c l _ _ HR.out.drew).mono ?_
          rintro e w4 ⟨rfl, o4, r4, s4⟩
          have o4' : OnlyB g wr w4 := ⟨o4.os, o4.tape, o4.output, o4.size, o4.block⟩
          have hS4 := KEY.out w4 o4'
          have W4 := HW.out.only o4' (by omega) (by omega)
          have y4 := (o4'.block w.heap.size (by omega) (by omega)).trans HY.out
          have O4 : Hid (OnlyB g w w4) := HO.out.trans o4'
          have zz4 := o4'.size
          simp only [World.size_drew] at s4
          go_wp2_with fail
          refine hK.out _ _ (fun _ => hS4) ?_
          clear hK KK
          refine wpAnyD_one 5 (by kernel_rfl) rfl (fun KK hK => ?_)
          have hji : (0 : Int) ≤ (j : Int) := by omega
          go_simp
          refine hK.out _ _ (fun _ => hS4) ?_
          clear hK KK
          have hcj : w4.cell? ⟨gs, j, none⟩ = some (.slice (sA j) (sN j) (sC j)) := by
            have t1 := (World.ownsRow.cellAt W4.safe.row (j * (0 + 1) + 0) (by show j * (0 + 1) + 0 < nS * (0 + 1); omega)).trans (flat_get 0 zI (fun i => .slice (sA i) (sN i) (sC i)) 0 (by omega) nS j hlt)
            rw [show j * (0 + 1) + 0 = j by omega] at t1
            exact t1.trans (recCells_last 0 _ _)
          have hfj : w4.frozen? ⟨gs, j, none⟩ = false := World.ownsRow.frozenAt W4.safe.row j
          obtain ⟨p7, g7⟩ := W4.safe.put (by decide) j hlt (some ⟨wr.heap.size, 0, none⟩) 64 64 (secL (l.getD (rdIt n (rdIt n (rdP n p) (2 * i)) j) 0)) (s4.mono (by omega)) HBV2.out
          rw [show j * (0 + 1) + 0 = j by omega] at p7 g7
          have hne := row_ne_block W4.safe.row W4.box (by decide)
          have hngd : ¬ w2.heap.size = gs := fun e1 => hne (by rw [e1]; rfl)
          have x7 : IsBox (w4.setCell ⟨gs, j, none⟩ (.slice (some ⟨wr.heap.size, 0, none⟩) 64 64)) w2.heap.size ⟨some ⟨gs, 0, none⟩, sc, upd sA j (some ⟨wr.heap.size, 0, none⟩), upd sN j 64, upd sC j 64, pa, pc, pA, pN, pC⟩ (drS l n (rdP n p) nS i (j + 1)) := (Below.heap_setCell w4 ⟨gs, j, none⟩ _ _ hngd).trans W4.box
          have sf7 := p7.congr (I' := zI) (L' := (drS l n (rdP n p) nS i (j + 1)).S) (fun i' hi' q hq => rfl) (fun i' hi' => by
            by_cases e1 : i' = j
            · subst e1; rw [upd_same]; show _ = if i' < i' + 1 then _ else _; rw [if_pos (by omega)]
            · rw [upd_ne _ _ _ e1]
              show (if i' < j then secL (l.getD (rdIt n (rdIt n (rdP n p) (2 * i)) i') 0) else zeros64) = if i' < j + 1 then secL (l.getD (rdIt n (rdIt n (rdP n p) (2 * i)) i') 0) else zeros64
              by_cases e2 : i' < j
              · rw [if_pos e2, if_pos (by omega)]
              · rw [if_neg e2, if_neg (by omega)])
          have pd7 : WRecs 1 100 w1.heap.size (w4.setCell ⟨gs, j, none⟩ (.slice (some ⟨wr.heap.size, 0, none⟩) 64 64)) pa i pc (aI (drS l n (rdP n p) nS i (j + 1))) pA pN pC (drS l n (rdP n p) nS i (j + 1)).D := W4.pend.kept (v := .slice (some ⟨gs, 0, none⟩) nS sc) W4.safe.row (by decide) (by decide) g7
          have b7 : Below w1.heap.size w4 (w4.setCell ⟨gs, j, none⟩ (.slice (some ⟨wr.heap.size, 0, none⟩) 64 64)) := (Below.refl _ _).setCell (p := ⟨gs, j, none⟩) hgsB _
          have O7 : Hid _ := O4.out.thenB b7 (show w.heap.size ≤ w1.heap.size by omega)
          have Y7 : Hid _ := (b7.block w.heap.size (by omega)).trans y4
          have R7 : Hid (IsRd _ g a n c l (rdIt n (rdIt n (rdP n p) (2 * i)) (j + 1))) := H.out.only O7.out ((b7.block g (by omega)).trans r4.box) r4.at_
          have W7 : Hid (WBox w1.heap.size _ w2.heap.size _ (drS l n (rdP n p) nS i (j + 1))) := ⟨x7, sf7, pd7⟩
          refine wpAnyD_one 6 (by kernel_rfl) rfl (fun KK hK => ?_)
          go_simp
          refine hK.out _ _ (fun h => by cases h) ?_
          clear hK KK
          refine wpAnyD_done (by kernel_rfl) ?_ _
          clear x7 sf7 pd7 b7 p7 g7 hcj hfj W4 y4 s4 r4 o4 o4' hS0 hS4 c0 c1 KEY HO HW HR HY O4 hbox hne
          go_wp2
          go_roundw
          case rel => exact ⟨j + 1, _, by omega, by go_num, O7.out, Y7.out, R7.out, W7.out, W7.out.box.lt⟩
          case measure => simp [intOf]; omega
        · obtain rfl : j = nS := by omega
          have HO : Hid _ := hO
          have HW : Hid _ := hW
          have HR : Hid _ := hR
          have HY : Hid _ := hy
          obtain ⟨c0, c1⟩ := hbox
          clear hO hW hR hy
          have hk' : k < 240 := HK0.out
          obtain ⟨l0, l1⟩ : wr.cell? ⟨w.heap.size, 0, none⟩ = some (.slice none 0 0) ∧ wr.cell? ⟨w.heap.size, 1, none⟩ = some (.slice none 0 0) := ⟨by rw [cell_of_row wr _ 0 _ _ _ HY.out]; rfl, by rw [cell_of_row wr _ 1 _ _ _ HY.out]; rfl⟩
          have f0 := frozen_of_row wr w.heap.size 0 _ _ HY.out
          have f1 := frozen_of_row wr w.heap.size 1 _ _ HY.out
          have B7 : Below w.heap.size wr ((wr.setCell ⟨w.heap.size, 0, none⟩ (.slice sa j sc)).setCell ⟨w.heap.size, 1, none⟩ (.slice pa i pc)) := ((Below.refl w.heap.size wr).setCell (p := ⟨w.heap.size, 0, none⟩) (Nat.le_refl _) _).setCell (p := ⟨w.heap.size, 1, none⟩) (Nat.le_refl _) _
          have O7 : Hid _ := HO.out.thenB B7 (Nat.le_refl _)
          have R7 : Hid _ := H.out.only O7.out ((B7.block g hg).trans HR.out.box) HR.out.at_
          have hlb : w.heap.size < w1.heap.size := by omega
          have D7 : Hid (RDisk ((wr.setCell ⟨w.heap.size, 0, none⟩ (.slice sa j sc)).setCell ⟨w.heap.size, 1, none⟩ (.slice pa i pc)) ⟨sa, sc, sA, sN, sC, pa, pc, pA, pN, pC⟩ (drS l n (rdP n p) j i j)) := ⟨((HW.out.safe.setBelow (q := ⟨w.heap.size, 0, none⟩) hlb _).setBelow (q := ⟨w.heap.size, 1, none⟩) hlb _).reads, ((HW.out.pend.setBelow (q := ⟨w.heap.size, 0, none⟩) hlb _).setBelow (q := ⟨w.heap.size, 1, none⟩) hlb _).reads⟩
          clear B7
          have c0' : wr.cell? ⟨w2.heap.size, 0, none⟩ = some (.slice sa j sc) := c0
          have c1' : wr.cell? ⟨w2.heap.size, 1, none⟩ = some (.slice pa i pc) := c1
          clear c0 c1
          go_wp2
          refine bodyPost_ret (v := .agg #[.slice sa j sc, .slice pa i pc]) (by simp [results, Tryd.results37, go_sem, l0, l1]) rfl ?_
          exact ⟨_, rfl, O7.out, R7.out, D7.out⟩
end Go.Proofs.YtjjfgoeibcmfkaaDoor

/- The draw of a disk: one of its spoilt ones. -/
namespace Go.Proofs.YtjjfgoeibcmfkaaDoor
open Go.RowKit
set_option linter.unusedVariables false

set_option maxRecDepth 100000 in
set_option maxHeartbeats 8000000 in
theorem l1Disk_0 (nS m1 : Nat) (g : Nat) (a : Option Addr) (n c : Nat) (l : List Int) (p : Nat) (hnS0 : 1 + l.getD p 0 % 7 = (nS : Int)) (hm0 : l.getD p 0 / 7 % 6 = (m1 : Int)) (hk0 : 240 ≤ l.getD p 0 ∧ l.getD p 0 % 6 = 0) (w : World) (h : IsRd w g a n c l p) :
    Calls Tryd.prog 37 #[.pointer (some ⟨g, 0, none⟩)] w fun e w' => ∃ d, e = .returned (dval d { (drS l n (rdP n p) nS m1 nS) with m := m1 + 1, At := upd (drS l n (rdP n p) nS m1 nS).At m1 (l.getD (rdIt n (rdIt n (rdP n p) (2 * m1)) nS) 0 % 9 - 1), D := upd (drS l n (rdP n p) nS m1 nS).D m1 (secL (l.getD (rdP n (rdIt n (rdIt n (rdP n p) (2 * m1)) nS)) 0)) }) ∧ OnlyB g w w' ∧ IsRd w' g a n c l (rdP n (rdP n (rdIt n (rdIt n (rdP n p) (2 * m1)) nS))) ∧ RDisk w' d { (drS l n (rdP n p) nS m1 nS) with m := m1 + 1, At := upd (drS l n (rdP n p) nS m1 nS).At m1 (l.getD (rdIt n (rdIt n (rdP n p) (2 * m1)) nS) 0 % 9 - 1), D := upd (drS l n (rdP n p) nS m1 nS).D m1 (secL (l.getD (rdP n (rdIt n (rdIt n (rdP n p) (2 * m1)) nS)) 0)) } := by
  have HN0 : Hid _ := hnS0
  have HM0 : Hid _ := hm0
  have HK0 : Hid _ := hk0
  clear hnS0 hm0 hk0
  have hB := h.bs.byte p
  have hg := h.lt
  have q0 := (Below.refl w.heap.size w).alloc (Nat.le_refl _) (.cells #[.slice none 0 0, .slice none 0 0] 33)
  have y0 := heap_alloc_new w (.cells #[.slice none 0 0, .slice none 0 0] 33)
  have z0 : (w.alloc (.cells #[.slice none 0 0, .slice none 0 0] 33)).heap.size = w.heap.size + 1 := by simp
  have r0 := h.below q0
  have H : Hid _ := h
  have HBY : Hid (IsB l) := h.bs.byte
  go_enter Tryd.func37, Tryd.ntmps37
  go_wp2_with fail
  generalize hW0 : w.alloc (.cells #[.slice none 0 0, .slice none 0 0] 33) = W0 at *
  clear hW0
  refine (next_calls g a n c l p W0 r0).mono ?_
  rintro e w1 ⟨rfl, o1, r1⟩
  have y1 := (o1.block w.heap.size (by omega) (by omega)).trans y0
  have zo := o1.size
  have O1 : Hid (OnlyB g w w1) := (Below.onlyB q0 g).trans o1
  generalize hkk : l.getD p 0 = k at *
  have HK : Hid (l.getD p 0 = k) := hkk
  clear hkk y0 q0 r0 o1 h
  obtain ⟨k0, k1⟩ := hB
  have hm7 : k.tmod 7 = k % 7 := Int.tmod_eq_emod_of_nonneg k0
  have hnS : 1 + k % 7 = (nS : Int) := HN0.out
  have hn1 : 1 ≤ nS := by omega
  have hn7 : nS ≤ 7 := by omega
  have ND := specNewDisk_yes nS w1 (by omega) (by omega)
  have HNS : Hid (1 + k % 7 = (nS : Int)) := hnS
  rw [← hnS] at ND
  clear hnS
  go_wp2_with fail
  refine ND.mono ?_
  rintro e w2 ⟨d2, rfl, b2, o2⟩
  have x3 := isBox_new w2 d2 (newK nS)
  have q3 := (Below.refl w2.heap.size w2).alloc (Nat.le_refl _) (.cells #[.slice d2.sa (newK nS).n d2.sc, .slice d2.pa (newK nS).m d2.pc] 33)
  have o3 := o2.below q3
  have b3 := b2.trans (q3.mono b2.size)
  have O3 : Hid (OnlyB g w _) := O1.out.thenB b3 O1.out.size
  have R3 : Hid _ := r1.below b3
  have y3 := (b3.block w.heap.size (by omega)).trans y1
  have zb2 := b2.size
  have WB3 : Hid (WBox w1.heap.size _ w2.heap.size d2 (drP l n (rdP n p) nS 0)) := ⟨x3, o3.safe.weak, ⟨o3.pend.row, fun i hi => absurd hi (Nat.not_lt_zero _), fun i hi => absurd hi (Nat.not_lt_zero _)⟩⟩
  unfold dval
  clear ND x3 q3 o3 b3 y1 r1 o2 b2
  go_upto_region 3 with fail
  have hd7 : k.tdiv 7 = k / 7 := Int.tdiv_eq_ediv_of_nonneg k0
  have hm6 : (k / 7).tmod 6 = k / 7 % 6 := Int.tmod_eq_emod_of_nonneg (by omega)
  have hm1 : k / 7 % 6 = (m1 : Int) := HM0.out
  have hm5 : m1 ≤ 5 := by omega
  generalize hW3 : w2.alloc (.cells #[.slice d2.sa (newK nS).n d2.sc, .slice d2.pa (newK nS).m d2.pc] 33) = W3 at *
  clear hW3
  go_wp2_with fail
  go_loopw [6] (fun s6 wr => ∃ (i : Nat) (d' : DV), i ≤ m1 ∧ s6 = .int .i64 (i : Nat) ∧ OnlyB g w wr ∧ wr.heap[w.heap.size]? = some (.cells #[.slice none 0 0, .slice none 0 0] 33 (0, 0)) ∧ IsRd wr g a n c l (rdIt n (rdP n p) (2 * i)) ∧ WBox w1.heap.size wr w2.heap.size d' (drP l n (rdP n p) nS i) ∧ w2.heap.size < wr.heap.size) (fun s6 _ => m1 - (intOf s6).toNat)
  case atStart => exact ⟨0, d2, Nat.zero_le _, rfl, O3.out, y3, R3.out, WB3.out, WB3.out.box.lt⟩
  case round =>
    obtain ⟨i, d', hi, rfl, hO, hy, hR, hW, hz⟩ := hrel
    by_cases hlt : i < m1
    · have hlt' : (i : Int) < (m1 : Int) := by omega
      obtain ⟨c0, c1⟩ := wbox_cells hW
      have hbv := HBY.out (rdIt n (rdP n p) (2 * i))
      have HBV2 : Hid (IsB (secL (l.getD (rdIt n (rdP n p) (2 * i + 1)) 0))) := secL_isB (HBY.out _).1 (HBY.out _).2
      have KEY : Hid (∀ v, OnlyB g wr v → v.cell? ⟨w2.heap.size, 0, none⟩ = some (.slice d'.sa nS d'.sc) ∧ v.cell? ⟨w2.heap.size, 1, none⟩ = some (.slice d'.pa i d'.pc)) := fun v b => wbox_cells (hW.only b (by omega) (by omega))
      have HO : Hid _ := hO
      have HW : Hid _ := hW
      have HR : Hid _ := hR
      have HY : Hid _ := hy
      clear hO hW hR hy c0 c1 WB3 O3 R3 y3
      have hS0 := KEY.out wr.drew (OnlyB.refl g wr).drew
      obtain ⟨c0, c1⟩ := KEY.out wr (OnlyB.refl g wr)
      go_wp2_with fail
      refine wp_regionD (fun v => v.cell? ⟨w2.heap.size, 0, none⟩ = some (.slice d'.sa nS d'.sc) ∧ v.cell? ⟨w2.heap.size, 1, none⟩ = some (.slice d'.pa i d'.pc)) (fun j => j == 14) (by kernel_rfl) ?_
      refine wpAnyD_takeS 0 27 (v := ?vva0) rfl rfl (by kernel_rfl) (by kernel_rfl) (by kernel_rfl) (by kernel_rfl) (fun _ _ _ h => h) (Or.inl ⟨by rfl, ?hya0⟩) hS0 ?resta0
      case hya0 => (intro w hSw; (try dsimp only at hSw); go_simp; try with_reducible rfl)
      simp only [Act.put, List.setIfInBounds_toArray, List.set_cons_zero, List.set_cons_succ]
      refine wpAnyD_takeS 1 28 (v := ?vva1) rfl rfl (by kernel_rfl) (by kernel_rfl) (by kernel_rfl) (by kernel_rfl) (fun _ _ _ h => h) (Or.inl ⟨by rfl, ?hya1⟩) hS0 ?resta1
      case hya1 => (intro w hSw; (try dsimp only at hSw); go_simp; try with_reducible rfl)
      simp only [Act.put, List.setIfInBounds_toArray, List.set_cons_zero, List.set_cons_succ]
      refine wpAnyD_takeS 2 29 (v := ?vva2) rfl rfl (by kernel_rfl) (by kernel_rfl) (by kernel_rfl) (by kernel_rfl) (fun _ _ _ h => h) (Or.inl ⟨by rfl, ?hya2⟩) hS0 ?resta2
      case hya2 => (intro w hSw; (try dsimp only at hSw); go_simp; try with_reducible rfl)
      simp only [Act.put, List.setIfInBounds_toArray, List.set_cons_zero, List.set_cons_succ]
      refine wpAnyD_takeS 4 31 (v := ?vva4) rfl rfl (by kernel_rfl) (by kernel_rfl) (by kernel_rfl) (by kernel_rfl) (fun _ _ _ h => h) (Or.inl ⟨by rfl, ?hya4⟩) hS0 ?resta4
      case hya4 => (intro w hSw; (try dsimp only at hSw); go_simp; try with_reducible rfl)
      simp only [Act.put, List.setIfInBounds_toArray, List.set_cons_zero, List.set_cons_succ]
      refine wpAnyD_takeS 5 32 (v := ?vva5) rfl rfl (by kernel_rfl) (by kernel_rfl) (by kernel_rfl) (by kernel_rfl) (fun _ _ _ h => h) (Or.inl ⟨by rfl, ?hya5⟩) hS0 ?resta5
      case hya5 => (intro w hSw; (try dsimp only at hSw); go_simp; try with_reducible rfl)
      simp only [Act.put, List.setIfInBounds_toArray, List.set_cons_zero, List.set_cons_succ]
      refine wpAnyD_takeS 6 33 (v := ?vva6) rfl rfl (by kernel_rfl) (by kernel_rfl) (by kernel_rfl) (by kernel_rfl) (fun _ _ _ h => h) (Or.inl ⟨by rfl, ?hya6⟩) hS0 ?resta6
      case hya6 => (intro w hSw; (try dsimp only at hSw); go_simp; try with_reducible rfl)
      simp only [Act.put, List.setIfInBounds_toArray, List.set_cons_zero, List.set_cons_succ]
      refine wpAnyD_takeS 8 35 (v := ?vva8) rfl rfl (by kernel_rfl) (by kernel_rfl) (by kernel_rfl) (by kernel_rfl) (fun _ _ _ h => h) (Or.inl ⟨by rfl, ?hya8⟩) hS0 ?resta8
      case hya8 => (intro w hSw; (try dsimp only at hSw); go_simp; try with_reducible rfl)
      simp only [Act.put, List.setIfInBounds_toArray, List.set_cons_zero, List.set_cons_succ]
      refine wpAnyD_one 3 (by kernel_rfl) rfl (fun KK hK => ?_)
      rw [if_pos (show Region.wanted _ _ = true from rfl)]
      go_wp2_with fail
      refine (next_calls g a n c l _ _ HR.out.drew).mono ?_
      rintro e w4 ⟨rfl, o4, r4⟩
      have o4' : OnlyB g wr w4 := ⟨o4.os, o4.tape, o4.output, o4.size, o4.block⟩
      have hS4 := KEY.out w4 o4'
      generalize hva : l.getD (rdIt n (rdP n p) (2 * i)) 0 = va at *
      obtain ⟨va0, va1⟩ := hbv
      go_wp2_with fail
      refine hK.out _ _ (fun _ => hS4) ?_
      clear hK KK
      have hnz : ¬ (nS : Int) = 0 := by omega
      have HMD : Hid (va.tmod (nS : Int) = va % (nS : Int)) := Int.tmod_eq_emod_of_nonneg va0
      refine wpAnyD_takeS 7 34 (v := .int .i64 (va % (nS : Int))) rfl rfl (by kernel_rfl) (by kernel_rfl) (by kernel_rfl) (by kernel_rfl) (fun _ _ _ h => h) (Or.inl ⟨by rfl, ?hyb7⟩) hS4 ?restb7
      case hyb7 => (intro w hSw; go_simp; (try rw [HMD.out]); rw [if_neg (by omega)])
      simp only [Act.put, List.setIfInBounds_toArray, List.set_cons_zero, List.set_cons_succ]
      refine wpAnyD_one 9 (by kernel_rfl) rfl (fun KK hK => ?_)
      rw [if_pos (show Region.wanted _ _ = true from rfl)]
      go_wp2_with fail
      refine (l1Sector_calls g a n c l _ w4 r4).mono ?_
      rintro e w5 ⟨rfl, o5, r5, s5⟩
      have o45 := o4'.trans o5
      have hS5 := KEY.out w5 o45
      have W5 := HW.out.only o45 (by omega) (by omega)
      have y5 := (o45.block w.heap.size (by omega) (by omega)).trans HY.out
      have OO5 : Hid (OnlyB g w w5) := HO.out.trans o45
      have zz4 := o4'.size
      have zz5 := o45.size
      have EP : Hid (rdP n (rdIt n (rdP n p) (2 * i)) = rdIt n (rdP n p) (2 * i + 1)) := rfl
      rw [EP.out] at s5 r5
      go_wp2_with fail
      refine hK.out _ _ (fun _ => hS5) ?_
      clear hK KK
      refine wpAnyD_takeS 10 37 (v := ?vvc10) rfl rfl (by kernel_rfl) (by kernel_rfl) (by kernel_rfl) (by kernel_rfl) (fun _ _ _ h => h) (Or.inl ⟨by rfl, ?hyc10⟩) hS5 ?restc10
      case hyc10 => (intro w hSw; (try dsimp only at hSw); go_simp; try with_reducible rfl)
      simp only [Act.put, List.setIfInBounds_toArray, List.set_cons_zero, List.set_cons_succ]
      refine wpAnyD_one 11 (by kernel_rfl) rfl (fun KK hK => ?_)
      go_simp
      refine hK.out _ _ (fun _ => KEY.out _ (o45.thenB ((Below.refl w5.heap.size w5).alloc (Nat.le_refl _) _) o45.size)) ?_
      clear hK KK
      refine wpAnyD_one 12 (by kernel_rfl) rfl (fun KK hK => ?_)
      refine step_appW rfl _ _ 31 rfl 1 100 w1.heap.size Tryd.underlying31 infPw (by decide) d'.pa i d'.pc (aI (drP l n (rdP n p) nS i)) d'.pA d'.pN d'.pC (drP l n (rdP n p) nS i).D rfl W5.pend (fun _ => va % (nS : Int)) (some ⟨w4.heap.size, 0, none⟩) 64 64 (secL (l.getD (rdIt n (rdP n p) (2 * i + 1)) 0)) (s5.mono (by omega)) HBV2.out (by omega) _ rfl ?_ (by omega) ?_
      · rfl
      intro a6 c6 w6 r6 b6 g6
      have x6 : IsBox w6 w2.heap.size d' (drP l n (rdP n p) nS i) := by
        have hlt6 : w2.heap.size < w5.heap.size := W5.box.lt
        have q5 := (Below.refl w5.heap.size w5).alloc (Nat.le_refl _) (.cells #[.int .i64 (va % (nS : Int)), .slice (some ⟨w4.heap.size, 0, none⟩) 64 64] 100)
        have hne := row_ne_block W5.pend.row W5.box (by decide)
        exact ((g6.block w2.heap.size (by simp; omega) (fun e1 => hne e1.symm)).trans (q5.block _ hlt6)).trans W5.box
      have sf6 := (W5.safe.below ((Below.refl w5.heap.size w5).alloc (Nat.le_refl _) (.cells #[.int .i64 (va % (nS : Int)), .slice (some ⟨w4.heap.size, 0, none⟩) 64 64] 100))).kept (own_below W5.pend.row ((Below.refl w5.heap.size w5).alloc (Nat.le_refl _) (.cells #[.int .i64 (va % (nS : Int)), .slice (some ⟨w4.heap.size, 0, none⟩) 64 64] 100))) (by decide) (by decide) g6
      have q4 : w6.cell? ⟨w2.heap.size, 1, none⟩ = some (.slice d'.pa i d'.pc) := x6.c1
      have q0 : w6.cell? ⟨w2.heap.size, 0, none⟩ = some (.slice d'.sa nS d'.sc) := x6.c0
      have qf : w6.frozen? ⟨w2.heap.size, 1, none⟩ = false := frozen_of_row w6 _ 1 _ _ x6
      refine hK.out _ _ (fun _ => ⟨q0, q4⟩) ?_
      clear hK KK
      refine wpAnyD_one 13 (by kernel_rfl) rfl (fun KK hK => ?_)
      go_simp
      refine hK.out _ _ (fun _ => ⟨q0, q4⟩) ?_
      clear hK KK
      refine wpAnyD_one 14 (by kernel_rfl) rfl (fun KK hK => ?_)
      go_simp
      refine hK.out _ _ (fun h => by cases h) ?_
      clear hK KK
      refine wpAnyD_done (by kernel_rfl) ?_ _
      have x7 := heap_setCell_same w6 _ 1 _ _ (.slice a6 (i + 1) c6) x6
      have sf7 := sf6.setBox x6 (by decide) (by decide) 1 (.slice a6 (i + 1) c6)
      have pd7 := (r6.setBox x6 (by decide) (by decide) 1 (.slice a6 (i + 1) c6)).congr (I' := aI (drP l n (rdP n p) nS (i + 1))) (L' := (drP l n (rdP n p) nS (i + 1)).D) (fun i' hi' q hq => by
        by_cases e1 : i' = i
        · subst e1; rw [upd_same]; show va % (nS : Int) = l.getD (rdIt n (rdP n p) (2 * i')) 0 % nS; rw [hva]
        · rw [upd_ne _ _ _ e1]; rfl) (fun i' hi' => by
        by_cases e1 : i' = i
        · subst e1; rw [upd_same]; rfl
        · rw [upd_ne _ _ _ e1]; rfl)
      have b7 : Below w1.heap.size w5 (w6.setCell ⟨w2.heap.size, 1, none⟩ (.slice a6 (i + 1) c6)) := b6.setCell (p := ⟨w2.heap.size, 1, none⟩) zb2 _
      have O7 : Hid _ := OO5.out.thenB b7 (show w.heap.size ≤ w1.heap.size by omega)
      have Y7 : Hid _ := (b7.block w.heap.size (by omega)).trans y5
      have R7 : Hid (IsRd _ g a n c l (rdIt n (rdP n p) (2 * (i + 1)))) := H.out.only O7.out ((b7.block g (by omega)).trans r5.box) r5.at_
      have W7 : Hid (WBox w1.heap.size _ w2.heap.size ⟨d'.sa, d'.sc, d'.sA, d'.sN, d'.sC, a6, c6, upd d'.pA i (some ⟨w4.heap.size, 0, none⟩), upd d'.pN i 64, upd d'.pC i 64⟩ (drP l n (rdP n p) nS (i + 1))) := ⟨x7, sf7, pd7⟩
      clear x7 sf7 pd7 b7 x6 r6 b6 g6 sf6 q4 q0 qf W5 y5 s5 r5 o5 o45 hS0 hS4 hS5 c0 c1 KEY HO HW HR HY r4 o4 o4' hva HMD
      go_wp2
      go_roundw
      case rel => exact ⟨i + 1, _, by omega, by go_num, O7.out, Y7.out, R7.out, W7.out, W7.out.box.lt⟩
      case measure => simp [intOf]; omega
    · obtain rfl : i = m1 := by omega
      have hnl : ¬ (i : Int) < (i : Int) := by omega
      have HO : Hid _ := hO
      have HW0 : Hid (WBox w1.heap.size wr w2.heap.size d' (drS l n (rdP n p) nS i 0)) := ⟨hW.box, hW.safe.congr (fun i' hi' q hq => rfl) (fun i' hi' => by unfold drS drP; simp), hW.pend⟩
      have HR : Hid _ := hR
      have HY : Hid _ := hy
      have c0 := (wbox_cells hW).1
      clear hO hW hR hy WB3 O3 R3 y3
      go_wp2_with fail
      go_loopw [7] (fun s7 wv => ∃ (j : Nat) (e' : DV), j ≤ nS ∧ s7 = .int .i64 (j : Nat) ∧ OnlyB g w wv ∧ wv.heap[w.heap.size]? = some (.cells #[.slice none 0 0, .slice none 0 0] 33 (0, 0)) ∧ IsRd wv g a n c l (rdIt n (rdIt n (rdP n p) (2 * i)) j) ∧ WBox w1.heap.size wv w2.heap.size e' (drS l n (rdP n p) nS i j) ∧ w2.heap.size < wv.heap.size) (fun s7 _ => nS - (intOf s7).toNat)
      case atStart => exact ⟨0, d', Nat.zero_le _, rfl, HO.out, HY.out, HR.out, HW0.out, hz⟩
      case round =>
        obtain ⟨j, ⟨sa, sc, sA, sN, sC, pa, pc, pA, pN, pC⟩, hj, rfl, hO, hy, hR, hW, hz⟩ := hrel
        clear c0 HW0 HR HY HO
        have hbox := wbox_cells hW
        by_cases hlt : j < nS
        · have hlt' : (j : Int) < (nS : Int) := by omega
          obtain ⟨gs, rfl, hgsB⟩ : ∃ gs, sa = some ⟨gs, 0, none⟩ ∧ w1.heap.size ≤ gs := by
            rcases hW.safe.row.2 with ⟨e1, h0⟩ | ⟨gs, cap, cur, e1, hg1, _⟩
            · exact absurd h0 (by show ¬ nS = 0; omega)
            · cases e1; exact ⟨gs, rfl, hg1⟩
          have HBV2 : Hid (IsB (secL (l.getD (rdIt n (rdIt n (rdP n p) (2 * i)) j) 0))) := secL_isB (HBY.out _).1 (HBY.out _).2
          have KEY : Hid (∀ v, OnlyB g wr v → v.cell? ⟨w2.heap.size, 0, none⟩ = some (.slice (some ⟨gs, 0, none⟩) nS sc) ∧ v.cell? ⟨w2.heap.size, 1, none⟩ = some (.slice pa i pc)) := fun v b => wbox_cells (hW.only b (by omega) (by omega))
          have HO : Hid _ := hO
          have HW : Hid _ := hW
          have HR : Hid _ := hR
          have HY : Hid _ := hy
          clear hO hW hR hy
          have hS0 := KEY.out wr.drew (OnlyB.refl g wr).drew
          obtain ⟨c0, c1⟩ := KEY.out wr (OnlyB.refl g wr)
          go_wp2_with fail
          refine wp_regionD (fun v => v.cell? ⟨w2.heap.size, 0, none⟩ = some (.slice (some ⟨gs, 0, none⟩) nS sc) ∧ v.cell? ⟨w2.heap.size, 1, none⟩ = some (.slice pa i pc)) (fun j => j == 6) (by kernel_rfl) ?_
          refine wpAnyD_takeS 0 48 (v := ?vvd0) rfl rfl (by kernel_rfl) (by kernel_rfl) (by kernel_rfl) (by kernel_rfl) (fun _ _ _ h => h) (Or.inl ⟨by rfl, ?hyd0⟩) hS0 ?restd0
          case hyd0 => (intro w hSw; (try dsimp only at hSw); go_simp; try with_reducible rfl)
          simp only [Act.put, List.setIfInBounds_toArray, List.set_cons_zero, List.set_cons_succ]
          refine wpAnyD_takeS 1 49 (v := ?vvd1) rfl rfl (by kernel_rfl) (by kernel_rfl) (by kernel_rfl) (by kernel_rfl) (fun _ _ _ h => h) (Or.inl ⟨by rfl, ?hyd1⟩) hS0 ?restd1
          case hyd1 => (intro w hSw; (try dsimp only at hSw); go_simp; try with_reducible rfl)
          simp only [Act.put, List.setIfInBounds_toArray, List.set_cons_zero, List.set_cons_succ]
          refine wpAnyD_takeS 2 50 (v := ?vvd2) rfl rfl (by kernel_rfl) (by kernel_rfl) (by kernel_rfl) (by kernel_rfl) (fun _ _ _ h => h) (Or.inl ⟨by rfl, ?hyd2⟩) hS0 ?restd2
          case hyd2 => (intro w hSw; (try dsimp only at hSw); go_simp; try with_reducible rfl)
          simp only [Act.put, List.setIfInBounds_toArray, List.set_cons_zero, List.set_cons_succ]
          refine wpAnyD_takeS 3 51 (v := ?vvd3) rfl rfl (by kernel_rfl) (by kernel_rfl) (by kernel_rfl) (by kernel_rfl) (fun _ _ _ h => h) (Or.inl ⟨by rfl, ?hyd3⟩) hS0 ?restd3
          case hyd3 => (intro w hSw; (try dsimp only at hSw); go_simp; try with_reducible rfl)
          simp only [Act.put, List.setIfInBounds_toArray, List.set_cons_zero, List.set_cons_succ]
          refine wpAnyD_one 4 (by kernel_rfl) rfl (fun KK hK => ?_)
          rw [if_pos (show Region.wanted _ _ = true from rfl)]
          go_wp2_with fail
          refine (l1Sector_calls g a n c l _ _ HR.out.drew).mono ?_
          rintro e w4 ⟨rfl, o4, r4, s4⟩
          have o4' : OnlyB g wr w4 := ⟨o4.os, o4.tape, o4.output, o4.size, o4.block⟩
          have hS4 := KEY.out w4 o4'
          have W4 := HW.out.only o4' (by omega) (by omega)
          have y4 := (o4'.block w.heap.size (by omega) (by omega)).trans HY.out
          have O4 : Hid (OnlyB g w w4) := HO.out.trans o4'
          have zz4 := o4'.size
          simp only [World.size_drew] at s4
          go_wp2_with fail
          refine hK.out _ _ (fun _ => hS4) ?_
          clear hK KK
          refine wpAnyD_one 5 (by kernel_rfl) rfl (fun KK hK => ?_)
          have hji : (0 : Int) ≤ (j : Int) := by omega
          go_simp
          refine hK.out _ _ (fun _ => hS4) ?_
          clear hK KK
          have hcj : w4.cell? ⟨gs, j, none⟩ = some (.slice (sA j) (sN j) (sC j)) := by
            have t1 := (World.ownsRow.cellAt W4.safe.row (j * (0 + 1) + 0) (by show j * (0 + 1) + 0 < nS * (0 + 1); omega)).trans (flat_get 0 zI (fun i => .slice (sA i) (sN i) (sC i)) 0 (by omega) nS j hlt)
            rw [show j * (0 + 1) + 0 = j by omega] at t1
            exact t1.trans (recCells_last 0 _ _)
          have hfj : w4.frozen? ⟨gs, j, none⟩ = false := World.ownsRow.frozenAt W4.safe.row j
          obtain ⟨p7, g7⟩ := W4.safe.put (by decide) j hlt (some ⟨wr.heap.size, 0, none⟩) 64 64 (secL (l.getD (rdIt n (rdIt n (rdP n p) (2 * i)) j) 0)) (s4.mono (by omega)) HBV2.out
          rw [show j * (0 + 1) + 0 = j by omega] at p7 g7
          have hne := row_ne_block W4.safe.row W4.box (by decide)
          have hngd : ¬ w2.heap.size = gs := fun e1 => hne (by rw [e1]; rfl)
          have x7 : IsBox (w4.setCell ⟨gs, j, none⟩ (.slice (some ⟨wr.heap.size, 0, none⟩) 64 64)) w2.heap.size ⟨some ⟨gs, 0, none⟩, sc, upd sA j (some ⟨wr.heap.size, 0, none⟩), upd sN j 64, upd sC j 64, pa, pc, pA, pN, pC⟩ (drS l n (rdP n p) nS i (j + 1)) := (Below.heap_setCell w4 ⟨gs, j, none⟩ _ _ hngd).trans W4.box
          have sf7 := p7.congr (I' := zI) (L' := (drS l n (rdP n p) nS i (j + 1)).S) (fun i' hi' q hq => rfl) (fun i' hi' => by
            by_cases e1 : i' = j
            · subst e1; rw [upd_same]; show _ = if i' < i' + 1 then _ else _; rw [if_pos (by omega)]
            · rw [upd_ne _ _ _ e1]
              show (if i' < j then secL (l.getD (rdIt n (rdIt n (rdP n p) (2 * i)) i') 0) else zeros64) = if i' < j + 1 then secL (l.getD (rdIt n (rdIt n (rdP n p) (2 * i)) i') 0) else zeros64
              by_cases e2 : i' < j
              · rw [if_pos e2, if_pos (by omega)]
              · rw [if_neg e2, if_neg (by omega)])
          have pd7 : WRecs 1 100 w1.heap.size (w4.setCell ⟨gs, j, none⟩ (.slice (some ⟨wr.heap.size, 0, none⟩) 64 64)) pa i pc (aI (drS l n (rdP n p) nS i (j + 1))) pA pN pC (drS l n (rdP n p) nS i (j + 1)).D := W4.pend.kept (v := .slice (some ⟨gs, 0, none⟩) nS sc) W4.safe.row (by decide) (by decide) g7
          have b7 : Below w1.heap.size w4 (w4.setCell ⟨gs, j, none⟩ (.slice (some ⟨wr.heap.size, 0, none⟩) 64 64)) := (Below.refl _ _).setCell (p := ⟨gs, j, none⟩) hgsB _
          have O7 : Hid _ := O4.out.thenB b7 (show w.heap.size ≤ w1.heap.size by omega)
          have Y7 : Hid _ := (b7.block w.heap.size (by omega)).trans y4
          have R7 : Hid (IsRd _ g a n c l (rdIt n (rdIt n (rdP n p) (2 * i)) (j + 1))) := H.out.only O7.out ((b7.block g (by omega)).trans r4.box) r4.at_
          have W7 : Hid (WBox w1.heap.size _ w2.heap.size _ (drS l n (rdP n p) nS i (j + 1))) := ⟨x7, sf7, pd7⟩
          refine wpAnyD_one 6 (by kernel_rfl) rfl (fun KK hK => ?_)
          go_simp
          refine hK.out _ _ (fun h => by cases h) ?_
          clear hK KK
          refine wpAnyD_done (by kernel_rfl) ?_ _
          clear x7 sf7 pd7 b7 p7 g7 hcj hfj W4 y4 s4 r4 o4 o4' hS0 hS4 c0 c1 KEY HO HW HR HY O4 hbox hne
          go_wp2
          go_roundw
          case rel => exact ⟨j + 1, _, by omega, by go_num, O7.out, Y7.out, R7.out, W7.out, W7.out.box.lt⟩
          case measure => simp [intOf]; omega
        · obtain rfl : j = nS := by omega
          have HO : Hid _ := hO
          have HW : Hid _ := hW
          have HR : Hid _ := hR
          have HY : Hid _ := hy
          obtain ⟨c0, c1⟩ := hbox
          clear hO hW hR hy
          have hkk : 240 ≤ k := HK0.out.1
          have hm6k : k.tmod 6 = 0 := by rw [Int.tmod_eq_emod_of_nonneg k0]; exact HK0.out.2
          have hbv3 := HBY.out (rdIt n (rdIt n (rdP n p) (2 * i)) j)
          go_wp2_with fail
          refine (next_calls g a n c l _ wr HR.out).mono ?_
          rintro e w5 ⟨rfl, o5, r5⟩
          have W5 := HW.out.only o5 (by omega) (by omega)
          have y5 := (o5.block w.heap.size (by omega) (by omega)).trans HY.out
          have O5 : Hid (OnlyB g w w5) := HO.out.trans o5
          have z5 := o5.size
          generalize hvv : l.getD (rdIt n (rdIt n (rdP n p) (2 * i)) j) 0 = vv at *
          obtain ⟨vv0, vv1⟩ := hbv3
          obtain ⟨c0, c1⟩ := wbox_cells W5
          have hlb : w.heap.size < w1.heap.size := by omega
          obtain ⟨l0, l1⟩ : w5.cell? ⟨w.heap.size, 0, none⟩ = some (.slice none 0 0) ∧ w5.cell? ⟨w.heap.size, 1, none⟩ = some (.slice none 0 0) := ⟨by rw [cell_of_row w5 _ 0 _ _ _ y5]; rfl, by rw [cell_of_row w5 _ 1 _ _ _ y5]; rfl⟩
          have f0 := frozen_of_row w5 w.heap.size 0 _ _ y5
          have f1 := frozen_of_row w5 w.heap.size 1 _ _ y5
          clear l0 l1 f0 f1 c0 c1
          have HVB : Hid (IsB (secL (l.getD (rdP n (rdIt n (rdIt n (rdP n p) (2 * i)) j)) 0))) := secL_isB (HBY.out _).1 (HBY.out _).2
          have hlt5 : w2.heap.size < w5.heap.size := W5.box.lt
          have KEY : Hid (∀ v, OnlyB g w5 v → v.cell? ⟨w2.heap.size, 0, none⟩ = some (.slice sa j sc) ∧ v.cell? ⟨w2.heap.size, 1, none⟩ = some (.slice pa i pc)) := fun v b => wbox_cells (W5.only b (by omega) (by omega))
          have HW5 : Hid _ := W5
          have HY5 : Hid _ := y5
          have HR5 : Hid _ := r5
          have hS0 := KEY.out w5.drew (OnlyB.refl g w5).drew
          have HM9 : Hid (vv.tmod 9 = vv % 9) := Int.tmod_eq_emod_of_nonneg vv0
          have HW9 : Hid (IntKind.i64.wrap (vv % 9 - 1) = vv % 9 - 1) := by show IntKind.i64.wrap (vv % 9 - 1) = vv % 9 - 1; simp [IntKind.wrap, IntKind.bits, IntKind.signed]; omega
          clear W5 y5 r5 o5
          go_wp2_with fail
          refine wp_regionD (fun v => v.cell? ⟨w2.heap.size, 0, none⟩ = some (.slice sa j sc) ∧ v.cell? ⟨w2.heap.size, 1, none⟩ = some (.slice pa i pc)) (fun j => j == 11) (by kernel_rfl) ?_
          refine wpAnyD_takeS 0 62 (v := ?vvz0) rfl rfl (by kernel_rfl) (by kernel_rfl) (by kernel_rfl) (by kernel_rfl) (fun _ _ _ h => h) (Or.inl ⟨by rfl, ?hyz0⟩) hS0 ?restz0
          case hyz0 => (intro w hSw; (try dsimp only at hSw); go_simp; try with_reducible rfl)
          simp only [Act.put, List.setIfInBounds_toArray, List.set_cons_zero, List.set_cons_succ]
          refine wpAnyD_takeS 1 63 (v := ?vvz1) rfl rfl (by kernel_rfl) (by kernel_rfl) (by kernel_rfl) (by kernel_rfl) (fun _ _ _ h => h) (Or.inl ⟨by rfl, ?hyz1⟩) hS0 ?restz1
          case hyz1 => (intro w hSw; (try dsimp only at hSw); go_simp; try with_reducible rfl)
          simp only [Act.put, List.setIfInBounds_toArray, List.set_cons_zero, List.set_cons_succ]
          refine wpAnyD_takeS 2 64 (v := ?vvz2) rfl rfl (by kernel_rfl) (by kernel_rfl) (by kernel_rfl) (by kernel_rfl) (fun _ _ _ h => h) (Or.inl ⟨by rfl, ?hyz2⟩) hS0 ?restz2
          case hyz2 => (intro w hSw; (try dsimp only at hSw); go_simp; try with_reducible rfl)
          simp only [Act.put, List.setIfInBounds_toArray, List.set_cons_zero, List.set_cons_succ]
          refine wpAnyD_takeS 5 67 (v := ?vvz5) rfl rfl (by kernel_rfl) (by kernel_rfl) (by kernel_rfl) (by kernel_rfl) (fun _ _ _ h => h) (Or.inl ⟨by rfl, ?hyz5⟩) hS0 ?restz5
          case hyz5 => (intro w hSw; (try dsimp only at hSw); go_simp; try with_reducible rfl)
          simp only [Act.put, List.setIfInBounds_toArray, List.set_cons_zero, List.set_cons_succ]
          refine wpAnyD_takeS 3 65 (v := .int .i64 (vv % 9)) rfl rfl (by kernel_rfl) (by kernel_rfl) (by kernel_rfl) (by kernel_rfl) (fun _ _ _ h => h) (Or.inl ⟨by rfl, ?hyz3⟩) hS0 ?restz3
          case hyz3 => (intro w hSw; go_simp; rw [HM9.out])
          simp only [Act.put, List.setIfInBounds_toArray, List.set_cons_zero, List.set_cons_succ]
          refine wpAnyD_takeS 4 66 (v := .int .i64 (vv % 9 - 1)) rfl rfl (by kernel_rfl) (by kernel_rfl) (by kernel_rfl) (by kernel_rfl) (fun _ _ _ h => h) (Or.inl ⟨by rfl, ?hyz4⟩) hS0 ?restz4
          case hyz4 => (intro w hSw; go_simp; (try rw [HW9.out]))
          simp only [Act.put, List.setIfInBounds_toArray, List.set_cons_zero, List.set_cons_succ]
          refine wpAnyD_one 6 (by kernel_rfl) rfl (fun KK hK => ?_)
          rw [if_pos (show Region.wanted _ _ = true from rfl)]
          go_wp2_with fail
          refine (l1Sector_calls g a n c l _ _ HR5.out.drew).mono ?_
          rintro e w6 ⟨rfl, o6, r6, s6⟩
          have o6' : OnlyB g w5 w6 := ⟨o6.os, o6.tape, o6.output, o6.size, o6.block⟩
          have hS6 := KEY.out w6 o6'
          have W6 := HW5.out.only o6' (by omega) (by omega)
          have y6 := (o6'.block w.heap.size (by omega) (by omega)).trans HY5.out
          have OO6 : Hid (OnlyB g w w6) := O5.out.trans o6'
          have zz6 := o6'.size
          go_wp2_with fail
          refine hK.out _ _ (fun _ => hS6) ?_
          clear hK KK
          refine wpAnyD_takeS 7 69 (v := ?vvy7) rfl rfl (by kernel_rfl) (by kernel_rfl) (by kernel_rfl) (by kernel_rfl) (fun _ _ _ h => h) (Or.inl ⟨by rfl, ?hyy7⟩) hS6 ?resty7
          case hyy7 => (intro w hSw; (try dsimp only at hSw); go_simp; try with_reducible rfl)
          simp only [Act.put, List.setIfInBounds_toArray, List.set_cons_zero, List.set_cons_succ]
          refine wpAnyD_one 8 (by kernel_rfl) rfl (fun KK hK => ?_)
          go_simp
          refine hK.out _ _ (fun _ => KEY.out _ (o6'.thenB ((Below.refl w6.heap.size w6).alloc (Nat.le_refl _) _) o6'.size)) ?_
          clear hK KK
          refine wpAnyD_one 9 (by kernel_rfl) rfl (fun KK hK => ?_)
          refine step_appW rfl _ _ 31 rfl 1 100 w1.heap.size Tryd.underlying31 infPw (by decide) pa i pc (aI (drS l n (rdP n p) j i j)) pA pN pC (drS l n (rdP n p) j i j).D rfl W6.pend (fun _ => vv % 9 - 1) (some ⟨w5.heap.size, 0, none⟩) 64 64 (secL (l.getD (rdP n (rdIt n (rdIt n (rdP n p) (2 * i)) j)) 0)) (s6.mono (by show w1.heap.size ≤ w5.heap.size; omega)) HVB.out (by omega) _ rfl ?_ (by omega) ?_
          · rfl
          intro a7 c7 w7 r7 b7 g7
          have q6 := (Below.refl w6.heap.size w6).alloc (Nat.le_refl _) (.cells #[.int .i64 (vv % 9 - 1), .slice (some ⟨w5.heap.size, 0, none⟩) 64 64] 100)
          have x7 : w7.heap[w2.heap.size]? = w6.heap[w2.heap.size]? := by
            have hne := row_ne_block W6.pend.row W6.box (by decide)
            exact (g7.block w2.heap.size (by simp; omega) (fun e1 => hne e1.symm)).trans (q6.block _ W6.box.lt)
          have x7' := x7.trans W6.box
          have sf7 := (W6.safe.below q6).kept (own_below W6.pend.row q6) (by decide) (by decide) g7
          have q40 : w7.cell? ⟨w2.heap.size, 0, none⟩ = some (.slice sa j sc) := by rw [cell_of_row w7 _ 0 _ _ _ x7']; rfl
          have q41 : w7.cell? ⟨w2.heap.size, 1, none⟩ = some (.slice pa i pc) := by rw [cell_of_row w7 _ 1 _ _ _ x7']; rfl
          have qf : w7.frozen? ⟨w2.heap.size, 1, none⟩ = false := frozen_of_row w7 _ 1 _ _ x7'
          refine hK.out _ _ (fun _ => ⟨q40, q41⟩) ?_
          clear hK KK
          refine wpAnyD_one 10 (by kernel_rfl) rfl (fun KK hK => ?_)
          go_simp
          refine hK.out _ _ (fun _ => ⟨q40, q41⟩) ?_
          clear hK KK
          refine wpAnyD_one 11 (by kernel_rfl) rfl (fun KK hK => ?_)
          go_simp
          refine hK.out _ _ (fun h => by cases h) ?_
          clear hK KK
          refine wpAnyD_done (by kernel_rfl) ?_ _
          have x8 := heap_setCell_same w7 _ 1 _ _ (.slice a7 (i + 1) c7) x7'
          have sf8 := sf7.setBox x7' (by decide) (by decide) 1 (.slice a7 (i + 1) c7)
          have pd8 := (r7.setBox x7' (by decide) (by decide) 1 (.slice a7 (i + 1) c7)).congr (I' := aI { (drS l n (rdP n p) j i j) with m := i + 1, At := upd (drS l n (rdP n p) j i j).At i (l.getD (rdIt n (rdIt n (rdP n p) (2 * i)) j) 0 % 9 - 1), D := upd (drS l n (rdP n p) j i j).D i (secL (l.getD (rdP n (rdIt n (rdIt n (rdP n p) (2 * i)) j)) 0)) }) (L' := { (drS l n (rdP n p) j i j) with m := i + 1, At := upd (drS l n (rdP n p) j i j).At i (l.getD (rdIt n (rdIt n (rdP n p) (2 * i)) j) 0 % 9 - 1), D := upd (drS l n (rdP n p) j i j).D i (secL (l.getD (rdP n (rdIt n (rdIt n (rdP n p) (2 * i)) j)) 0)) }.D) (fun i' hi' q hq => by
            by_cases e1 : i' = i
            · subst e1; rw [upd_same]; show vv % 9 - 1 = upd (drS l n (rdP n p) j i' j).At i' (l.getD (rdIt n (rdIt n (rdP n p) (2 * i')) j) 0 % 9 - 1) i'; rw [upd_same, hvv]
            · rw [upd_ne _ _ _ e1]; show _ = upd (drS l n (rdP n p) j i j).At i (l.getD (rdIt n (rdIt n (rdP n p) (2 * i)) j) 0 % 9 - 1) i'; rw [upd_ne _ _ _ e1]; rfl) (fun i' hi' => rfl)
          have b8 : Below w1.heap.size w6 (w7.setCell ⟨w2.heap.size, 1, none⟩ (.slice a7 (i + 1) c7)) := b7.setCell (p := ⟨w2.heap.size, 1, none⟩) zb2 _
          have O8 := OO6.out.thenB b8 (show w.heap.size ≤ w1.heap.size by omega)
          have Y8 := (b8.block w.heap.size (by omega)).trans y6
          have FIN : Hid _ := draw_fin (d := ⟨sa, sc, sA, sN, sC, a7, c7, upd pA i (some ⟨w5.heap.size, 0, none⟩), upd pN i 64, upd pC i 64⟩) (K := { (drS l n (rdP n p) j i j) with m := i + 1, At := upd (drS l n (rdP n p) j i j).At i (l.getD (rdIt n (rdIt n (rdP n p) (2 * i)) j) 0 % 9 - 1), D := upd (drS l n (rdP n p) j i j).D i (secL (l.getD (rdP n (rdIt n (rdIt n (rdP n p) (2 * i)) j)) 0)) }) H.out hlb O8 ((b8.block g (by omega)).trans r6.box) r6.at_ sf8 pd8 (.slice sa j sc) (.slice a7 (i + 1) c7)
          clear sf8 pd8 b8 O8 r7 b7 g7 sf7 q40 q41 qf W6 y6 s6 r6 o6 o6' hS0 hS6 KEY HO HW HR HY HW5 HY5 HR5 x7 x7' q6 OO6
          generalize w7.setCell ⟨w2.heap.size, 1, none⟩ (.slice a7 (i + 1) c7) = X8 at *
          have l0 : X8.cell? ⟨w.heap.size, 0, none⟩ = some (.slice none 0 0) := by rw [cell_of_row X8 _ 0 _ _ _ Y8]; rfl
          have l1 : X8.cell? ⟨w.heap.size, 1, none⟩ = some (.slice none 0 0) := by rw [cell_of_row X8 _ 1 _ _ _ Y8]; rfl
          have f0 := frozen_of_row X8 w.heap.size 0 _ _ Y8
          have f1 := frozen_of_row X8 w.heap.size 1 _ _ Y8
          have c0 : X8.cell? ⟨w2.heap.size, 0, none⟩ = some (.slice sa j sc) := by rw [cell_of_row X8 _ 0 _ _ _ x8]; rfl
          have c1 : X8.cell? ⟨w2.heap.size, 1, none⟩ = some (.slice a7 (i + 1) c7) := by rw [cell_of_row X8 _ 1 _ _ _ x8]; rfl
          clear Y8 x8
          go_wp2
          refine bodyPost_ret (v := .agg #[.slice sa j sc, .slice a7 (i + 1) c7]) (by simp [results, Tryd.results37, go_sem, l0, l1]) rfl ?_
          exact ⟨_, rfl, FIN.out⟩
end Go.Proofs.YtjjfgoeibcmfkaaDoor

