import Derived.Test.YtljpkbapoaafkaaDB7
import Derived.Test.YtljpkbapoaafkaaDB10
/- The specification's hash out of bytes. -/
namespace Go.Proofs.Ytljpkbapoaafkaa
open Go.RowKit
set_option linter.unusedVariables false

def zH : List Value := ob (List.replicate 32 0)
theorem zH_all : zH.toArray.all (·.oneCell') = true := ob_all _
theorem built_h0 : Try.prog.built 42 [] = some zH.toArray := by kernel_rfl

set_option maxHeartbeats 1000000 in
set_option maxRecDepth 100000 in
theorem l5Hash_calls (a : Option Addr) (c : Nat) (l : List Int) (w : World) (h : Bs w a 32 c l) :
    Calls Try.prog 41 #[.slice a 32 c] w fun e w' => e = .returned (hA l) ∧ Below w.heap.size w w' := by
  have hl := h.len_eq
  obtain ⟨b, off, rfl, hlb, hc⟩ := h.at_ (by omega)
  have k1 := blk_new w 42 zH.toArray
  have q1 : Below w.heap.size w (w.alloc (Obj.cells zH.toArray 42)) := (Below.refl _ _).alloc (Nat.le_refl _) _
  have z1 : (w.alloc (Obj.cells zH.toArray 42)).heap.size = w.heap.size + 1 := by simp
  have s0 : (Try.prog.info? 42).map (·.size) = some zH.toArray.size := sizeH
  go_enter Try.func41, Try.ntmps41
  go_upto_region 1 with fail
  change Code.wp _ _ _ _ (w.alloc (Obj.cells zH.toArray 42))
  generalize w.alloc (Obj.cells zH.toArray 42) = W0 at *
  have HZ1 : Hid (W0.heap.size = w.heap.size + 1) := z1
  clear z1
  have k2 := blk_new W0 42 zH.toArray
  have q2 : Below W0.heap.size W0 (W0.alloc (Obj.cells zH.toArray 42)) := (Below.refl _ _).alloc (Nat.le_refl _) _
  have k1' := k1.below q2
  have bb := q1.trans (q2.mono q1.size)
  go_upto_region 2 with (first | (refine wpList_build1 rfl _ _ rfl built_h0 ?_) | (refine wpList_storeNew rfl 42 _ _ rfl W0 zH.toArray zH.toArray 42 rfl rfl s0 rfl zH_all ?_))
  change Code.wp _ _ _ _ (W0.alloc (Obj.cells zH.toArray 42))
  generalize W0.alloc (Obj.cells zH.toArray 42) = W at *
  have hz0 : w.heap.size < W0.heap.size := by have := HZ1.out; omega
  have kR : Blk W 42 w.heap.size zH := k1'
  have kO : Blk W 42 (W0.heap.size) zH := k2
  have HK : Hid _ := And.intro hc (And.intro kR (And.intro kO bb))
  clear k1 k2 k1' bb kR kO hc h s0 q1 q2
  go_wp2
  go_loopw [4] (fun i wr => ∃ j, j ≤ 32 ∧ i = .int .i64 (j : Nat) ∧ OnlyB (W0.heap.size) W wr ∧ Blk wr 42 (W0.heap.size) (ob (upTo l j))) (fun i _ => 32 - (intOf i).toNat)
  case atStart => exact ⟨0, Nat.zero_le _, rfl, OnlyB.refl _ _, by rw [upTo_zero, hl]; exact HK.out.2.2.1⟩
  case round =>
    obtain ⟨j, hj, rfl, ho, hk⟩ := hrel
    by_cases hlt : j < 32
    · have cc : wr.cell? ⟨b, off + j, none⟩ = some (.int .u8 (l.getD j 0)) := by
        have hb := HK.out.2.2.2
        rw [World.cell?_of_block (a := ⟨b, off + j, none⟩) ((ho.block b (Nat.lt_of_lt_of_le hlb hb.size) (by omega)).trans (hb.block b hlb))]
        exact HK.out.1 j hlt
      have c0 : wr.cell? ⟨W0.heap.size, j, none⟩ = some (.int .u8 ((upTo l j).getD j 0)) := by rw [hk.cell]; exact ob_getElem? _ j (by rw [upTo_len _ _ (by omega)]; omega)
      have f0 := hk.free j
      have st := hk.set j (.int .u8 (l.getD j 0))
      rw [ob_set, upTo_set _ _ (by omega)] at st
      have so := ho.trans (onlyB_setCell wr (W0.heap.size) j (.int .u8 (l.getD j 0)))
      have HST : Hid _ := And.intro st so
      have hj32 : (j : Int) < 32 := by omega
      clear st so hk ho
      generalize l.getD j 0 = x at *
      generalize (upTo l j).getD j 0 = y at *
      go_wp2
      go_roundw
      case rel => exact ⟨j + 1, by omega, by go_num, HST.out.2, HST.out.1⟩
      case measure => simp [intOf]; omega
    · have e : j = 32 := by omega
      subst e
      rw [upTo_full _ _ hl.symm] at hk
      have kR := HK.out.2.1.only ho (by omega)
      have s1 : (Try.prog.info? 42).map (·.size) = some (ob l).toArray.size := by rw [ob_size, hl]; exact sizeH
      have kF := kR.setRow (ob l)
      have oF := onlyB_setRow wr w.heap.size (ob l).toArray
      have bF : Below w.heap.size w (wr.setRow w.heap.size (ob l).toArray) :=
        (HK.out.2.2.2.trans (ho.below (by omega) HK.out.2.2.2.size)).trans (oF.below (by omega) (by have := kR.lt; omega))
      go_upto_region 6 with fail
      go_wp2_with (first | (refine wpList_load_row rfl 42 _ rfl (W0.heap.size) rfl 42 (ob l).toArray (0, 0) _ hk Try.underlying42 rfl s1 ?_) | (refine wpList_store_row rfl 42 _ _ rfl w.heap.size (ob l).toArray rfl rfl 42 _ kR s1 ?o1 (ob_all _) ?_))
      case o1 => rw [ob_size, hl]; rfl
      refine bodyPost_ret (v := hA l) ?_ rfl ⟨rfl, bF⟩
      exact results_cell_row Try.results41 _ _ w.heap.size 42 (ob l).toArray (0, 0) _ rfl kF Try.underlying42 rfl s1
end Go.Proofs.Ytljpkbapoaafkaa

/- The specification's reader: one contract for both ways. -/
namespace Go.Proofs.Ytljpkbapoaafkaa
open Go.RowKit
set_option linter.unusedVariables false

/-- What a take says. -/
structure Tk (g B : Nat) (l : List Int) (p k : Nat) (s : Bool) (w w' : World) (b off c : Nat) (x : List Int) (q : Nat) (s' : Bool) : Prop where
  only : OnlyB g w w'
  rd : Rdr w' g B l q s'
  bs : Bs w' (some ⟨b, off, none⟩) k c x
  ne : b ≠ g
  yes : s' = false → s = false ∧ p + k ≤ l.length ∧ q = p + k ∧ x = (l.drop p).take k
  no : s' = true → s = true ∨ l.length < p + k
theorem stake_calls (g B : Nat) (l : List Int) (p k : Nat) (s : Bool) (w : World) (h : Rdr w g B l p s) (h1 : 1 ≤ k) (hk : k ≤ 1048576) :
    Calls Try.prog 42 #[.pointer (some ⟨g, 0, none⟩), .int .i64 (k : Int)] w fun e w' => ∃ b off c x q s', e = .returned (.slice (some ⟨b, off, none⟩) k c) ∧ Tk g B l p k s w w' b off c x q s' := by
  have hg := h.lt
  by_cases hc : s = true ∨ l.length < p + k
  · refine (stake_bad g B l p k s w h h1 hk hc).mono ?_
    rintro e w' ⟨b, c, rfl, o, r, bs, hb⟩
    exact ⟨b, 0, c, _, p, true, rfl, o, r, bs, by omega, (fun e => by cases e), fun _ => hc⟩
  · have hs : s = false := by cases s with | false => rfl | true => exact absurd (Or.inl rfl) hc
    have hf : p + k ≤ l.length := Nat.le_of_not_lt fun hh => hc (Or.inr hh)
    subst hs
    refine (stake_ok g B l p k w h h1 hf).mono ?_
    rintro e w' ⟨b, off, c, rfl, o, r, bs, _, hb, _⟩
    exact ⟨b, off, c, _, p + k, false, rfl, o, r, bs, hb, fun _ => ⟨rfl, hf, rfl, rfl⟩, (fun e => by cases e)⟩
end Go.Proofs.Ytljpkbapoaafkaa

