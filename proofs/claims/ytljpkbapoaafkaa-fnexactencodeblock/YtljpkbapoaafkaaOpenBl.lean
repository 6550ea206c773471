/- A law's blocks are opened. -/
import Derived.Test.YtljpkbapoaafkaaBlV
import Derived.Test.YtljpkbapoaafkaaOpenTx
namespace Go.Proofs.Ytljpkbapoaafkaa
open Go.ChangeShapes Go.WideShapes Go.ChangeAt Go.RowKit
open Go.Joins Go.Deep

section
variable {H : Type} {enc : TypeId × Value → H} {W : World}

theorem cellsLBl : Try.prog.cellsOf 54 = 66 := by kernel_rfl
/-- A transaction out of plain parts. -/
def tupV (y : Option Addr × Nat × Option Addr × Nat × Nat × (Nat → List Int × Int) × Nat × (Nat → Int) × Int) : TxV := ⟨y.1, y.2.1, y.2.2.1, y.2.2.2.1⟩
def tupK (y : Option Addr × Nat × Option Addr × Nat × Nat × (Nat → List Int × Int) × Nat × (Nat → Int) × Int) : TxK := ⟨y.2.2.2.2.1, y.2.2.2.2.2.1, y.2.2.2.2.2.2.1, y.2.2.2.2.2.2.2.1, y.2.2.2.2.2.2.2.2⟩
/-- A slice of transactions. -/
theorem trod_txS {fuel : Nat} {v : Value} {x : DataW H × List MemPlace} (h : DataW.trod enc Try.prog W 0 (fun _ => true) true fuel 52 [v] = some x) :
    ∃ a n c tv K, v = .slice a n c ∧ RTxs W a n c tv K := by
  rcases open_slice Try.underlying52 h with ⟨hcs, _⟩ | ⟨a, l, c, m, k, D, Pl, hcs, _, hl, hm, hmm, _, hx⟩
  · simp at hcs
    subst hcs
    exact ⟨none, 0, 0, zeroV.tv, zeroB.tx, rfl, ⟨⟨fun i hi => absurd hi (by omega), fun i hi => absurd hi (by omega)⟩, Nat.le_refl _, Nat.zero_le _, fun _ => rfl, fun h => absurd h (by omega)⟩, fun i hi => absurd hi (by omega)⟩
  · simp at hcs hmm
    subst hcs
    subst hmm
    rw [cellsLTx] at hx
    obtain ⟨Y, hY⟩ := choose_lt (n := m) (p := fun i (y : Option Addr × Nat × Option Addr × Nat × Nat × (Nat → List Int × Int) × Nat × (Nat → Int) × Int) => W.cells? 0 (a.add (i * 3)) 3 = some (txc (tupV y) (tupK y)) ∧ RTx W (tupV y) (tupK y)) (fun i hi => by
      obtain ⟨cs', g1, g2⟩ := hx i hi
      obtain ⟨y, rfl, h1⟩ := trod_tx g2
      exact ⟨(y.1.ia, y.1.ic, y.1.oa, y.1.oc, y.2.ni, y.2.P, y.2.no, y.2.V, y.2.h), g1, h1⟩)
    refine ⟨some a, l, m, fun i => tupV (Y i), fun i => tupK (Y i), rfl, ⟨txs_row _ _ _, hl, hm, fun e => (by cases e), fun hp => ?_⟩, fun i hi => (hY i (by omega)).2⟩
    have c0 := (World.cells?_some (hY 0 (by omega)).1).2.2 0 (by omega)
    have c0' : W.cell? (a.add 0) = some (.slice (tupV (Y 0)).ia (tupK (Y 0)).ni (tupV (Y 0)).ic) := by simpa [Addr.add, txc] using c0
    obtain ⟨b, off, rfl, hb⟩ := plain_addrH c0'
    refine ⟨b, off, rfl, hb, fun i q hi hq => ?_⟩
    have c1 := (World.cells?_some (hY i (by omega)).1).2.2 q hq
    rw [Addr.add_lit, Addr.add_lit] at c1
    exact c1

set_option maxRecDepth 100000 in
/-- A block. -/
theorem trod_block {fuel : Nat} {cs : List Value} {x : DataW H × List MemPlace} (h : DataW.trod enc Try.prog W 0 (fun _ => true) true fuel 54 cs = some x) :
    ∃ v K, cs = blc v K ∧ RBl W v K := by
  obtain ⟨xs, n, _, _, hl, hlen, hf⟩ := DataW.trod_struct Try.underlying54 h
  rw [cellsLBl] at hl
  match xs, hlen with
  | [y0, y1, y2, y3], _ =>
    have h0 : DataW.trod enc Try.prog W 0 (fun _ => true) true n 41 ((cs.drop 0).take (Try.prog.cellsOf 41)) = some y0 := hf 0 _ rfl
    have h1 : DataW.trod enc Try.prog W 0 (fun _ => true) true n 41 ((cs.drop 32).take (Try.prog.cellsOf 41)) = some y1 := hf 1 _ rfl
    have h2 : DataW.trod enc Try.prog W 0 (fun _ => true) true n 3 ((cs.drop 64).take 1) = some y2 := hf 2 _ rfl
    have h3 : DataW.trod enc Try.prog W 0 (fun _ => true) true n 52 ((cs.drop 65).take 1) = some y3 := hf 3 _ rfl
    rw [cellsL] at h0 h1
    rw [List.drop_zero] at h0
    obtain ⟨p, e0, hp, hpB⟩ := trod_hash h0
    obtain ⟨r, e1, hr, hrB⟩ := trod_hash h1
    obtain ⟨t, e2, _, _⟩ := DataW.trod_int Try.underlying3 h2
    have hd : (cs.drop 65).length = 1 := by simp; omega
    match hq : cs.drop 65, hd with
    | [c], _ =>
      rw [hq] at h3
      obtain ⟨a, nt, tc, tv, K, rfl, hT⟩ := trod_txS h3
      refine ⟨⟨a, tc, tv⟩, ⟨p, r, t, nt, K⟩, ?_, ⟨hp, hr, hpB, hrB⟩, hT⟩
      show cs = ob p ++ (ob r ++ [.int .i64 t, .slice a nt tc])
      have e3 : cs.drop 64 = [.int .i64 t, .slice a nt tc] := by
        have : cs.drop 64 = (cs.drop 64).take 1 ++ cs.drop 65 := by
          have := (List.take_append_drop 1 (cs.drop 64)).symm
          rw [List.drop_drop] at this
          exact this
        rw [this, e2, hq]
        rfl
      have e4 : cs.drop 32 = (cs.drop 32).take 32 ++ cs.drop 64 := by
        have := (List.take_append_drop 32 (cs.drop 32)).symm
        rw [List.drop_drop] at this
        exact this
      rw [← e0, ← e1, ← e3, ← e4, List.take_append_drop]
end
end Go.Proofs.Ytljpkbapoaafkaa
