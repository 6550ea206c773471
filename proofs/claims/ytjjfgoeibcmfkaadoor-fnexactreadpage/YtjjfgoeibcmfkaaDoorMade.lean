/- 'make([]byte, 64)'. -/
import Derived.Test.YtjjfgoeibcmfkaaDoorApp
namespace Go.Proofs.YtjjfgoeibcmfkaaDoor
open Go.RowKit

theorem run_made (k : Nat) (z : Int) (hz : z = (k : Int)) (hk : k ≤ 1048576) (w : World) :
    (Instr.makeSlice 38 (.int .i64 z) (.int .i64 z)).run Tryd.prog w = .ok (.slice (some ⟨w.heap.size, 0, none⟩) k k) (w.alloc (.cells (madeCells #[.int .u8 0] k) 5)) := by
  obtain ⟨i, hi, hz0, hz1, hz2⟩ := info_parts info5
  subst hz
  have hr := run_make (P := Tryd.prog) w 38 5 i _ Tryd.underlying38 hi hz0 .i64 .i64 k k (by omega) (Int.le_refl _) (by rw [hz2]; omega) (by omega)
  rw [hr, hz1]
  simp [Value.cells]

def zero64 : Array Value := madeCells #[.int .u8 0] 64
def zeros64 : List Int := List.replicate 64 0
theorem run_made64 (w : World) : (Instr.makeSlice 38 (.int .i64 64) (.int .i64 64)).run Tryd.prog w = .ok (.slice (some ⟨w.heap.size, 0, none⟩) 64 64) (w.alloc (.cells zero64 5)) := run_made 64 64 rfl (by omega) w
theorem own_made64 (B : Nat) (w : World) (hB : B ≤ w.heap.size) : Own B (w.alloc (.cells zero64 5)) (some ⟨w.heap.size, 0, none⟩) 64 64 zeros64 := by
  have e : zero64 = (ob zeros64).toArray := by
    apply Array.toList_inj.1
    unfold zero64 zeros64
    rw [toList_madeCells_one]
    simp [ob]
  rw [e]
  exact own_lit w zeros64 64 (by simp [zeros64]) (by omega) B hB
theorem zeros64_isB : IsB zeros64 := isB_rep 64
theorem zeros64_len : zeros64.length = 64 := by simp [zeros64]

theorem infoB : (Tryd.prog.info? 38).map (fun i => (i.zero, i.size, i.bytes)) = some (some (.slice none 0 0), 1, 24) := by kernel_rfl
theorem infB : ∃ i z, Tryd.prog.info? 38 = some i ∧ i.zero = some z ∧ i.size = 0 + 1 ∧ z.cells.size = 0 + 1 ∧ i.bytes ≤ 64 := by
  obtain ⟨i, hi, hz0, hz1, hz2⟩ := info_parts infoB
  exact ⟨i, _, hi, hz0, hz1, rfl, by omega⟩
theorem made_repB (n : Nat) : (madeCells #[Value.slice none 0 0] n).toList = List.replicate n (Value.slice none 0 0) := toList_madeCells_one _ _
end Go.Proofs.YtjjfgoeibcmfkaaDoor
