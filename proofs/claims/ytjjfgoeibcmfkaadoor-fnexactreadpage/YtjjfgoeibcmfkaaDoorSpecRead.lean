import Derived.Test.YtjjfgoeibcmfkaaDoorNow
import Derived.Test.YtjjfgoeibcmfkaaDoorSlice
namespace Go.Proofs.YtjjfgoeibcmfkaaDoor
open Go.RowKit

theorem nowL_len {K : DK} (hok : dOk K) {t : Nat} (ht : t < K.n) : (nowL K t).length = 64 :=
  pick_all (P := fun l : List Int => l.length = 64) ht (Nat.le_refl _) (fun i hi => (hok.2.2 i hi).2.2) (fun i hi => hok.2.1 i hi)
theorem now_bs64 {w : World} {d : DV} {K : DK} (h : RDisk w d K) (hok : dOk K) (t : Nat) (ht : t < K.n) : pick K.At d.pN d.sN K.m t = 64 := by
  have := (now_bs h t ht).len_eq
  rw [nowL_len hok ht] at this
  exact this.symm

end Go.Proofs.YtjjfgoeibcmfkaaDoor
