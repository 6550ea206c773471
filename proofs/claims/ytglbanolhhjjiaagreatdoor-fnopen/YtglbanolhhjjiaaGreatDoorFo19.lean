import Derived.Test.YtglbanolhhjjiaaGreatDoorFo13
namespace Go.Proofs.YtglbanolhhjjiaaGreatDoor
open Go.RowKit
set_option linter.unusedVariables false
set_option maxRecDepth 100000
set_option maxHeartbeats 32000000
theorem ODisk.keptR{b w w' f K' c}(h:ODisk b w f K')(l:w.grownBy w' c)(o:∀k,c=some k->k<b):ODisk b w' f K':=by
 have a:∀{e size n:Nat}{v:Value}{xs:List Value},w.ownsRow b e size v n xs->w'.ownsRow b e size v n xs:=fun{e size n v xs} g=>by
  refine World.ownsRow.kept g l ?_;cases m:v.ownBlock with
  |none=>exact v7 rfl
  |some k=>exact v6 fun j=>by have p:=(fA g m).1;have q:=o k j.symm;omega
 exact⟨⟨a h.safe.row,fun i d=>a (h.safe.data i d),h.safe.byte,h.safe.sep1⟩,⟨a h.pend.row,fun i d=>a (h.pend.data i d),h.pend.byte,h.pend.sep1⟩,h.sepX⟩
