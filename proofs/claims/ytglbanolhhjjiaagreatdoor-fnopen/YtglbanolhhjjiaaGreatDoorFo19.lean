import Derived.Test.YtglbanolhhjjiaaGreatDoorFo13
namespace Go.Proofs.YtglbanolhhjjiaaGreatDoor
open Go.RowKit
set_option linter.unusedVariables false
set_option maxRecDepth 100000
set_option maxHeartbeats 32000000
theorem ODisk.keptR{b w w' g K' d}(c:ODisk b w g K')(l:w.grownBy w' d)(o:∀k,d=some k->k<b):ODisk b w' g K':=by
 have a:∀{e size n:Nat}{v:Value}{xs:List Value},w.ownsRow b e size v n xs->w'.ownsRow b e size v n xs:=fun{e size n v xs} h=>by
  refine World.ownsRow.kept h l ?_;cases m:v.ownBlock with
  |none=>exact u5 rfl
  |some k=>exact u4 fun j=>by have p:=(fA h m).1;have q:=o k j.symm;omega
 exact⟨⟨a c.safe.row,fun i f=>a (c.safe.data i f),c.safe.byte,c.safe.sep1⟩,⟨a c.pend.row,fun i f=>a (c.pend.data i f),c.pend.byte,c.pend.sep1⟩,c.sepX⟩
