/-
  DERIVED. GIVEN WITH THE SEED: THE PROGRAM's TIES (one call each: nine closed facts by the kernel) AND EACH ROW's TIE, after the 31st guide's Derived/Test/Toyas{Tie, Card}.lean. No idea stands in it: it is a product of the set-up. Laid BY PROGRAM, IN A SANDBOX (cutbox-door.mjs). By AI agents, Wed Nov 11 2026. No macro, syntax, notation, axiom, sorry.
-/
import Derived.Test.YtnohmedccbogkaaGreatDoorRows
import Derived.LaidByTextLater
import Derived.SevenTiedAt
import Derived.LaidSub
import Derived.LaidOnce
namespace Go.Proofs.YtnohmedccbogkaaGreatDoor
open Go
set_option maxRecDepth 100000
theorem seatTie1 : Tryz.prog.laidByTextLater [("loop.example/s01906/impl.errWrongBytes", Rows.laid_loop_example_s01906_impl_errWrongBytes), ("loop.example/s01906/impl.errNoPage", Rows.laid_loop_example_s01906_impl_errNoPage), ("loop.example/s01906/impl.startWords", Rows.laid_loop_example_s01906_impl_startWords), ("loop.example/s01906/impl.roundWords", Rows.laid_loop_example_s01906_impl_roundWords)] [.sentinel, .sentinel, .data, .data] true :=
  Program.laidByTextLater_by_one 57 8 65 (by kernel_rfl) (by kernel_rfl) (by kernel_rfl) (by kernel_rfl) (by kernel_rfl) (by kernel_rfl) (fun _ _ => by kernel_rfl)
theorem noOwnUnsafe : Tryz.pinned.checked.prog.headLifts.contains "ownunsafe" = false := by kernel_rfl
theorem tie : Tryz.prog.laidByTextLater [("loop.example/s01906/impl.errWrongBytes", Rows.laid_loop_example_s01906_impl_errWrongBytes), ("loop.example/s01906/impl.errNoPage", Rows.laid_loop_example_s01906_impl_errNoPage)] [.sentinel, .sentinel] true :=
  Program.laidByTextLater.sub seatTie1 ["loop.example/s01906/impl.errWrongBytes", "loop.example/s01906/impl.errNoPage"] (by kernel_rfl) (by kernel_rfl)
theorem fnExactTip_row_tie : Rows.fnExactTipRow.laidByTextAt .later Tryz.pinned [.sentinel, .sentinel] true :=
  OpenClaim.laidByTextAt_later rfl rfl tie noOwnUnsafe
theorem fnExactCoinOf_row_tie : Rows.fnExactCoinOfRow.laidByTextAt .later Tryz.pinned [.sentinel, .sentinel] true :=
  OpenClaim.laidByTextAt_later rfl rfl tie noOwnUnsafe
theorem fnExactCoins_row_tie : Rows.fnExactCoinsRow.laidByTextAt .later Tryz.pinned [.sentinel, .sentinel] true :=
  OpenClaim.laidByTextAt_later rfl rfl tie noOwnUnsafe
theorem fnExactDisconnect_row_tie : Rows.fnExactDisconnectRow.laidByTextAt .later Tryz.pinned [.sentinel, .sentinel] true :=
  OpenClaim.laidByTextAt_later rfl rfl tie noOwnUnsafe
theorem tie2 : Tryz.prog.laidByTextLater [("loop.example/s01906/impl.errWrongBytes", Rows.laid_loop_example_s01906_impl_errWrongBytes), ("loop.example/s01906/impl.errNoPage", Rows.laid_loop_example_s01906_impl_errNoPage), ("loop.example/s01906/impl.startWords", Rows.laid_loop_example_s01906_impl_startWords), ("loop.example/s01906/impl.roundWords", Rows.laid_loop_example_s01906_impl_roundWords)] [.sentinel, .sentinel, .data, .data] true :=
  Program.laidByTextLater.sub seatTie1 ["loop.example/s01906/impl.errWrongBytes", "loop.example/s01906/impl.errNoPage", "loop.example/s01906/impl.startWords", "loop.example/s01906/impl.roundWords"] (by kernel_rfl) (by kernel_rfl)
theorem fnExactConnect_row_tie : Rows.fnExactConnectRow.laidByTextAt .later Tryz.pinned [.sentinel, .sentinel, .data, .data] true :=
  OpenClaim.laidByTextAt_later rfl rfl tie2 noOwnUnsafe
theorem fnExactTipUpto_row_tie : Rows.fnExactTipUptoRow.laidByTextAt .later Tryz.pinned [.sentinel, .sentinel] true :=
  OpenClaim.laidByTextAt_later rfl rfl tie noOwnUnsafe
theorem fnExactCoinOfUpto_row_tie : Rows.fnExactCoinOfUptoRow.laidByTextAt .later Tryz.pinned [.sentinel, .sentinel] true :=
  OpenClaim.laidByTextAt_later rfl rfl tie noOwnUnsafe
theorem fnExactCoinsUpto_row_tie : Rows.fnExactCoinsUptoRow.laidByTextAt .later Tryz.pinned [.sentinel, .sentinel] true :=
  OpenClaim.laidByTextAt_later rfl rfl tie noOwnUnsafe
theorem fnExactDisconnectUpto_row_tie : Rows.fnExactDisconnectUptoRow.laidByTextAt .later Tryz.pinned [.sentinel, .sentinel] true :=
  OpenClaim.laidByTextAt_later rfl rfl tie noOwnUnsafe
theorem fnExactConnectUpto_row_tie : Rows.fnExactConnectUptoRow.laidByTextAt .later Tryz.pinned [.sentinel, .sentinel, .data, .data] true :=
  OpenClaim.laidByTextAt_later rfl rfl tie2 noOwnUnsafe
end Go.Proofs.YtnohmedccbogkaaGreatDoor
