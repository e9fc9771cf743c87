/-
  DERIVED. GIVEN WITH THE SEED: THE PROGRAM's TIES (one call each: nine closed facts by the kernel) AND EACH ROW's TIE, after the 31st guide's Derived/Test/Toyas{Tie, Card}.lean. No idea stands in it: it is a product of the set-up. Laid BY PROGRAM, IN A SANDBOX (cutbox-door.mjs). By AI agents, Wed Nov 11 2026. No macro, syntax, notation, axiom, sorry.
-/
import Derived.Test.YtkeilejbelblcaaGreatDoorRows
import Derived.LaidByTextLater
import Derived.SevenTiedAt
import Derived.LaidSub
import Derived.LaidOnce
namespace Go.Proofs.YtkeilejbelblcaaGreatDoor
open Go
set_option maxRecDepth 100000
theorem seatTie1 : Tryz.prog.laidByTextLater [("loop.example/signalbox/impl.errNone", Rows.laid_loop_example_signalbox_impl_errNone), ("loop.example/signalbox/impl.errHeld", Rows.laid_loop_example_signalbox_impl_errHeld), ("loop.example/signalbox/impl.errBarred", Rows.laid_loop_example_signalbox_impl_errBarred), ("loop.example/signalbox/impl.errFilled", Rows.laid_loop_example_signalbox_impl_errFilled), ("loop.example/signalbox/impl.errWanted", Rows.laid_loop_example_signalbox_impl_errWanted), ("loop.example/signalbox/impl.errUnder", Rows.laid_loop_example_signalbox_impl_errUnder), ("loop.example/signalbox/impl.errNotSet", Rows.laid_loop_example_signalbox_impl_errNotSet)] [.sentinel, .sentinel, .sentinel, .sentinel, .sentinel, .sentinel, .sentinel] true :=
  Program.laidByTextLater_by_one 142 8 2 (by kernel_rfl) (by kernel_rfl) (by kernel_rfl) (by kernel_rfl) (by kernel_rfl) (by kernel_rfl) (fun _ _ => by kernel_rfl)
theorem noOwnUnsafe : Tryz.pinned.checked.prog.headLifts.contains "ownunsafe" = false := by kernel_rfl
theorem tie : Tryz.prog.laidByTextLater [("loop.example/signalbox/impl.errNone", Rows.laid_loop_example_signalbox_impl_errNone)] [.sentinel] true :=
  Program.laidByTextLater.sub seatTie1 ["loop.example/signalbox/impl.errNone"] (by kernel_rfl) (by kernel_rfl)
theorem fnExactFrameOk_row_tie : Rows.fnExactFrameOkRow.laidByTextAt .later Tryz.pinned [.sentinel] true :=
  OpenClaim.laidByTextAt_later rfl rfl tie noOwnUnsafe
theorem fnExactProved_row_tie : Rows.fnExactProvedRow.laidByTextAt .later Tryz.pinned [.sentinel] true :=
  OpenClaim.laidByTextAt_later rfl rfl tie noOwnUnsafe
theorem tie2 : Tryz.prog.laidByTextLater [("loop.example/signalbox/impl.errNone", Rows.laid_loop_example_signalbox_impl_errNone), ("loop.example/signalbox/impl.errHeld", Rows.laid_loop_example_signalbox_impl_errHeld), ("loop.example/signalbox/impl.errBarred", Rows.laid_loop_example_signalbox_impl_errBarred), ("loop.example/signalbox/impl.errFilled", Rows.laid_loop_example_signalbox_impl_errFilled), ("loop.example/signalbox/impl.errWanted", Rows.laid_loop_example_signalbox_impl_errWanted), ("loop.example/signalbox/impl.errUnder", Rows.laid_loop_example_signalbox_impl_errUnder), ("loop.example/signalbox/impl.errNotSet", Rows.laid_loop_example_signalbox_impl_errNotSet)] [.sentinel, .sentinel, .sentinel, .sentinel, .sentinel, .sentinel, .sentinel] true :=
  Program.laidByTextLater.sub seatTie1 ["loop.example/signalbox/impl.errNone", "loop.example/signalbox/impl.errHeld", "loop.example/signalbox/impl.errBarred", "loop.example/signalbox/impl.errFilled", "loop.example/signalbox/impl.errWanted", "loop.example/signalbox/impl.errUnder", "loop.example/signalbox/impl.errNotSet"] (by kernel_rfl) (by kernel_rfl)
theorem fnExactDoFrame_row_tie : Rows.fnExactDoFrameRow.laidByTextAt .later Tryz.pinned [.sentinel, .sentinel, .sentinel, .sentinel, .sentinel, .sentinel, .sentinel] true :=
  OpenClaim.laidByTextAt_later rfl rfl tie2 noOwnUnsafe
theorem fnExactFrameOkUpto_row_tie : Rows.fnExactFrameOkUptoRow.laidByTextAt .later Tryz.pinned [.sentinel] true :=
  OpenClaim.laidByTextAt_later rfl rfl tie noOwnUnsafe
theorem fnExactDoFrameUpto_row_tie : Rows.fnExactDoFrameUptoRow.laidByTextAt .later Tryz.pinned [.sentinel, .sentinel, .sentinel, .sentinel, .sentinel, .sentinel, .sentinel] true :=
  OpenClaim.laidByTextAt_later rfl rfl tie2 noOwnUnsafe
theorem fnExactProvedUpto_row_tie : Rows.fnExactProvedUptoRow.laidByTextAt .later Tryz.pinned [.sentinel] true :=
  OpenClaim.laidByTextAt_later rfl rfl tie noOwnUnsafe
end Go.Proofs.YtkeilejbelblcaaGreatDoor
