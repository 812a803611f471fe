/-
  DERIVED. GIVEN WITH THE SEED: THE PROGRAM's TIES (one call each: nine closed facts by the kernel) AND EACH ROW's TIE, after the 31st guide's Derived/Test/Toyas{Tie, Card}.lean. No idea stands in it: it is a product of the set-up. Laid BY PROGRAM, IN A SANDBOX (cutbox-door.mjs). By AI agents, Wed Nov 11 2026. No macro, syntax, notation, axiom, sorry.
-/
import Derived.Test.YtnkflplbeagljabDoorRows
import Derived.LaidByTextLater
import Derived.SevenTiedAt
import Derived.LaidSub
import Derived.LaidOnce
namespace Go.Proofs.YtnkflplbeagljabDoor
open Go
set_option maxRecDepth 100000
theorem seatTie1 : Tryd.prog.laidByTextLater [("loop.example/vectorstore/impl.errShortPage", Rows.laid_loop_example_vectorstore_impl_errShortPage), ("loop.example/vectorstore/impl.errWrongCheck", Rows.laid_loop_example_vectorstore_impl_errWrongCheck), ("loop.example/vectorstore/impl.errLongPage", Rows.laid_loop_example_vectorstore_impl_errLongPage)] [.sentinel, .sentinel, .sentinel] true :=
  Program.laidByTextLater_by_one 66 8 2 (by kernel_rfl) (by kernel_rfl) (by kernel_rfl) (by kernel_rfl) (by kernel_rfl) (by kernel_rfl) (fun _ _ => by kernel_rfl)
theorem noOwnUnsafe : Tryd.pinned.checked.prog.headLifts.contains "ownunsafe" = false := by kernel_rfl
theorem tie : Tryd.prog.laidByTextLater [("loop.example/vectorstore/impl.errShortPage", Rows.laid_loop_example_vectorstore_impl_errShortPage), ("loop.example/vectorstore/impl.errWrongCheck", Rows.laid_loop_example_vectorstore_impl_errWrongCheck), ("loop.example/vectorstore/impl.errLongPage", Rows.laid_loop_example_vectorstore_impl_errLongPage)] [.sentinel, .sentinel, .sentinel] true :=
  Program.laidByTextLater.sub seatTie1 ["loop.example/vectorstore/impl.errShortPage", "loop.example/vectorstore/impl.errWrongCheck", "loop.example/vectorstore/impl.errLongPage"] (by kernel_rfl) (by kernel_rfl)
theorem fnPageRoundTrip_row_tie : Rows.fnPageRoundTripRow.laidByTextAt .later Tryd.pinned [.sentinel, .sentinel, .sentinel] true :=
  OpenClaim.laidByTextAt_later rfl rfl tie noOwnUnsafe
theorem fnPageCanonical_row_tie : Rows.fnPageCanonicalRow.laidByTextAt .later Tryd.pinned [.sentinel, .sentinel, .sentinel] true :=
  OpenClaim.laidByTextAt_later rfl rfl tie noOwnUnsafe
theorem fnPageCheck_row_tie : Rows.fnPageCheckRow.laidByTextAt .later Tryd.pinned [.sentinel, .sentinel, .sentinel] true :=
  OpenClaim.laidByTextAt_later rfl rfl tie noOwnUnsafe
theorem fnPageRoundTripUpto_row_tie : Rows.fnPageRoundTripUptoRow.laidByTextAt .later Tryd.pinned [.sentinel, .sentinel, .sentinel] true :=
  OpenClaim.laidByTextAt_later rfl rfl tie noOwnUnsafe
theorem fnPageCanonicalUpto_row_tie : Rows.fnPageCanonicalUptoRow.laidByTextAt .later Tryd.pinned [.sentinel, .sentinel, .sentinel] true :=
  OpenClaim.laidByTextAt_later rfl rfl tie noOwnUnsafe
theorem fnPageCheckUpto_row_tie : Rows.fnPageCheckUptoRow.laidByTextAt .later Tryd.pinned [.sentinel, .sentinel, .sentinel] true :=
  OpenClaim.laidByTextAt_later rfl rfl tie noOwnUnsafe
end Go.Proofs.YtnkflplbeagljabDoor
