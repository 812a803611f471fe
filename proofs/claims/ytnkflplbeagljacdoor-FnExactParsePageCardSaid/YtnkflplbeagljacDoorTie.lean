/-
  DERIVED. GIVEN WITH THE SEED: THE PROGRAM's TIES (one call each: nine closed facts by the kernel) AND EACH ROW's TIE, after the 31st guide's Derived/Test/Toyas{Tie, Card}.lean. No idea stands in it: it is a product of the set-up. Laid BY PROGRAM, IN A SANDBOX (cutbox-door.mjs). By AI agents, Wed Nov 11 2026. No macro, syntax, notation, axiom, sorry.
-/
import Derived.Test.YtnkflplbeagljacDoorRows
import Derived.LaidByTextLater
import Derived.SevenTiedAt
import Derived.LaidSub
import Derived.LaidOnce
namespace Go.Proofs.YtnkflplbeagljacDoor
open Go
set_option maxRecDepth 100000
theorem seatTie1 : Tryd.prog.laidByTextLater [("loop.example/vectorstore/impl.errShortPage", Rows.laid_loop_example_vectorstore_impl_errShortPage), ("loop.example/vectorstore/impl.errWrongCheck", Rows.laid_loop_example_vectorstore_impl_errWrongCheck), ("loop.example/vectorstore/impl.errLongPage", Rows.laid_loop_example_vectorstore_impl_errLongPage)] [.sentinel, .sentinel, .sentinel] true :=
  Program.laidByTextLater_by_one 66 8 2 (by kernel_rfl) (by kernel_rfl) (by kernel_rfl) (by kernel_rfl) (by kernel_rfl) (by kernel_rfl) (fun _ _ => by kernel_rfl)
theorem noOwnUnsafe : Tryd.pinned.checked.prog.headLifts.contains "ownunsafe" = false := by kernel_rfl
theorem tie : Tryd.prog.laidByTextLater [("loop.example/vectorstore/impl.errShortPage", Rows.laid_loop_example_vectorstore_impl_errShortPage), ("loop.example/vectorstore/impl.errWrongCheck", Rows.laid_loop_example_vectorstore_impl_errWrongCheck), ("loop.example/vectorstore/impl.errLongPage", Rows.laid_loop_example_vectorstore_impl_errLongPage)] [.sentinel, .sentinel, .sentinel] true :=
  Program.laidByTextLater.sub seatTie1 ["loop.example/vectorstore/impl.errShortPage", "loop.example/vectorstore/impl.errWrongCheck", "loop.example/vectorstore/impl.errLongPage"] (by kernel_rfl) (by kernel_rfl)
theorem fnPageShort_row_tie : Rows.fnPageShortRow.laidByTextAt .later Tryd.pinned [.sentinel, .sentinel, .sentinel] true :=
  OpenClaim.laidByTextAt_later rfl rfl tie noOwnUnsafe
theorem fnPageEmpty_row_tie : Rows.fnPageEmptyRow.laidByTextAt .later Tryd.pinned [.sentinel, .sentinel, .sentinel] true :=
  OpenClaim.laidByTextAt_later rfl rfl tie noOwnUnsafe
theorem fnExactParsePage_row_tie : Rows.fnExactParsePageRow.laidByTextAt .later Tryd.pinned [.sentinel, .sentinel, .sentinel] true :=
  OpenClaim.laidByTextAt_later rfl rfl tie noOwnUnsafe
theorem fnPageShortUpto_row_tie : Rows.fnPageShortUptoRow.laidByTextAt .later Tryd.pinned [.sentinel, .sentinel, .sentinel] true :=
  OpenClaim.laidByTextAt_later rfl rfl tie noOwnUnsafe
theorem fnPageEmptyUpto_row_tie : Rows.fnPageEmptyUptoRow.laidByTextAt .later Tryd.pinned [.sentinel, .sentinel, .sentinel] true :=
  OpenClaim.laidByTextAt_later rfl rfl tie noOwnUnsafe
theorem fnExactParsePageUpto_row_tie : Rows.fnExactParsePageUptoRow.laidByTextAt .later Tryd.pinned [.sentinel, .sentinel, .sentinel] true :=
  OpenClaim.laidByTextAt_later rfl rfl tie noOwnUnsafe
end Go.Proofs.YtnkflplbeagljacDoor
