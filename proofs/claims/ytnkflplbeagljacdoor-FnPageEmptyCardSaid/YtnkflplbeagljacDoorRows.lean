/-
  NARROWER THAN 'FOR EVERY INPUT', by the rows' own cells (each row's printed sentence says how): FnPageShort: ifaces, laid · FnPageEmpty: ifaces, laid · FnExactParsePage: ifaces, laid.
  DERIVED. THE GIVEN ROWS OF THIS SEAT. 3 by the template 'for every input the law returns true; each argument reads behind the call as it read before'; 0 by the template 'total and deterministic' (their statements: YtnkflplbeagljacDoorTotals.lean).
  GIVEN WITH THE SEED: the statements are not yours to turn. If you find one false, say at which input.
  Laid BY PROGRAM, IN A SANDBOX (cutbox-rows.mjs): the forced cells as the released guide's own fill.sh prints them over the translation 9ce0245264d4721e… (all of the seat's roots in one cut). By AI agents, Wed Nov 11 2026. No macro, syntax, notation, axiom, sorry.
-/
import Derived.Test.YtnkflplbeagljacDoorChecked
import GoSem.Claim
import GoSem.ClaimJoined
import GoSem.ClaimMapViews
import Derived.JoinedTies
import Derived.KernelRfl
namespace Go.Proofs.YtnkflplbeagljacDoor
/- THE CELL 'sum', in the pinned program and in every row, IS THE sha256 OF THE DUMP (.gsa) THAT YtnkflplbeagljacDoorProg.lean LOADS. Nothing in Lean hashes anything: it is a label: what it is worth is what the hold of that sum in a sandbox is worth. -/
noncomputable def Tryd.pinned : Pinned := { name := "ytnkflplbeagljacdoor", sum := "9ce0245264d4721e467cd020fe865850ba345c7bf27e4022ae166863e6c4e673", checked := Tryd.checked }
namespace Rows
def none {H : Type} : Left H := { results := [], args := [] }

/- WHAT THE LISTED PACKAGE-LEVEL VARIABLES READ AS WHEN THE CALL BEGINS. Each datum BY PROGRAM (the guide's laid-datum.mjs) off the statement by which the dump's own 'gosem.cut.vars' lays the variable. In a bare row this is a premise. The card (YtnkflplbeagljacDoorCards.lean) ties it to the program's text. -/
def laid_loop_example_vectorstore_impl_errShortPage {H : Type} : DataW H := .iface "*errors.errorString" (.ptr (.agg [.lit (.string [116, 104, 101, 32, 112, 97, 103, 101, 32, 105, 115, 32, 116, 111, 111, 32, 115, 104, 111, 114, 116])]))
def laid_loop_example_vectorstore_impl_errWrongCheck {H : Type} : DataW H := .iface "*errors.errorString" (.ptr (.agg [.lit (.string [116, 104, 101, 32, 112, 97, 103, 101, 32, 104, 97, 115, 32, 97, 32, 119, 114, 111, 110, 103, 32, 99, 104, 101, 99, 107, 115, 117, 109])]))
def laid_loop_example_vectorstore_impl_errLongPage {H : Type} : DataW H := .iface "*errors.errorString" (.ptr (.agg [.lit (.string [116, 104, 101, 32, 112, 97, 103, 101, 32, 105, 115, 32, 116, 111, 111, 32, 108, 111, 110, 103])]))

/-- 'laws.FnPageShort': WHATEVER THE INPUT: true; the input reads as it did. -/
def fnPageShortSpec : ChangeSpec := { name := "fnPageShort", vars := ["loop.example/vectorstore/impl.errShortPage", "loop.example/vectorstore/impl.errWrongCheck", "loop.example/vectorstore/impl.errLongPage"], fn := fun _ => fun
  | [d, g1, g2, g3] => { results := [.lit (.bool true)], args := [d], vars := [g1, g2, g3] }
  | _ => none }
def fnPageShortRow : OpenClaim := { program := "ytnkflplbeagljacdoor", sum := "9ce0245264d4721e467cd020fe865850ba345c7bf27e4022ae166863e6c4e673", func := "loop.example/vectorstore/laws.FnPageShort", spec := "fnPageShort", named := ["loop.example/vectorstore/impl.errShortPage", "loop.example/vectorstore/impl.errWrongCheck", "loop.example/vectorstore/impl.errLongPage"], ifaces := true, apart := false, laid := [("loop.example/vectorstore/impl.errShortPage", laid_loop_example_vectorstore_impl_errShortPage), ("loop.example/vectorstore/impl.errWrongCheck", laid_loop_example_vectorstore_impl_errWrongCheck), ("loop.example/vectorstore/impl.errLongPage", laid_loop_example_vectorstore_impl_errLongPage)] }
def FnPageShortSaid : Prop := fnPageShortRow.holds Tryd.pinned (OpenSpec.ofChange fnPageShortSpec)

/-- ITS FALSE NEIGHBOUR: 'it returns false'. Refute it at one input. -/
def fnPageShortWrong : ChangeSpec := { name := "fnPageShort", vars := ["loop.example/vectorstore/impl.errShortPage", "loop.example/vectorstore/impl.errWrongCheck", "loop.example/vectorstore/impl.errLongPage"], fn := fun _ => fun
  | [d, g1, g2, g3] => { results := [.lit (.bool false)], args := [d], vars := [g1, g2, g3] }
  | _ => none }
def FnPageShortWrongFalsely : Prop := fnPageShortRow.holds Tryd.pinned (OpenSpec.ofChange fnPageShortWrong)

/-- 'laws.FnPageEmpty': WHATEVER THE INPUT: true; the input reads as it did. -/
def fnPageEmptySpec : ChangeSpec := { name := "fnPageEmpty", vars := ["loop.example/vectorstore/impl.errShortPage", "loop.example/vectorstore/impl.errWrongCheck", "loop.example/vectorstore/impl.errLongPage"], fn := fun _ => fun
  | [d, g1, g2, g3] => { results := [.lit (.bool true)], args := [d], vars := [g1, g2, g3] }
  | _ => none }
def fnPageEmptyRow : OpenClaim := { program := "ytnkflplbeagljacdoor", sum := "9ce0245264d4721e467cd020fe865850ba345c7bf27e4022ae166863e6c4e673", func := "loop.example/vectorstore/laws.FnPageEmpty", spec := "fnPageEmpty", named := ["loop.example/vectorstore/impl.errShortPage", "loop.example/vectorstore/impl.errWrongCheck", "loop.example/vectorstore/impl.errLongPage"], ifaces := true, apart := false, laid := [("loop.example/vectorstore/impl.errShortPage", laid_loop_example_vectorstore_impl_errShortPage), ("loop.example/vectorstore/impl.errWrongCheck", laid_loop_example_vectorstore_impl_errWrongCheck), ("loop.example/vectorstore/impl.errLongPage", laid_loop_example_vectorstore_impl_errLongPage)] }
def FnPageEmptySaid : Prop := fnPageEmptyRow.holds Tryd.pinned (OpenSpec.ofChange fnPageEmptySpec)

/-- ITS FALSE NEIGHBOUR: 'it returns false'. Refute it at one input. -/
def fnPageEmptyWrong : ChangeSpec := { name := "fnPageEmpty", vars := ["loop.example/vectorstore/impl.errShortPage", "loop.example/vectorstore/impl.errWrongCheck", "loop.example/vectorstore/impl.errLongPage"], fn := fun _ => fun
  | [d, g1, g2, g3] => { results := [.lit (.bool false)], args := [d], vars := [g1, g2, g3] }
  | _ => none }
def FnPageEmptyWrongFalsely : Prop := fnPageEmptyRow.holds Tryd.pinned (OpenSpec.ofChange fnPageEmptyWrong)

/-- 'laws.FnExactParsePage': WHATEVER THE INPUT: true; the input reads as it did. -/
def fnExactParsePageSpec : ChangeSpec := { name := "fnExactParsePage", vars := ["loop.example/vectorstore/impl.errShortPage", "loop.example/vectorstore/impl.errWrongCheck", "loop.example/vectorstore/impl.errLongPage"], fn := fun _ => fun
  | [d, g1, g2, g3] => { results := [.lit (.bool true)], args := [d], vars := [g1, g2, g3] }
  | _ => none }
def fnExactParsePageRow : OpenClaim := { program := "ytnkflplbeagljacdoor", sum := "9ce0245264d4721e467cd020fe865850ba345c7bf27e4022ae166863e6c4e673", func := "loop.example/vectorstore/laws.FnExactParsePage", spec := "fnExactParsePage", named := ["loop.example/vectorstore/impl.errShortPage", "loop.example/vectorstore/impl.errWrongCheck", "loop.example/vectorstore/impl.errLongPage"], ifaces := true, apart := false, laid := [("loop.example/vectorstore/impl.errShortPage", laid_loop_example_vectorstore_impl_errShortPage), ("loop.example/vectorstore/impl.errWrongCheck", laid_loop_example_vectorstore_impl_errWrongCheck), ("loop.example/vectorstore/impl.errLongPage", laid_loop_example_vectorstore_impl_errLongPage)] }
def FnExactParsePageSaid : Prop := fnExactParsePageRow.holds Tryd.pinned (OpenSpec.ofChange fnExactParsePageSpec)

/-- ITS FALSE NEIGHBOUR: 'it returns false'. Refute it at one input. -/
def fnExactParsePageWrong : ChangeSpec := { name := "fnExactParsePage", vars := ["loop.example/vectorstore/impl.errShortPage", "loop.example/vectorstore/impl.errWrongCheck", "loop.example/vectorstore/impl.errLongPage"], fn := fun _ => fun
  | [d, g1, g2, g3] => { results := [.lit (.bool false)], args := [d], vars := [g1, g2, g3] }
  | _ => none }
def FnExactParsePageWrongFalsely : Prop := fnExactParsePageRow.holds Tryd.pinned (OpenSpec.ofChange fnExactParsePageWrong)

/- THE SECOND FORM. 'bulk': how many values and letters a reading holds, each counted each time it is reached (what is shared counts as often as it is met; a slice's spare places count too). A statement '..UptoSaid' is the law's where the arguments, and the package variables that the reading takes, are together of bulk at most 1048576: NARROWER than '..Said'. Prove '..Said' where nothing that the law and all that it calls make is longer than what came in: it says more and counts as full. Else prove '..UptoSaid'. A law counts once. -/
mutual
def uptoBulk {H : Type} : DataW H → Nat
  | .lit (.string bytes) => bytes.length + 1
  | .lit _ => 1
  | .nil => 1
  | .ptr d => uptoBulk d + 1
  | .slice elems spare => uptoBulkAll elems + uptoBulkAll spare + 1
  | .agg parts => uptoBulkAll parts + 1
  | .iface _ d => uptoBulk d + 1
  | .map entries => uptoBulkEntries entries + 1
  | .held _ => 1
def uptoBulkAll {H : Type} : List (DataW H) → Nat
  | [] => 0
  | d :: r => uptoBulk d + uptoBulkAll r
def uptoBulkEntries {H : Type} : List (Lit × DataW H) → Nat
  | [] => 0
  | x :: r => uptoBulkEntry x + uptoBulkEntries r
def uptoBulkEntry {H : Type} : Lit × DataW H → Nat
  | (.string bytes, d) => bytes.length + uptoBulk d + 1
  | (_, d) => uptoBulk d + 1
 end
def uptoSmall : (H : Type) → List (DataW H) → Bool := fun _ ds => decide (uptoBulkAll ds ≤ 1048576)
def OpenSpec.upto (s : _root_.Go.ChangeSpec) : _root_.Go.OpenSpec := { _root_.Go.OpenSpec.ofChange s with cond := some uptoSmall }

/-- 'laws.FnPageShort', WHERE WHAT IT READS IS OF BULK AT MOST 1048576: true; the input reads as it did. -/
def fnPageShortUptoRow : OpenClaim := { program := "ytnkflplbeagljacdoor", sum := "9ce0245264d4721e467cd020fe865850ba345c7bf27e4022ae166863e6c4e673", func := "loop.example/vectorstore/laws.FnPageShort", spec := "fnPageShort", named := ["loop.example/vectorstore/impl.errShortPage", "loop.example/vectorstore/impl.errWrongCheck", "loop.example/vectorstore/impl.errLongPage"], ifaces := true, apart := false, laid := [("loop.example/vectorstore/impl.errShortPage", laid_loop_example_vectorstore_impl_errShortPage), ("loop.example/vectorstore/impl.errWrongCheck", laid_loop_example_vectorstore_impl_errWrongCheck), ("loop.example/vectorstore/impl.errLongPage", laid_loop_example_vectorstore_impl_errLongPage)], narrowed := true }
def FnPageShortUptoSaid : Prop := fnPageShortUptoRow.holds Tryd.pinned (OpenSpec.upto fnPageShortSpec)

/-- 'laws.FnPageEmpty', WHERE WHAT IT READS IS OF BULK AT MOST 1048576: true; the input reads as it did. -/
def fnPageEmptyUptoRow : OpenClaim := { program := "ytnkflplbeagljacdoor", sum := "9ce0245264d4721e467cd020fe865850ba345c7bf27e4022ae166863e6c4e673", func := "loop.example/vectorstore/laws.FnPageEmpty", spec := "fnPageEmpty", named := ["loop.example/vectorstore/impl.errShortPage", "loop.example/vectorstore/impl.errWrongCheck", "loop.example/vectorstore/impl.errLongPage"], ifaces := true, apart := false, laid := [("loop.example/vectorstore/impl.errShortPage", laid_loop_example_vectorstore_impl_errShortPage), ("loop.example/vectorstore/impl.errWrongCheck", laid_loop_example_vectorstore_impl_errWrongCheck), ("loop.example/vectorstore/impl.errLongPage", laid_loop_example_vectorstore_impl_errLongPage)], narrowed := true }
def FnPageEmptyUptoSaid : Prop := fnPageEmptyUptoRow.holds Tryd.pinned (OpenSpec.upto fnPageEmptySpec)

/-- 'laws.FnExactParsePage', WHERE WHAT IT READS IS OF BULK AT MOST 1048576: true; the input reads as it did. -/
def fnExactParsePageUptoRow : OpenClaim := { program := "ytnkflplbeagljacdoor", sum := "9ce0245264d4721e467cd020fe865850ba345c7bf27e4022ae166863e6c4e673", func := "loop.example/vectorstore/laws.FnExactParsePage", spec := "fnExactParsePage", named := ["loop.example/vectorstore/impl.errShortPage", "loop.example/vectorstore/impl.errWrongCheck", "loop.example/vectorstore/impl.errLongPage"], ifaces := true, apart := false, laid := [("loop.example/vectorstore/impl.errShortPage", laid_loop_example_vectorstore_impl_errShortPage), ("loop.example/vectorstore/impl.errWrongCheck", laid_loop_example_vectorstore_impl_errWrongCheck), ("loop.example/vectorstore/impl.errLongPage", laid_loop_example_vectorstore_impl_errLongPage)], narrowed := true }
def FnExactParsePageUptoSaid : Prop := fnExactParsePageUptoRow.holds Tryd.pinned (OpenSpec.upto fnExactParsePageSpec)

end Rows
end Go.Proofs.YtnkflplbeagljacDoor
