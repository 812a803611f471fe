/-
  No cell of these rows narrows 'for every input' (looked for: loops, veiled, ifaces, maps, wideKeys, modest, calm, conditions, laid).
  DERIVED. THE GIVEN ROWS OF THIS SEAT. 10 by the template 'for every input the law returns true; each argument reads behind the call as it read before'; 0 by the template 'total and deterministic' (their statements: YtdjjikmfkejdiabTotals.lean).
  GIVEN WITH THE SEED: the statements are not yours to turn. If you find one false, say at which input.
  Laid BY PROGRAM, IN A SANDBOX (cutbox-rows.mjs): the forced cells as the released guide's own fill.sh prints them over the translation 5adfec715d54dd07… (all of the seat's roots in one cut). By AI agents, Wed Nov 11 2026. No macro, syntax, notation, axiom, sorry.
-/
import Derived.Test.YtdjjikmfkejdiabChecked
import GoSem.Claim
import GoSem.ClaimJoined
import GoSem.ClaimMapViews
import Derived.JoinedTies
import Derived.KernelRfl
namespace Go.Proofs.Ytdjjikmfkejdiab
/- THE CELL 'sum', in the pinned program and in every row, IS THE sha256 OF THE DUMP (.gsa) THAT YtdjjikmfkejdiabProg.lean LOADS. Nothing in Lean hashes anything: it is a label: what it is worth is what the hold of that sum in a sandbox is worth. -/
noncomputable def Try.pinned : Pinned := { name := "ytdjjikmfkejdiab", sum := "5adfec715d54dd07514e0624857989b5247bdde4cc591d5929d3182b31df1908", checked := Try.checked }
namespace Rows
def none {H : Type} : Left H := { results := [], args := [] }

/-- 'laws.FnTreeVisitsAll': WHATEVER THE INPUT: true; the input reads as it did. -/
def fnTreeVisitsAllSpec : ChangeSpec := { name := "fnTreeVisitsAll", fn := fun _ => fun
  | [d] => { results := [.lit (.bool true)], args := [d] }
  | _ => none }
def fnTreeVisitsAllRow : OpenClaim := { program := "ytdjjikmfkejdiab", sum := "5adfec715d54dd07514e0624857989b5247bdde4cc591d5929d3182b31df1908", func := "loop.example/vectorstore/laws.FnTreeVisitsAll", spec := "fnTreeVisitsAll", unfollowed := true, recurses := true, apart := false }
def FnTreeVisitsAllSaid : Prop := fnTreeVisitsAllRow.holds Try.pinned (OpenSpec.ofChange fnTreeVisitsAllSpec)

/-- ITS FALSE NEIGHBOUR: 'it returns false'. Refute it at one input. -/
def fnTreeVisitsAllWrong : ChangeSpec := { name := "fnTreeVisitsAll", fn := fun _ => fun
  | [d] => { results := [.lit (.bool false)], args := [d] }
  | _ => none }
def FnTreeVisitsAllWrongFalsely : Prop := fnTreeVisitsAllRow.holds Try.pinned (OpenSpec.ofChange fnTreeVisitsAllWrong)

/-- 'laws.FnValidCentres': WHATEVER THE INPUT: true; the input reads as it did. -/
def fnValidCentresSpec : ChangeSpec := { name := "fnValidCentres", fn := fun _ => fun
  | [d] => { results := [.lit (.bool true)], args := [d] }
  | _ => none }
def fnValidCentresRow : OpenClaim := { program := "ytdjjikmfkejdiab", sum := "5adfec715d54dd07514e0624857989b5247bdde4cc591d5929d3182b31df1908", func := "loop.example/vectorstore/laws.FnValidCentres", spec := "fnValidCentres", apart := false }
def FnValidCentresSaid : Prop := fnValidCentresRow.holds Try.pinned (OpenSpec.ofChange fnValidCentresSpec)

/-- ITS FALSE NEIGHBOUR: 'it returns false'. Refute it at one input. -/
def fnValidCentresWrong : ChangeSpec := { name := "fnValidCentres", fn := fun _ => fun
  | [d] => { results := [.lit (.bool false)], args := [d] }
  | _ => none }
def FnValidCentresWrongFalsely : Prop := fnValidCentresRow.holds Try.pinned (OpenSpec.ofChange fnValidCentresWrong)

/-- 'laws.FnCentreOf': WHATEVER THE INPUT: true; the input reads as it did. -/
def fnCentreOfSpec : ChangeSpec := { name := "fnCentreOf", fn := fun _ => fun
  | [d] => { results := [.lit (.bool true)], args := [d] }
  | _ => none }
def fnCentreOfRow : OpenClaim := { program := "ytdjjikmfkejdiab", sum := "5adfec715d54dd07514e0624857989b5247bdde4cc591d5929d3182b31df1908", func := "loop.example/vectorstore/laws.FnCentreOf", spec := "fnCentreOf", apart := false }
def FnCentreOfSaid : Prop := fnCentreOfRow.holds Try.pinned (OpenSpec.ofChange fnCentreOfSpec)

/-- ITS FALSE NEIGHBOUR: 'it returns false'. Refute it at one input. -/
def fnCentreOfWrong : ChangeSpec := { name := "fnCentreOf", fn := fun _ => fun
  | [d] => { results := [.lit (.bool false)], args := [d] }
  | _ => none }
def FnCentreOfWrongFalsely : Prop := fnCentreOfRow.holds Try.pinned (OpenSpec.ofChange fnCentreOfWrong)

/-- 'laws.FnCentreOfOwn': WHATEVER THE INPUT: true; the input reads as it did. -/
def fnCentreOfOwnSpec : ChangeSpec := { name := "fnCentreOfOwn", fn := fun _ => fun
  | [d] => { results := [.lit (.bool true)], args := [d] }
  | _ => none }
def fnCentreOfOwnRow : OpenClaim := { program := "ytdjjikmfkejdiab", sum := "5adfec715d54dd07514e0624857989b5247bdde4cc591d5929d3182b31df1908", func := "loop.example/vectorstore/laws.FnCentreOfOwn", spec := "fnCentreOfOwn", apart := false }
def FnCentreOfOwnSaid : Prop := fnCentreOfOwnRow.holds Try.pinned (OpenSpec.ofChange fnCentreOfOwnSpec)

/-- ITS FALSE NEIGHBOUR: 'it returns false'. Refute it at one input. -/
def fnCentreOfOwnWrong : ChangeSpec := { name := "fnCentreOfOwn", fn := fun _ => fun
  | [d] => { results := [.lit (.bool false)], args := [d] }
  | _ => none }
def FnCentreOfOwnWrongFalsely : Prop := fnCentreOfOwnRow.holds Try.pinned (OpenSpec.ofChange fnCentreOfOwnWrong)

/-- 'laws.FnAssignItems': WHATEVER THE INPUT: true; the input reads as it did. -/
def fnAssignItemsSpec : ChangeSpec := { name := "fnAssignItems", fn := fun _ => fun
  | [d] => { results := [.lit (.bool true)], args := [d] }
  | _ => none }
def fnAssignItemsRow : OpenClaim := { program := "ytdjjikmfkejdiab", sum := "5adfec715d54dd07514e0624857989b5247bdde4cc591d5929d3182b31df1908", func := "loop.example/vectorstore/laws.FnAssignItems", spec := "fnAssignItems", apart := false }
def FnAssignItemsSaid : Prop := fnAssignItemsRow.holds Try.pinned (OpenSpec.ofChange fnAssignItemsSpec)

/-- ITS FALSE NEIGHBOUR: 'it returns false'. Refute it at one input. -/
def fnAssignItemsWrong : ChangeSpec := { name := "fnAssignItems", fn := fun _ => fun
  | [d] => { results := [.lit (.bool false)], args := [d] }
  | _ => none }
def FnAssignItemsWrongFalsely : Prop := fnAssignItemsRow.holds Try.pinned (OpenSpec.ofChange fnAssignItemsWrong)

/-- 'laws.FnAssignItemsOne': WHATEVER THE INPUT: true; the input reads as it did. -/
def fnAssignItemsOneSpec : ChangeSpec := { name := "fnAssignItemsOne", fn := fun _ => fun
  | [d] => { results := [.lit (.bool true)], args := [d] }
  | _ => none }
def fnAssignItemsOneRow : OpenClaim := { program := "ytdjjikmfkejdiab", sum := "5adfec715d54dd07514e0624857989b5247bdde4cc591d5929d3182b31df1908", func := "loop.example/vectorstore/laws.FnAssignItemsOne", spec := "fnAssignItemsOne", apart := false }
def FnAssignItemsOneSaid : Prop := fnAssignItemsOneRow.holds Try.pinned (OpenSpec.ofChange fnAssignItemsOneSpec)

/-- ITS FALSE NEIGHBOUR: 'it returns false'. Refute it at one input. -/
def fnAssignItemsOneWrong : ChangeSpec := { name := "fnAssignItemsOne", fn := fun _ => fun
  | [d] => { results := [.lit (.bool false)], args := [d] }
  | _ => none }
def FnAssignItemsOneWrongFalsely : Prop := fnAssignItemsOneRow.holds Try.pinned (OpenSpec.ofChange fnAssignItemsOneWrong)

/-- 'laws.FnMoveCentres': WHATEVER THE INPUT: true; the input reads as it did. -/
def fnMoveCentresSpec : ChangeSpec := { name := "fnMoveCentres", fn := fun _ => fun
  | [d] => { results := [.lit (.bool true)], args := [d] }
  | _ => none }
def fnMoveCentresRow : OpenClaim := { program := "ytdjjikmfkejdiab", sum := "5adfec715d54dd07514e0624857989b5247bdde4cc591d5929d3182b31df1908", func := "loop.example/vectorstore/laws.FnMoveCentres", spec := "fnMoveCentres", apart := false }
def FnMoveCentresSaid : Prop := fnMoveCentresRow.holds Try.pinned (OpenSpec.ofChange fnMoveCentresSpec)

/-- ITS FALSE NEIGHBOUR: 'it returns false'. Refute it at one input. -/
def fnMoveCentresWrong : ChangeSpec := { name := "fnMoveCentres", fn := fun _ => fun
  | [d] => { results := [.lit (.bool false)], args := [d] }
  | _ => none }
def FnMoveCentresWrongFalsely : Prop := fnMoveCentresRow.holds Try.pinned (OpenSpec.ofChange fnMoveCentresWrong)

/-- 'laws.FnMoveCentresAlone': WHATEVER THE INPUT: true; the input reads as it did. -/
def fnMoveCentresAloneSpec : ChangeSpec := { name := "fnMoveCentresAlone", fn := fun _ => fun
  | [d] => { results := [.lit (.bool true)], args := [d] }
  | _ => none }
def fnMoveCentresAloneRow : OpenClaim := { program := "ytdjjikmfkejdiab", sum := "5adfec715d54dd07514e0624857989b5247bdde4cc591d5929d3182b31df1908", func := "loop.example/vectorstore/laws.FnMoveCentresAlone", spec := "fnMoveCentresAlone", apart := false }
def FnMoveCentresAloneSaid : Prop := fnMoveCentresAloneRow.holds Try.pinned (OpenSpec.ofChange fnMoveCentresAloneSpec)

/-- ITS FALSE NEIGHBOUR: 'it returns false'. Refute it at one input. -/
def fnMoveCentresAloneWrong : ChangeSpec := { name := "fnMoveCentresAlone", fn := fun _ => fun
  | [d] => { results := [.lit (.bool false)], args := [d] }
  | _ => none }
def FnMoveCentresAloneWrongFalsely : Prop := fnMoveCentresAloneRow.holds Try.pinned (OpenSpec.ofChange fnMoveCentresAloneWrong)

/-- 'laws.FnSettleCentres': WHATEVER THE INPUT: true; the input reads as it did. -/
def fnSettleCentresSpec : ChangeSpec := { name := "fnSettleCentres", fn := fun _ => fun
  | [d] => { results := [.lit (.bool true)], args := [d] }
  | _ => none }
def fnSettleCentresRow : OpenClaim := { program := "ytdjjikmfkejdiab", sum := "5adfec715d54dd07514e0624857989b5247bdde4cc591d5929d3182b31df1908", func := "loop.example/vectorstore/laws.FnSettleCentres", spec := "fnSettleCentres", unfollowed := true, recurses := true, apart := false }
def FnSettleCentresSaid : Prop := fnSettleCentresRow.holds Try.pinned (OpenSpec.ofChange fnSettleCentresSpec)

/-- ITS FALSE NEIGHBOUR: 'it returns false'. Refute it at one input. -/
def fnSettleCentresWrong : ChangeSpec := { name := "fnSettleCentres", fn := fun _ => fun
  | [d] => { results := [.lit (.bool false)], args := [d] }
  | _ => none }
def FnSettleCentresWrongFalsely : Prop := fnSettleCentresRow.holds Try.pinned (OpenSpec.ofChange fnSettleCentresWrong)

/-- 'laws.FnSettleCentresStep': WHATEVER THE INPUT: true; the input reads as it did. -/
def fnSettleCentresStepSpec : ChangeSpec := { name := "fnSettleCentresStep", fn := fun _ => fun
  | [d] => { results := [.lit (.bool true)], args := [d] }
  | _ => none }
def fnSettleCentresStepRow : OpenClaim := { program := "ytdjjikmfkejdiab", sum := "5adfec715d54dd07514e0624857989b5247bdde4cc591d5929d3182b31df1908", func := "loop.example/vectorstore/laws.FnSettleCentresStep", spec := "fnSettleCentresStep", unfollowed := true, recurses := true, apart := false }
def FnSettleCentresStepSaid : Prop := fnSettleCentresStepRow.holds Try.pinned (OpenSpec.ofChange fnSettleCentresStepSpec)

/-- ITS FALSE NEIGHBOUR: 'it returns false'. Refute it at one input. -/
def fnSettleCentresStepWrong : ChangeSpec := { name := "fnSettleCentresStep", fn := fun _ => fun
  | [d] => { results := [.lit (.bool false)], args := [d] }
  | _ => none }
def FnSettleCentresStepWrongFalsely : Prop := fnSettleCentresStepRow.holds Try.pinned (OpenSpec.ofChange fnSettleCentresStepWrong)

/- THE SECOND FORM. 'bulk': how many values and letters a reading holds, each counted each time it is reached (what is shared counts as often as it is met; a slice's spare places count too). A statement '..UptoSaid' is the law's where the arguments, and the package variables that the reading takes, are together of bulk at most 1048576: NARROWER than '..Said'. Prove '..Said' where nothing that the law and all that it calls make is longer than what came in: it says more and counts as full. Else prove '..UptoSaid'. A law counts once. -/
mutual
def uptoBulk {H : Type} : DataW H → Nat
  | .lit (.string bytes) => bytes.length + 1
  | .lit _ => 1
  | .nil => 1
  | .ptr d => uptoBulk d + 1
  | .slice elems spare => uptoBulkAll elems + uptoBulkAll spare + 1
  | .agg parts => uptoBulkAll parts + 1
  | .iface _ d => uptoBulk d + 1
  | .map entries => uptoBulkEntries entries + 1
  | .held _ => 1
def uptoBulkAll {H : Type} : List (DataW H) → Nat
  | [] => 0
  | d :: r => uptoBulk d + uptoBulkAll r
def uptoBulkEntries {H : Type} : List (Lit × DataW H) → Nat
  | [] => 0
  | x :: r => uptoBulkEntry x + uptoBulkEntries r
def uptoBulkEntry {H : Type} : Lit × DataW H → Nat
  | (.string bytes, d) => bytes.length + uptoBulk d + 1
  | (_, d) => uptoBulk d + 1
 end
def uptoSmall : (H : Type) → List (DataW H) → Bool := fun _ ds => decide (uptoBulkAll ds ≤ 1048576)
def OpenSpec.upto (s : _root_.Go.ChangeSpec) : _root_.Go.OpenSpec := { _root_.Go.OpenSpec.ofChange s with cond := some uptoSmall }

/-- 'laws.FnTreeVisitsAll', WHERE WHAT IT READS IS OF BULK AT MOST 1048576: true; the input reads as it did. -/
def fnTreeVisitsAllUptoRow : OpenClaim := { program := "ytdjjikmfkejdiab", sum := "5adfec715d54dd07514e0624857989b5247bdde4cc591d5929d3182b31df1908", func := "loop.example/vectorstore/laws.FnTreeVisitsAll", spec := "fnTreeVisitsAll", unfollowed := true, recurses := true, apart := false, narrowed := true }
def FnTreeVisitsAllUptoSaid : Prop := fnTreeVisitsAllUptoRow.holds Try.pinned (OpenSpec.upto fnTreeVisitsAllSpec)

/-- 'laws.FnValidCentres', WHERE WHAT IT READS IS OF BULK AT MOST 1048576: true; the input reads as it did. -/
def fnValidCentresUptoRow : OpenClaim := { program := "ytdjjikmfkejdiab", sum := "5adfec715d54dd07514e0624857989b5247bdde4cc591d5929d3182b31df1908", func := "loop.example/vectorstore/laws.FnValidCentres", spec := "fnValidCentres", apart := false, narrowed := true }
def FnValidCentresUptoSaid : Prop := fnValidCentresUptoRow.holds Try.pinned (OpenSpec.upto fnValidCentresSpec)

/-- 'laws.FnCentreOf', WHERE WHAT IT READS IS OF BULK AT MOST 1048576: true; the input reads as it did. -/
def fnCentreOfUptoRow : OpenClaim := { program := "ytdjjikmfkejdiab", sum := "5adfec715d54dd07514e0624857989b5247bdde4cc591d5929d3182b31df1908", func := "loop.example/vectorstore/laws.FnCentreOf", spec := "fnCentreOf", apart := false, narrowed := true }
def FnCentreOfUptoSaid : Prop := fnCentreOfUptoRow.holds Try.pinned (OpenSpec.upto fnCentreOfSpec)

/-- 'laws.FnCentreOfOwn', WHERE WHAT IT READS IS OF BULK AT MOST 1048576: true; the input reads as it did. -/
def fnCentreOfOwnUptoRow : OpenClaim := { program := "ytdjjikmfkejdiab", sum := "5adfec715d54dd07514e0624857989b5247bdde4cc591d5929d3182b31df1908", func := "loop.example/vectorstore/laws.FnCentreOfOwn", spec := "fnCentreOfOwn", apart := false, narrowed := true }
def FnCentreOfOwnUptoSaid : Prop := fnCentreOfOwnUptoRow.holds Try.pinned (OpenSpec.upto fnCentreOfOwnSpec)

/-- 'laws.FnAssignItems', WHERE WHAT IT READS IS OF BULK AT MOST 1048576: true; the input reads as it did. -/
def fnAssignItemsUptoRow : OpenClaim := { program := "ytdjjikmfkejdiab", sum := "5adfec715d54dd07514e0624857989b5247bdde4cc591d5929d3182b31df1908", func := "loop.example/vectorstore/laws.FnAssignItems", spec := "fnAssignItems", apart := false, narrowed := true }
def FnAssignItemsUptoSaid : Prop := fnAssignItemsUptoRow.holds Try.pinned (OpenSpec.upto fnAssignItemsSpec)

/-- 'laws.FnAssignItemsOne', WHERE WHAT IT READS IS OF BULK AT MOST 1048576: true; the input reads as it did. -/
def fnAssignItemsOneUptoRow : OpenClaim := { program := "ytdjjikmfkejdiab", sum := "5adfec715d54dd07514e0624857989b5247bdde4cc591d5929d3182b31df1908", func := "loop.example/vectorstore/laws.FnAssignItemsOne", spec := "fnAssignItemsOne", apart := false, narrowed := true }
def FnAssignItemsOneUptoSaid : Prop := fnAssignItemsOneUptoRow.holds Try.pinned (OpenSpec.upto fnAssignItemsOneSpec)

/-- 'laws.FnMoveCentres', WHERE WHAT IT READS IS OF BULK AT MOST 1048576: true; the input reads as it did. -/
def fnMoveCentresUptoRow : OpenClaim := { program := "ytdjjikmfkejdiab", sum := "5adfec715d54dd07514e0624857989b5247bdde4cc591d5929d3182b31df1908", func := "loop.example/vectorstore/laws.FnMoveCentres", spec := "fnMoveCentres", apart := false, narrowed := true }
def FnMoveCentresUptoSaid : Prop := fnMoveCentresUptoRow.holds Try.pinned (OpenSpec.upto fnMoveCentresSpec)

/-- 'laws.FnMoveCentresAlone', WHERE WHAT IT READS IS OF BULK AT MOST 1048576: true; the input reads as it did. -/
def fnMoveCentresAloneUptoRow : OpenClaim := { program := "ytdjjikmfkejdiab", sum := "5adfec715d54dd07514e0624857989b5247bdde4cc591d5929d3182b31df1908", func := "loop.example/vectorstore/laws.FnMoveCentresAlone", spec := "fnMoveCentresAlone", apart := false, narrowed := true }
def FnMoveCentresAloneUptoSaid : Prop := fnMoveCentresAloneUptoRow.holds Try.pinned (OpenSpec.upto fnMoveCentresAloneSpec)

/-- 'laws.FnSettleCentres', WHERE WHAT IT READS IS OF BULK AT MOST 1048576: true; the input reads as it did. -/
def fnSettleCentresUptoRow : OpenClaim := { program := "ytdjjikmfkejdiab", sum := "5adfec715d54dd07514e0624857989b5247bdde4cc591d5929d3182b31df1908", func := "loop.example/vectorstore/laws.FnSettleCentres", spec := "fnSettleCentres", unfollowed := true, recurses := true, apart := false, narrowed := true }
def FnSettleCentresUptoSaid : Prop := fnSettleCentresUptoRow.holds Try.pinned (OpenSpec.upto fnSettleCentresSpec)

/-- 'laws.FnSettleCentresStep', WHERE WHAT IT READS IS OF BULK AT MOST 1048576: true; the input reads as it did. -/
def fnSettleCentresStepUptoRow : OpenClaim := { program := "ytdjjikmfkejdiab", sum := "5adfec715d54dd07514e0624857989b5247bdde4cc591d5929d3182b31df1908", func := "loop.example/vectorstore/laws.FnSettleCentresStep", spec := "fnSettleCentresStep", unfollowed := true, recurses := true, apart := false, narrowed := true }
def FnSettleCentresStepUptoSaid : Prop := fnSettleCentresStepUptoRow.holds Try.pinned (OpenSpec.upto fnSettleCentresStepSpec)

end Rows
end Go.Proofs.Ytdjjikmfkejdiab
