/-
  No cell of these rows narrows 'for every input' (looked for: loops, veiled, ifaces, maps, wideKeys, modest, calm, conditions, laid).
  DERIVED. THE GIVEN ROWS OF THIS SEAT. 11 by the template 'for every input the law returns true; each argument reads behind the call as it read before'; 0 by the template 'total and deterministic' (their statements: YtdjjikmfkejdiadTotals.lean).
  GIVEN WITH THE SEED: the statements are not yours to turn. If you find one false, say at which input.
  Laid BY PROGRAM, IN A SANDBOX (cutbox-rows.mjs): the forced cells as the released guide's own fill.sh prints them over the translation d2cc520581fc689b… (all of the seat's roots in one cut). By AI agents, Wed Nov 11 2026. No macro, syntax, notation, axiom, sorry.
-/
import Derived.Test.YtdjjikmfkejdiadChecked
import GoSem.Claim
import GoSem.ClaimJoined
import GoSem.ClaimMapViews
import Derived.JoinedTies
import Derived.KernelRfl
namespace Go.Proofs.Ytdjjikmfkejdiad
/- THE CELL 'sum', in the pinned program and in every row, IS THE sha256 OF THE DUMP (.gsa) THAT YtdjjikmfkejdiadProg.lean LOADS. Nothing in Lean hashes anything: it is a label: what it is worth is what the hold of that sum in a sandbox is worth. -/
noncomputable def Try.pinned : Pinned := { name := "ytdjjikmfkejdiad", sum := "d2cc520581fc689b84b5674b8b7742802e3f117ef58e0363d943e8233d61615b", checked := Try.checked }
namespace Rows
def none {H : Type} : Left H := { results := [], args := [] }

/-- 'laws.FnInBoxOne': WHATEVER THE INPUT: true; the input reads as it did. -/
def fnInBoxOneSpec : ChangeSpec := { name := "fnInBoxOne", fn := fun _ => fun
  | [d] => { results := [.lit (.bool true)], args := [d] }
  | _ => none }
def fnInBoxOneRow : OpenClaim := { program := "ytdjjikmfkejdiad", sum := "d2cc520581fc689b84b5674b8b7742802e3f117ef58e0363d943e8233d61615b", func := "loop.example/vectorstore/laws.FnInBoxOne", spec := "fnInBoxOne", unfollowed := true, recurses := true, apart := false }
def FnInBoxOneSaid : Prop := fnInBoxOneRow.holds Try.pinned (OpenSpec.ofChange fnInBoxOneSpec)

/-- ITS FALSE NEIGHBOUR: 'it returns false'. Refute it at one input. -/
def fnInBoxOneWrong : ChangeSpec := { name := "fnInBoxOne", fn := fun _ => fun
  | [d] => { results := [.lit (.bool false)], args := [d] }
  | _ => none }
def FnInBoxOneWrongFalsely : Prop := fnInBoxOneRow.holds Try.pinned (OpenSpec.ofChange fnInBoxOneWrong)

/-- 'laws.FnClosestPairDrop': WHATEVER THE INPUT: true; the input reads as it did. -/
def fnClosestPairDropSpec : ChangeSpec := { name := "fnClosestPairDrop", fn := fun _ => fun
  | [d] => { results := [.lit (.bool true)], args := [d] }
  | _ => none }
def fnClosestPairDropRow : OpenClaim := { program := "ytdjjikmfkejdiad", sum := "d2cc520581fc689b84b5674b8b7742802e3f117ef58e0363d943e8233d61615b", func := "loop.example/vectorstore/laws.FnClosestPairDrop", spec := "fnClosestPairDrop", unfollowed := true, recurses := true, apart := false }
def FnClosestPairDropSaid : Prop := fnClosestPairDropRow.holds Try.pinned (OpenSpec.ofChange fnClosestPairDropSpec)

/-- ITS FALSE NEIGHBOUR: 'it returns false'. Refute it at one input. -/
def fnClosestPairDropWrong : ChangeSpec := { name := "fnClosestPairDrop", fn := fun _ => fun
  | [d] => { results := [.lit (.bool false)], args := [d] }
  | _ => none }
def FnClosestPairDropWrongFalsely : Prop := fnClosestPairDropRow.holds Try.pinned (OpenSpec.ofChange fnClosestPairDropWrong)

/-- 'laws.FnBuildTreeOne': WHATEVER THE INPUT: true; the input reads as it did. -/
def fnBuildTreeOneSpec : ChangeSpec := { name := "fnBuildTreeOne", fn := fun _ => fun
  | [d] => { results := [.lit (.bool true)], args := [d] }
  | _ => none }
def fnBuildTreeOneRow : OpenClaim := { program := "ytdjjikmfkejdiad", sum := "d2cc520581fc689b84b5674b8b7742802e3f117ef58e0363d943e8233d61615b", func := "loop.example/vectorstore/laws.FnBuildTreeOne", spec := "fnBuildTreeOne", unfollowed := true, recurses := true, apart := false }
def FnBuildTreeOneSaid : Prop := fnBuildTreeOneRow.holds Try.pinned (OpenSpec.ofChange fnBuildTreeOneSpec)

/-- ITS FALSE NEIGHBOUR: 'it returns false'. Refute it at one input. -/
def fnBuildTreeOneWrong : ChangeSpec := { name := "fnBuildTreeOne", fn := fun _ => fun
  | [d] => { results := [.lit (.bool false)], args := [d] }
  | _ => none }
def FnBuildTreeOneWrongFalsely : Prop := fnBuildTreeOneRow.holds Try.pinned (OpenSpec.ofChange fnBuildTreeOneWrong)

/-- 'laws.FnBuildTreeSize': WHATEVER THE INPUT: true; the input reads as it did. -/
def fnBuildTreeSizeSpec : ChangeSpec := { name := "fnBuildTreeSize", fn := fun _ => fun
  | [d] => { results := [.lit (.bool true)], args := [d] }
  | _ => none }
def fnBuildTreeSizeRow : OpenClaim := { program := "ytdjjikmfkejdiad", sum := "d2cc520581fc689b84b5674b8b7742802e3f117ef58e0363d943e8233d61615b", func := "loop.example/vectorstore/laws.FnBuildTreeSize", spec := "fnBuildTreeSize", unfollowed := true, recurses := true, apart := false }
def FnBuildTreeSizeSaid : Prop := fnBuildTreeSizeRow.holds Try.pinned (OpenSpec.ofChange fnBuildTreeSizeSpec)

/-- ITS FALSE NEIGHBOUR: 'it returns false'. Refute it at one input. -/
def fnBuildTreeSizeWrong : ChangeSpec := { name := "fnBuildTreeSize", fn := fun _ => fun
  | [d] => { results := [.lit (.bool false)], args := [d] }
  | _ => none }
def FnBuildTreeSizeWrongFalsely : Prop := fnBuildTreeSizeRow.holds Try.pinned (OpenSpec.ofChange fnBuildTreeSizeWrong)

/-- 'laws.FnTreeVisitsOwn': WHATEVER THE INPUT: true; the input reads as it did. -/
def fnTreeVisitsOwnSpec : ChangeSpec := { name := "fnTreeVisitsOwn", fn := fun _ => fun
  | [d] => { results := [.lit (.bool true)], args := [d] }
  | _ => none }
def fnTreeVisitsOwnRow : OpenClaim := { program := "ytdjjikmfkejdiad", sum := "d2cc520581fc689b84b5674b8b7742802e3f117ef58e0363d943e8233d61615b", func := "loop.example/vectorstore/laws.FnTreeVisitsOwn", spec := "fnTreeVisitsOwn", unfollowed := true, recurses := true, apart := false }
def FnTreeVisitsOwnSaid : Prop := fnTreeVisitsOwnRow.holds Try.pinned (OpenSpec.ofChange fnTreeVisitsOwnSpec)

/-- ITS FALSE NEIGHBOUR: 'it returns false'. Refute it at one input. -/
def fnTreeVisitsOwnWrong : ChangeSpec := { name := "fnTreeVisitsOwn", fn := fun _ => fun
  | [d] => { results := [.lit (.bool false)], args := [d] }
  | _ => none }
def FnTreeVisitsOwnWrongFalsely : Prop := fnTreeVisitsOwnRow.holds Try.pinned (OpenSpec.ofChange fnTreeVisitsOwnWrong)

/-- 'laws.FnTreeVisitsMore': WHATEVER THE INPUT: true; the input reads as it did. -/
def fnTreeVisitsMoreSpec : ChangeSpec := { name := "fnTreeVisitsMore", fn := fun _ => fun
  | [d] => { results := [.lit (.bool true)], args := [d] }
  | _ => none }
def fnTreeVisitsMoreRow : OpenClaim := { program := "ytdjjikmfkejdiad", sum := "d2cc520581fc689b84b5674b8b7742802e3f117ef58e0363d943e8233d61615b", func := "loop.example/vectorstore/laws.FnTreeVisitsMore", spec := "fnTreeVisitsMore", unfollowed := true, recurses := true, apart := false }
def FnTreeVisitsMoreSaid : Prop := fnTreeVisitsMoreRow.holds Try.pinned (OpenSpec.ofChange fnTreeVisitsMoreSpec)

/-- ITS FALSE NEIGHBOUR: 'it returns false'. Refute it at one input. -/
def fnTreeVisitsMoreWrong : ChangeSpec := { name := "fnTreeVisitsMore", fn := fun _ => fun
  | [d] => { results := [.lit (.bool false)], args := [d] }
  | _ => none }
def FnTreeVisitsMoreWrongFalsely : Prop := fnTreeVisitsMoreRow.holds Try.pinned (OpenSpec.ofChange fnTreeVisitsMoreWrong)

/-- 'laws.FnCentreOfMore': WHATEVER THE INPUT: true; the input reads as it did. -/
def fnCentreOfMoreSpec : ChangeSpec := { name := "fnCentreOfMore", fn := fun _ => fun
  | [d] => { results := [.lit (.bool true)], args := [d] }
  | _ => none }
def fnCentreOfMoreRow : OpenClaim := { program := "ytdjjikmfkejdiad", sum := "d2cc520581fc689b84b5674b8b7742802e3f117ef58e0363d943e8233d61615b", func := "loop.example/vectorstore/laws.FnCentreOfMore", spec := "fnCentreOfMore", apart := false }
def FnCentreOfMoreSaid : Prop := fnCentreOfMoreRow.holds Try.pinned (OpenSpec.ofChange fnCentreOfMoreSpec)

/-- ITS FALSE NEIGHBOUR: 'it returns false'. Refute it at one input. -/
def fnCentreOfMoreWrong : ChangeSpec := { name := "fnCentreOfMore", fn := fun _ => fun
  | [d] => { results := [.lit (.bool false)], args := [d] }
  | _ => none }
def FnCentreOfMoreWrongFalsely : Prop := fnCentreOfMoreRow.holds Try.pinned (OpenSpec.ofChange fnCentreOfMoreWrong)

/-- 'laws.FnSpreadOfCentre': WHATEVER THE INPUT: true; the input reads as it did. -/
def fnSpreadOfCentreSpec : ChangeSpec := { name := "fnSpreadOfCentre", fn := fun _ => fun
  | [d] => { results := [.lit (.bool true)], args := [d] }
  | _ => none }
def fnSpreadOfCentreRow : OpenClaim := { program := "ytdjjikmfkejdiad", sum := "d2cc520581fc689b84b5674b8b7742802e3f117ef58e0363d943e8233d61615b", func := "loop.example/vectorstore/laws.FnSpreadOfCentre", spec := "fnSpreadOfCentre", unfollowed := true, recurses := true, apart := false }
def FnSpreadOfCentreSaid : Prop := fnSpreadOfCentreRow.holds Try.pinned (OpenSpec.ofChange fnSpreadOfCentreSpec)

/-- ITS FALSE NEIGHBOUR: 'it returns false'. Refute it at one input. -/
def fnSpreadOfCentreWrong : ChangeSpec := { name := "fnSpreadOfCentre", fn := fun _ => fun
  | [d] => { results := [.lit (.bool false)], args := [d] }
  | _ => none }
def FnSpreadOfCentreWrongFalsely : Prop := fnSpreadOfCentreRow.holds Try.pinned (OpenSpec.ofChange fnSpreadOfCentreWrong)

/-- 'laws.FnAssignItemsLists': WHATEVER THE INPUT: true; the input reads as it did. -/
def fnAssignItemsListsSpec : ChangeSpec := { name := "fnAssignItemsLists", fn := fun _ => fun
  | [d] => { results := [.lit (.bool true)], args := [d] }
  | _ => none }
def fnAssignItemsListsRow : OpenClaim := { program := "ytdjjikmfkejdiad", sum := "d2cc520581fc689b84b5674b8b7742802e3f117ef58e0363d943e8233d61615b", func := "loop.example/vectorstore/laws.FnAssignItemsLists", spec := "fnAssignItemsLists", apart := false }
def FnAssignItemsListsSaid : Prop := fnAssignItemsListsRow.holds Try.pinned (OpenSpec.ofChange fnAssignItemsListsSpec)

/-- ITS FALSE NEIGHBOUR: 'it returns false'. Refute it at one input. -/
def fnAssignItemsListsWrong : ChangeSpec := { name := "fnAssignItemsLists", fn := fun _ => fun
  | [d] => { results := [.lit (.bool false)], args := [d] }
  | _ => none }
def FnAssignItemsListsWrongFalsely : Prop := fnAssignItemsListsRow.holds Try.pinned (OpenSpec.ofChange fnAssignItemsListsWrong)

/-- 'laws.FnProbeCostMore': WHATEVER THE INPUT: true; the input reads as it did. -/
def fnProbeCostMoreSpec : ChangeSpec := { name := "fnProbeCostMore", fn := fun _ => fun
  | [d] => { results := [.lit (.bool true)], args := [d] }
  | _ => none }
def fnProbeCostMoreRow : OpenClaim := { program := "ytdjjikmfkejdiad", sum := "d2cc520581fc689b84b5674b8b7742802e3f117ef58e0363d943e8233d61615b", func := "loop.example/vectorstore/laws.FnProbeCostMore", spec := "fnProbeCostMore", unfollowed := true, recurses := true, apart := false }
def FnProbeCostMoreSaid : Prop := fnProbeCostMoreRow.holds Try.pinned (OpenSpec.ofChange fnProbeCostMoreSpec)

/-- ITS FALSE NEIGHBOUR: 'it returns false'. Refute it at one input. -/
def fnProbeCostMoreWrong : ChangeSpec := { name := "fnProbeCostMore", fn := fun _ => fun
  | [d] => { results := [.lit (.bool false)], args := [d] }
  | _ => none }
def FnProbeCostMoreWrongFalsely : Prop := fnProbeCostMoreRow.holds Try.pinned (OpenSpec.ofChange fnProbeCostMoreWrong)

/-- 'laws.FnExactNearest': WHATEVER THE INPUT: true; the input reads as it did. -/
def fnExactNearestSpec : ChangeSpec := { name := "fnExactNearest", fn := fun _ => fun
  | [d1, d2, d3, d4] => { results := [.lit (.bool true)], args := [d1, d2, d3, d4] }
  | _ => none }
def fnExactNearestRow : OpenClaim := { program := "ytdjjikmfkejdiad", sum := "d2cc520581fc689b84b5674b8b7742802e3f117ef58e0363d943e8233d61615b", func := "loop.example/vectorstore/laws.FnExactNearest", spec := "fnExactNearest", unfollowed := true, recurses := true, apart := false }
def FnExactNearestSaid : Prop := fnExactNearestRow.holds Try.pinned (OpenSpec.ofChange fnExactNearestSpec)

/-- ITS FALSE NEIGHBOUR: 'it returns false'. Refute it at one input. -/
def fnExactNearestWrong : ChangeSpec := { name := "fnExactNearest", fn := fun _ => fun
  | [d1, d2, d3, d4] => { results := [.lit (.bool false)], args := [d1, d2, d3, d4] }
  | _ => none }
def FnExactNearestWrongFalsely : Prop := fnExactNearestRow.holds Try.pinned (OpenSpec.ofChange fnExactNearestWrong)

/- THE SECOND FORM. 'bulk': how many values and letters a reading holds, each counted each time it is reached (what is shared counts as often as it is met; a slice's spare places count too). A statement '..UptoSaid' is the law's where the arguments, and the package variables that the reading takes, are together of bulk at most 1048576: NARROWER than '..Said'. Prove '..Said' where nothing that the law and all that it calls make is longer than what came in: it says more and counts as full. Else prove '..UptoSaid'. A law counts once. -/
mutual
def uptoBulk {H : Type} : DataW H → Nat
  | .lit (.string bytes) => bytes.length + 1
  | .lit _ => 1
  | .nil => 1
  | .ptr d => uptoBulk d + 1
  | .slice elems spare => uptoBulkAll elems + uptoBulkAll spare + 1
  | .agg parts => uptoBulkAll parts + 1
  | .iface _ d => uptoBulk d + 1
  | .map entries => uptoBulkEntries entries + 1
  | .held _ => 1
def uptoBulkAll {H : Type} : List (DataW H) → Nat
  | [] => 0
  | d :: r => uptoBulk d + uptoBulkAll r
def uptoBulkEntries {H : Type} : List (Lit × DataW H) → Nat
  | [] => 0
  | x :: r => uptoBulkEntry x + uptoBulkEntries r
def uptoBulkEntry {H : Type} : Lit × DataW H → Nat
  | (.string bytes, d) => bytes.length + uptoBulk d + 1
  | (_, d) => uptoBulk d + 1
 end
def uptoSmall : (H : Type) → List (DataW H) → Bool := fun _ ds => decide (uptoBulkAll ds ≤ 1048576)
def OpenSpec.upto (s : _root_.Go.ChangeSpec) : _root_.Go.OpenSpec := { _root_.Go.OpenSpec.ofChange s with cond := some uptoSmall }

/-- 'laws.FnInBoxOne', WHERE WHAT IT READS IS OF BULK AT MOST 1048576: true; the input reads as it did. -/
def fnInBoxOneUptoRow : OpenClaim := { program := "ytdjjikmfkejdiad", sum := "d2cc520581fc689b84b5674b8b7742802e3f117ef58e0363d943e8233d61615b", func := "loop.example/vectorstore/laws.FnInBoxOne", spec := "fnInBoxOne", unfollowed := true, recurses := true, apart := false, narrowed := true }
def FnInBoxOneUptoSaid : Prop := fnInBoxOneUptoRow.holds Try.pinned (OpenSpec.upto fnInBoxOneSpec)

/-- 'laws.FnClosestPairDrop', WHERE WHAT IT READS IS OF BULK AT MOST 1048576: true; the input reads as it did. -/
def fnClosestPairDropUptoRow : OpenClaim := { program := "ytdjjikmfkejdiad", sum := "d2cc520581fc689b84b5674b8b7742802e3f117ef58e0363d943e8233d61615b", func := "loop.example/vectorstore/laws.FnClosestPairDrop", spec := "fnClosestPairDrop", unfollowed := true, recurses := true, apart := false, narrowed := true }
def FnClosestPairDropUptoSaid : Prop := fnClosestPairDropUptoRow.holds Try.pinned (OpenSpec.upto fnClosestPairDropSpec)

/-- 'laws.FnBuildTreeOne', WHERE WHAT IT READS IS OF BULK AT MOST 1048576: true; the input reads as it did. -/
def fnBuildTreeOneUptoRow : OpenClaim := { program := "ytdjjikmfkejdiad", sum := "d2cc520581fc689b84b5674b8b7742802e3f117ef58e0363d943e8233d61615b", func := "loop.example/vectorstore/laws.FnBuildTreeOne", spec := "fnBuildTreeOne", unfollowed := true, recurses := true, apart := false, narrowed := true }
def FnBuildTreeOneUptoSaid : Prop := fnBuildTreeOneUptoRow.holds Try.pinned (OpenSpec.upto fnBuildTreeOneSpec)

/-- 'laws.FnBuildTreeSize', WHERE WHAT IT READS IS OF BULK AT MOST 1048576: true; the input reads as it did. -/
def fnBuildTreeSizeUptoRow : OpenClaim := { program := "ytdjjikmfkejdiad", sum := "d2cc520581fc689b84b5674b8b7742802e3f117ef58e0363d943e8233d61615b", func := "loop.example/vectorstore/laws.FnBuildTreeSize", spec := "fnBuildTreeSize", unfollowed := true, recurses := true, apart := false, narrowed := true }
def FnBuildTreeSizeUptoSaid : Prop := fnBuildTreeSizeUptoRow.holds Try.pinned (OpenSpec.upto fnBuildTreeSizeSpec)

/-- 'laws.FnTreeVisitsOwn', WHERE WHAT IT READS IS OF BULK AT MOST 1048576: true; the input reads as it did. -/
def fnTreeVisitsOwnUptoRow : OpenClaim := { program := "ytdjjikmfkejdiad", sum := "d2cc520581fc689b84b5674b8b7742802e3f117ef58e0363d943e8233d61615b", func := "loop.example/vectorstore/laws.FnTreeVisitsOwn", spec := "fnTreeVisitsOwn", unfollowed := true, recurses := true, apart := false, narrowed := true }
def FnTreeVisitsOwnUptoSaid : Prop := fnTreeVisitsOwnUptoRow.holds Try.pinned (OpenSpec.upto fnTreeVisitsOwnSpec)

/-- 'laws.FnTreeVisitsMore', WHERE WHAT IT READS IS OF BULK AT MOST 1048576: true; the input reads as it did. -/
def fnTreeVisitsMoreUptoRow : OpenClaim := { program := "ytdjjikmfkejdiad", sum := "d2cc520581fc689b84b5674b8b7742802e3f117ef58e0363d943e8233d61615b", func := "loop.example/vectorstore/laws.FnTreeVisitsMore", spec := "fnTreeVisitsMore", unfollowed := true, recurses := true, apart := false, narrowed := true }
def FnTreeVisitsMoreUptoSaid : Prop := fnTreeVisitsMoreUptoRow.holds Try.pinned (OpenSpec.upto fnTreeVisitsMoreSpec)

/-- 'laws.FnCentreOfMore', WHERE WHAT IT READS IS OF BULK AT MOST 1048576: true; the input reads as it did. -/
def fnCentreOfMoreUptoRow : OpenClaim := { program := "ytdjjikmfkejdiad", sum := "d2cc520581fc689b84b5674b8b7742802e3f117ef58e0363d943e8233d61615b", func := "loop.example/vectorstore/laws.FnCentreOfMore", spec := "fnCentreOfMore", apart := false, narrowed := true }
def FnCentreOfMoreUptoSaid : Prop := fnCentreOfMoreUptoRow.holds Try.pinned (OpenSpec.upto fnCentreOfMoreSpec)

/-- 'laws.FnSpreadOfCentre', WHERE WHAT IT READS IS OF BULK AT MOST 1048576: true; the input reads as it did. -/
def fnSpreadOfCentreUptoRow : OpenClaim := { program := "ytdjjikmfkejdiad", sum := "d2cc520581fc689b84b5674b8b7742802e3f117ef58e0363d943e8233d61615b", func := "loop.example/vectorstore/laws.FnSpreadOfCentre", spec := "fnSpreadOfCentre", unfollowed := true, recurses := true, apart := false, narrowed := true }
def FnSpreadOfCentreUptoSaid : Prop := fnSpreadOfCentreUptoRow.holds Try.pinned (OpenSpec.upto fnSpreadOfCentreSpec)

/-- 'laws.FnAssignItemsLists', WHERE WHAT IT READS IS OF BULK AT MOST 1048576: true; the input reads as it did. -/
def fnAssignItemsListsUptoRow : OpenClaim := { program := "ytdjjikmfkejdiad", sum := "d2cc520581fc689b84b5674b8b7742802e3f117ef58e0363d943e8233d61615b", func := "loop.example/vectorstore/laws.FnAssignItemsLists", spec := "fnAssignItemsLists", apart := false, narrowed := true }
def FnAssignItemsListsUptoSaid : Prop := fnAssignItemsListsUptoRow.holds Try.pinned (OpenSpec.upto fnAssignItemsListsSpec)

/-- 'laws.FnProbeCostMore', WHERE WHAT IT READS IS OF BULK AT MOST 1048576: true; the input reads as it did. -/
def fnProbeCostMoreUptoRow : OpenClaim := { program := "ytdjjikmfkejdiad", sum := "d2cc520581fc689b84b5674b8b7742802e3f117ef58e0363d943e8233d61615b", func := "loop.example/vectorstore/laws.FnProbeCostMore", spec := "fnProbeCostMore", unfollowed := true, recurses := true, apart := false, narrowed := true }
def FnProbeCostMoreUptoSaid : Prop := fnProbeCostMoreUptoRow.holds Try.pinned (OpenSpec.upto fnProbeCostMoreSpec)

/-- 'laws.FnExactNearest', WHERE WHAT IT READS IS OF BULK AT MOST 1048576: true; the input reads as it did. -/
def fnExactNearestUptoRow : OpenClaim := { program := "ytdjjikmfkejdiad", sum := "d2cc520581fc689b84b5674b8b7742802e3f117ef58e0363d943e8233d61615b", func := "loop.example/vectorstore/laws.FnExactNearest", spec := "fnExactNearest", unfollowed := true, recurses := true, apart := false, narrowed := true }
def FnExactNearestUptoSaid : Prop := fnExactNearestUptoRow.holds Try.pinned (OpenSpec.upto fnExactNearestSpec)

end Rows
end Go.Proofs.Ytdjjikmfkejdiad
