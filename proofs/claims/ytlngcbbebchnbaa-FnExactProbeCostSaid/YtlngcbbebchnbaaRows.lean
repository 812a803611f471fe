/-
  No cell of these rows narrows 'for every input' (looked for: loops, veiled, ifaces, maps, wideKeys, modest, calm, conditions, laid).
  DERIVED. THE GIVEN ROWS OF THIS SEAT. 11 by the template 'for every input the law returns true; each argument reads behind the call as it read before'; 0 by the template 'total and deterministic' (their statements: YtlngcbbebchnbaaTotals.lean).
  GIVEN WITH THE SEED: the statements are not yours to turn. If you find one false, say at which input.
  Laid BY PROGRAM, IN A SANDBOX (cutbox-rows.mjs): the forced cells as the released guide's own fill.sh prints them over the translation aa1fd0fb120cdc5e… (all of the seat's roots in one cut). By AI agents, Wed Nov 11 2026. No macro, syntax, notation, axiom, sorry.
-/
import Derived.Test.YtlngcbbebchnbaaChecked
import GoSem.Claim
import GoSem.ClaimJoined
import GoSem.ClaimMapViews
import Derived.JoinedTies
import Derived.KernelRfl
namespace Go.Proofs.Ytlngcbbebchnbaa
/- THE CELL 'sum', in the pinned program and in every row, IS THE sha256 OF THE DUMP (.gsa) THAT YtlngcbbebchnbaaProg.lean LOADS. Nothing in Lean hashes anything: it is a label: what it is worth is what the hold of that sum in a sandbox is worth. -/
noncomputable def Try.pinned : Pinned := { name := "ytlngcbbebchnbaa", sum := "aa1fd0fb120cdc5e47c3b9e69d2d13cdfc2b0e86332d0a7a8dedf8c395e9ff77", checked := Try.checked }
namespace Rows
def none {H : Type} : Left H := { results := [], args := [] }

/-- 'laws.FnExactPutItem': WHATEVER THE INPUT: true; the input reads as it did. -/
def fnExactPutItemSpec : ChangeSpec := { name := "fnExactPutItem", fn := fun _ => fun
  | [d1, d2] => { results := [.lit (.bool true)], args := [d1, d2] }
  | _ => none }
def fnExactPutItemRow : OpenClaim := { program := "ytlngcbbebchnbaa", sum := "aa1fd0fb120cdc5e47c3b9e69d2d13cdfc2b0e86332d0a7a8dedf8c395e9ff77", func := "loop.example/vectorstore/laws.FnExactPutItem", spec := "fnExactPutItem", inPlace := ["slices.overlaps[loop.example/vectorstore/impl.Item]"], unfollowed := true, recurses := true, apart := false }
def FnExactPutItemSaid : Prop := fnExactPutItemRow.holds Try.pinned (OpenSpec.ofChange fnExactPutItemSpec)

/-- ITS FALSE NEIGHBOUR: 'it returns false'. Refute it at one input. -/
def fnExactPutItemWrong : ChangeSpec := { name := "fnExactPutItem", fn := fun _ => fun
  | [d1, d2] => { results := [.lit (.bool false)], args := [d1, d2] }
  | _ => none }
def FnExactPutItemWrongFalsely : Prop := fnExactPutItemRow.holds Try.pinned (OpenSpec.ofChange fnExactPutItemWrong)

/-- 'laws.FnExactDropItem': WHATEVER THE INPUT: true; the input reads as it did. -/
def fnExactDropItemSpec : ChangeSpec := { name := "fnExactDropItem", fn := fun _ => fun
  | [d1, d2] => { results := [.lit (.bool true)], args := [d1, d2] }
  | _ => none }
def fnExactDropItemRow : OpenClaim := { program := "ytlngcbbebchnbaa", sum := "aa1fd0fb120cdc5e47c3b9e69d2d13cdfc2b0e86332d0a7a8dedf8c395e9ff77", func := "loop.example/vectorstore/laws.FnExactDropItem", spec := "fnExactDropItem", unfollowed := true, recurses := true, apart := false }
def FnExactDropItemSaid : Prop := fnExactDropItemRow.holds Try.pinned (OpenSpec.ofChange fnExactDropItemSpec)

/-- ITS FALSE NEIGHBOUR: 'it returns false'. Refute it at one input. -/
def fnExactDropItemWrong : ChangeSpec := { name := "fnExactDropItem", fn := fun _ => fun
  | [d1, d2] => { results := [.lit (.bool false)], args := [d1, d2] }
  | _ => none }
def FnExactDropItemWrongFalsely : Prop := fnExactDropItemRow.holds Try.pinned (OpenSpec.ofChange fnExactDropItemWrong)

/-- 'laws.FnExactValidCentres': WHATEVER THE INPUT: true; the input reads as it did. -/
def fnExactValidCentresSpec : ChangeSpec := { name := "fnExactValidCentres", fn := fun _ => fun
  | [d] => { results := [.lit (.bool true)], args := [d] }
  | _ => none }
def fnExactValidCentresRow : OpenClaim := { program := "ytlngcbbebchnbaa", sum := "aa1fd0fb120cdc5e47c3b9e69d2d13cdfc2b0e86332d0a7a8dedf8c395e9ff77", func := "loop.example/vectorstore/laws.FnExactValidCentres", spec := "fnExactValidCentres", apart := false }
def FnExactValidCentresSaid : Prop := fnExactValidCentresRow.holds Try.pinned (OpenSpec.ofChange fnExactValidCentresSpec)

/-- ITS FALSE NEIGHBOUR: 'it returns false'. Refute it at one input. -/
def fnExactValidCentresWrong : ChangeSpec := { name := "fnExactValidCentres", fn := fun _ => fun
  | [d] => { results := [.lit (.bool false)], args := [d] }
  | _ => none }
def FnExactValidCentresWrongFalsely : Prop := fnExactValidCentresRow.holds Try.pinned (OpenSpec.ofChange fnExactValidCentresWrong)

/-- 'laws.FnExactCentreOf': WHATEVER THE INPUT: true; the input reads as it did. -/
def fnExactCentreOfSpec : ChangeSpec := { name := "fnExactCentreOf", fn := fun _ => fun
  | [d1, d2] => { results := [.lit (.bool true)], args := [d1, d2] }
  | _ => none }
def fnExactCentreOfRow : OpenClaim := { program := "ytlngcbbebchnbaa", sum := "aa1fd0fb120cdc5e47c3b9e69d2d13cdfc2b0e86332d0a7a8dedf8c395e9ff77", func := "loop.example/vectorstore/laws.FnExactCentreOf", spec := "fnExactCentreOf", apart := false }
def FnExactCentreOfSaid : Prop := fnExactCentreOfRow.holds Try.pinned (OpenSpec.ofChange fnExactCentreOfSpec)

/-- ITS FALSE NEIGHBOUR: 'it returns false'. Refute it at one input. -/
def fnExactCentreOfWrong : ChangeSpec := { name := "fnExactCentreOf", fn := fun _ => fun
  | [d1, d2] => { results := [.lit (.bool false)], args := [d1, d2] }
  | _ => none }
def FnExactCentreOfWrongFalsely : Prop := fnExactCentreOfRow.holds Try.pinned (OpenSpec.ofChange fnExactCentreOfWrong)

/-- 'laws.FnExactAssignItems': WHATEVER THE INPUT: true; the input reads as it did. -/
def fnExactAssignItemsSpec : ChangeSpec := { name := "fnExactAssignItems", fn := fun _ => fun
  | [d1, d2] => { results := [.lit (.bool true)], args := [d1, d2] }
  | _ => none }
def fnExactAssignItemsRow : OpenClaim := { program := "ytlngcbbebchnbaa", sum := "aa1fd0fb120cdc5e47c3b9e69d2d13cdfc2b0e86332d0a7a8dedf8c395e9ff77", func := "loop.example/vectorstore/laws.FnExactAssignItems", spec := "fnExactAssignItems", apart := false }
def FnExactAssignItemsSaid : Prop := fnExactAssignItemsRow.holds Try.pinned (OpenSpec.ofChange fnExactAssignItemsSpec)

/-- ITS FALSE NEIGHBOUR: 'it returns false'. Refute it at one input. -/
def fnExactAssignItemsWrong : ChangeSpec := { name := "fnExactAssignItems", fn := fun _ => fun
  | [d1, d2] => { results := [.lit (.bool false)], args := [d1, d2] }
  | _ => none }
def FnExactAssignItemsWrongFalsely : Prop := fnExactAssignItemsRow.holds Try.pinned (OpenSpec.ofChange fnExactAssignItemsWrong)

/-- 'laws.FnExactMoveCentres': WHATEVER THE INPUT: true; the input reads as it did. -/
def fnExactMoveCentresSpec : ChangeSpec := { name := "fnExactMoveCentres", fn := fun _ => fun
  | [d1, d2] => { results := [.lit (.bool true)], args := [d1, d2] }
  | _ => none }
def fnExactMoveCentresRow : OpenClaim := { program := "ytlngcbbebchnbaa", sum := "aa1fd0fb120cdc5e47c3b9e69d2d13cdfc2b0e86332d0a7a8dedf8c395e9ff77", func := "loop.example/vectorstore/laws.FnExactMoveCentres", spec := "fnExactMoveCentres", apart := false }
def FnExactMoveCentresSaid : Prop := fnExactMoveCentresRow.holds Try.pinned (OpenSpec.ofChange fnExactMoveCentresSpec)

/-- ITS FALSE NEIGHBOUR: 'it returns false'. Refute it at one input. -/
def fnExactMoveCentresWrong : ChangeSpec := { name := "fnExactMoveCentres", fn := fun _ => fun
  | [d1, d2] => { results := [.lit (.bool false)], args := [d1, d2] }
  | _ => none }
def FnExactMoveCentresWrongFalsely : Prop := fnExactMoveCentresRow.holds Try.pinned (OpenSpec.ofChange fnExactMoveCentresWrong)

/-- 'laws.FnExactSettleCentres': WHATEVER THE INPUT: true; the input reads as it did. -/
def fnExactSettleCentresSpec : ChangeSpec := { name := "fnExactSettleCentres", fn := fun _ => fun
  | [d1, d2] => { results := [.lit (.bool true)], args := [d1, d2] }
  | _ => none }
def fnExactSettleCentresRow : OpenClaim := { program := "ytlngcbbebchnbaa", sum := "aa1fd0fb120cdc5e47c3b9e69d2d13cdfc2b0e86332d0a7a8dedf8c395e9ff77", func := "loop.example/vectorstore/laws.FnExactSettleCentres", spec := "fnExactSettleCentres", unfollowed := true, recurses := true, apart := false }
def FnExactSettleCentresSaid : Prop := fnExactSettleCentresRow.holds Try.pinned (OpenSpec.ofChange fnExactSettleCentresSpec)

/-- ITS FALSE NEIGHBOUR: 'it returns false'. Refute it at one input. -/
def fnExactSettleCentresWrong : ChangeSpec := { name := "fnExactSettleCentres", fn := fun _ => fun
  | [d1, d2] => { results := [.lit (.bool false)], args := [d1, d2] }
  | _ => none }
def FnExactSettleCentresWrongFalsely : Prop := fnExactSettleCentresRow.holds Try.pinned (OpenSpec.ofChange fnExactSettleCentresWrong)

/-- 'laws.FnExactSpreadOf': WHATEVER THE INPUT: true; the input reads as it did. -/
def fnExactSpreadOfSpec : ChangeSpec := { name := "fnExactSpreadOf", fn := fun _ => fun
  | [d1, d2] => { results := [.lit (.bool true)], args := [d1, d2] }
  | _ => none }
def fnExactSpreadOfRow : OpenClaim := { program := "ytlngcbbebchnbaa", sum := "aa1fd0fb120cdc5e47c3b9e69d2d13cdfc2b0e86332d0a7a8dedf8c395e9ff77", func := "loop.example/vectorstore/laws.FnExactSpreadOf", spec := "fnExactSpreadOf", unfollowed := true, recurses := true, apart := false }
def FnExactSpreadOfSaid : Prop := fnExactSpreadOfRow.holds Try.pinned (OpenSpec.ofChange fnExactSpreadOfSpec)

/-- ITS FALSE NEIGHBOUR: 'it returns false'. Refute it at one input. -/
def fnExactSpreadOfWrong : ChangeSpec := { name := "fnExactSpreadOf", fn := fun _ => fun
  | [d1, d2] => { results := [.lit (.bool false)], args := [d1, d2] }
  | _ => none }
def FnExactSpreadOfWrongFalsely : Prop := fnExactSpreadOfRow.holds Try.pinned (OpenSpec.ofChange fnExactSpreadOfWrong)

/-- 'laws.FnExactListsOf': WHATEVER THE INPUT: true; the input reads as it did. -/
def fnExactListsOfSpec : ChangeSpec := { name := "fnExactListsOf", fn := fun _ => fun
  | [d1, d2] => { results := [.lit (.bool true)], args := [d1, d2] }
  | _ => none }
def fnExactListsOfRow : OpenClaim := { program := "ytlngcbbebchnbaa", sum := "aa1fd0fb120cdc5e47c3b9e69d2d13cdfc2b0e86332d0a7a8dedf8c395e9ff77", func := "loop.example/vectorstore/laws.FnExactListsOf", spec := "fnExactListsOf", apart := false }
def FnExactListsOfSaid : Prop := fnExactListsOfRow.holds Try.pinned (OpenSpec.ofChange fnExactListsOfSpec)

/-- ITS FALSE NEIGHBOUR: 'it returns false'. Refute it at one input. -/
def fnExactListsOfWrong : ChangeSpec := { name := "fnExactListsOf", fn := fun _ => fun
  | [d1, d2] => { results := [.lit (.bool false)], args := [d1, d2] }
  | _ => none }
def FnExactListsOfWrongFalsely : Prop := fnExactListsOfRow.holds Try.pinned (OpenSpec.ofChange fnExactListsOfWrong)

/-- 'laws.FnExactProbeOrder': WHATEVER THE INPUT: true; the input reads as it did. -/
def fnExactProbeOrderSpec : ChangeSpec := { name := "fnExactProbeOrder", fn := fun _ => fun
  | [d1, d2, d3] => { results := [.lit (.bool true)], args := [d1, d2, d3] }
  | _ => none }
def fnExactProbeOrderRow : OpenClaim := { program := "ytlngcbbebchnbaa", sum := "aa1fd0fb120cdc5e47c3b9e69d2d13cdfc2b0e86332d0a7a8dedf8c395e9ff77", func := "loop.example/vectorstore/laws.FnExactProbeOrder", spec := "fnExactProbeOrder", unfollowed := true, recurses := true, apart := false }
def FnExactProbeOrderSaid : Prop := fnExactProbeOrderRow.holds Try.pinned (OpenSpec.ofChange fnExactProbeOrderSpec)

/-- ITS FALSE NEIGHBOUR: 'it returns false'. Refute it at one input. -/
def fnExactProbeOrderWrong : ChangeSpec := { name := "fnExactProbeOrder", fn := fun _ => fun
  | [d1, d2, d3] => { results := [.lit (.bool false)], args := [d1, d2, d3] }
  | _ => none }
def FnExactProbeOrderWrongFalsely : Prop := fnExactProbeOrderRow.holds Try.pinned (OpenSpec.ofChange fnExactProbeOrderWrong)

/-- 'laws.FnExactProbeCost': WHATEVER THE INPUT: true; the input reads as it did. -/
def fnExactProbeCostSpec : ChangeSpec := { name := "fnExactProbeCost", fn := fun _ => fun
  | [d1, d2, d3, d4] => { results := [.lit (.bool true)], args := [d1, d2, d3, d4] }
  | _ => none }
def fnExactProbeCostRow : OpenClaim := { program := "ytlngcbbebchnbaa", sum := "aa1fd0fb120cdc5e47c3b9e69d2d13cdfc2b0e86332d0a7a8dedf8c395e9ff77", func := "loop.example/vectorstore/laws.FnExactProbeCost", spec := "fnExactProbeCost", unfollowed := true, recurses := true, apart := false }
def FnExactProbeCostSaid : Prop := fnExactProbeCostRow.holds Try.pinned (OpenSpec.ofChange fnExactProbeCostSpec)

/-- ITS FALSE NEIGHBOUR: 'it returns false'. Refute it at one input. -/
def fnExactProbeCostWrong : ChangeSpec := { name := "fnExactProbeCost", fn := fun _ => fun
  | [d1, d2, d3, d4] => { results := [.lit (.bool false)], args := [d1, d2, d3, d4] }
  | _ => none }
def FnExactProbeCostWrongFalsely : Prop := fnExactProbeCostRow.holds Try.pinned (OpenSpec.ofChange fnExactProbeCostWrong)

/- THE SECOND FORM. 'bulk': how many values and letters a reading holds, each counted each time it is reached (what is shared counts as often as it is met; a slice's spare places count too). A statement '..UptoSaid' is the law's where the arguments, and the package variables that the reading takes, are together of bulk at most 1048576: NARROWER than '..Said'. Prove '..Said' where nothing that the law and all that it calls make is longer than what came in: it says more and counts as full. Else prove '..UptoSaid'. A law counts once. -/
mutual
def uptoBulk {H : Type} : DataW H → Nat
  | .lit (.string bytes) => bytes.length + 1
  | .lit _ => 1
  | .nil => 1
  | .ptr d => uptoBulk d + 1
  | .slice elems spare => uptoBulkAll elems + uptoBulkAll spare + 1
  | .agg parts => uptoBulkAll parts + 1
  | .iface _ d => uptoBulk d + 1
  | .map entries => uptoBulkEntries entries + 1
  | .held _ => 1
def uptoBulkAll {H : Type} : List (DataW H) → Nat
  | [] => 0
  | d :: r => uptoBulk d + uptoBulkAll r
def uptoBulkEntries {H : Type} : List (Lit × DataW H) → Nat
  | [] => 0
  | x :: r => uptoBulkEntry x + uptoBulkEntries r
def uptoBulkEntry {H : Type} : Lit × DataW H → Nat
  | (.string bytes, d) => bytes.length + uptoBulk d + 1
  | (_, d) => uptoBulk d + 1
 end
def uptoSmall : (H : Type) → List (DataW H) → Bool := fun _ ds => decide (uptoBulkAll ds ≤ 1048576)
def OpenSpec.upto (s : _root_.Go.ChangeSpec) : _root_.Go.OpenSpec := { _root_.Go.OpenSpec.ofChange s with cond := some uptoSmall }

/-- 'laws.FnExactPutItem', WHERE WHAT IT READS IS OF BULK AT MOST 1048576: true; the input reads as it did. -/
def fnExactPutItemUptoRow : OpenClaim := { program := "ytlngcbbebchnbaa", sum := "aa1fd0fb120cdc5e47c3b9e69d2d13cdfc2b0e86332d0a7a8dedf8c395e9ff77", func := "loop.example/vectorstore/laws.FnExactPutItem", spec := "fnExactPutItem", inPlace := ["slices.overlaps[loop.example/vectorstore/impl.Item]"], unfollowed := true, recurses := true, apart := false, narrowed := true }
def FnExactPutItemUptoSaid : Prop := fnExactPutItemUptoRow.holds Try.pinned (OpenSpec.upto fnExactPutItemSpec)

/-- 'laws.FnExactDropItem', WHERE WHAT IT READS IS OF BULK AT MOST 1048576: true; the input reads as it did. -/
def fnExactDropItemUptoRow : OpenClaim := { program := "ytlngcbbebchnbaa", sum := "aa1fd0fb120cdc5e47c3b9e69d2d13cdfc2b0e86332d0a7a8dedf8c395e9ff77", func := "loop.example/vectorstore/laws.FnExactDropItem", spec := "fnExactDropItem", unfollowed := true, recurses := true, apart := false, narrowed := true }
def FnExactDropItemUptoSaid : Prop := fnExactDropItemUptoRow.holds Try.pinned (OpenSpec.upto fnExactDropItemSpec)

/-- 'laws.FnExactValidCentres', WHERE WHAT IT READS IS OF BULK AT MOST 1048576: true; the input reads as it did. -/
def fnExactValidCentresUptoRow : OpenClaim := { program := "ytlngcbbebchnbaa", sum := "aa1fd0fb120cdc5e47c3b9e69d2d13cdfc2b0e86332d0a7a8dedf8c395e9ff77", func := "loop.example/vectorstore/laws.FnExactValidCentres", spec := "fnExactValidCentres", apart := false, narrowed := true }
def FnExactValidCentresUptoSaid : Prop := fnExactValidCentresUptoRow.holds Try.pinned (OpenSpec.upto fnExactValidCentresSpec)

/-- 'laws.FnExactCentreOf', WHERE WHAT IT READS IS OF BULK AT MOST 1048576: true; the input reads as it did. -/
def fnExactCentreOfUptoRow : OpenClaim := { program := "ytlngcbbebchnbaa", sum := "aa1fd0fb120cdc5e47c3b9e69d2d13cdfc2b0e86332d0a7a8dedf8c395e9ff77", func := "loop.example/vectorstore/laws.FnExactCentreOf", spec := "fnExactCentreOf", apart := false, narrowed := true }
def FnExactCentreOfUptoSaid : Prop := fnExactCentreOfUptoRow.holds Try.pinned (OpenSpec.upto fnExactCentreOfSpec)

/-- 'laws.FnExactAssignItems', WHERE WHAT IT READS IS OF BULK AT MOST 1048576: true; the input reads as it did. -/
def fnExactAssignItemsUptoRow : OpenClaim := { program := "ytlngcbbebchnbaa", sum := "aa1fd0fb120cdc5e47c3b9e69d2d13cdfc2b0e86332d0a7a8dedf8c395e9ff77", func := "loop.example/vectorstore/laws.FnExactAssignItems", spec := "fnExactAssignItems", apart := false, narrowed := true }
def FnExactAssignItemsUptoSaid : Prop := fnExactAssignItemsUptoRow.holds Try.pinned (OpenSpec.upto fnExactAssignItemsSpec)

/-- 'laws.FnExactMoveCentres', WHERE WHAT IT READS IS OF BULK AT MOST 1048576: true; the input reads as it did. -/
def fnExactMoveCentresUptoRow : OpenClaim := { program := "ytlngcbbebchnbaa", sum := "aa1fd0fb120cdc5e47c3b9e69d2d13cdfc2b0e86332d0a7a8dedf8c395e9ff77", func := "loop.example/vectorstore/laws.FnExactMoveCentres", spec := "fnExactMoveCentres", apart := false, narrowed := true }
def FnExactMoveCentresUptoSaid : Prop := fnExactMoveCentresUptoRow.holds Try.pinned (OpenSpec.upto fnExactMoveCentresSpec)

/-- 'laws.FnExactSettleCentres', WHERE WHAT IT READS IS OF BULK AT MOST 1048576: true; the input reads as it did. -/
def fnExactSettleCentresUptoRow : OpenClaim := { program := "ytlngcbbebchnbaa", sum := "aa1fd0fb120cdc5e47c3b9e69d2d13cdfc2b0e86332d0a7a8dedf8c395e9ff77", func := "loop.example/vectorstore/laws.FnExactSettleCentres", spec := "fnExactSettleCentres", unfollowed := true, recurses := true, apart := false, narrowed := true }
def FnExactSettleCentresUptoSaid : Prop := fnExactSettleCentresUptoRow.holds Try.pinned (OpenSpec.upto fnExactSettleCentresSpec)

/-- 'laws.FnExactSpreadOf', WHERE WHAT IT READS IS OF BULK AT MOST 1048576: true; the input reads as it did. -/
def fnExactSpreadOfUptoRow : OpenClaim := { program := "ytlngcbbebchnbaa", sum := "aa1fd0fb120cdc5e47c3b9e69d2d13cdfc2b0e86332d0a7a8dedf8c395e9ff77", func := "loop.example/vectorstore/laws.FnExactSpreadOf", spec := "fnExactSpreadOf", unfollowed := true, recurses := true, apart := false, narrowed := true }
def FnExactSpreadOfUptoSaid : Prop := fnExactSpreadOfUptoRow.holds Try.pinned (OpenSpec.upto fnExactSpreadOfSpec)

/-- 'laws.FnExactListsOf', WHERE WHAT IT READS IS OF BULK AT MOST 1048576: true; the input reads as it did. -/
def fnExactListsOfUptoRow : OpenClaim := { program := "ytlngcbbebchnbaa", sum := "aa1fd0fb120cdc5e47c3b9e69d2d13cdfc2b0e86332d0a7a8dedf8c395e9ff77", func := "loop.example/vectorstore/laws.FnExactListsOf", spec := "fnExactListsOf", apart := false, narrowed := true }
def FnExactListsOfUptoSaid : Prop := fnExactListsOfUptoRow.holds Try.pinned (OpenSpec.upto fnExactListsOfSpec)

/-- 'laws.FnExactProbeOrder', WHERE WHAT IT READS IS OF BULK AT MOST 1048576: true; the input reads as it did. -/
def fnExactProbeOrderUptoRow : OpenClaim := { program := "ytlngcbbebchnbaa", sum := "aa1fd0fb120cdc5e47c3b9e69d2d13cdfc2b0e86332d0a7a8dedf8c395e9ff77", func := "loop.example/vectorstore/laws.FnExactProbeOrder", spec := "fnExactProbeOrder", unfollowed := true, recurses := true, apart := false, narrowed := true }
def FnExactProbeOrderUptoSaid : Prop := fnExactProbeOrderUptoRow.holds Try.pinned (OpenSpec.upto fnExactProbeOrderSpec)

/-- 'laws.FnExactProbeCost', WHERE WHAT IT READS IS OF BULK AT MOST 1048576: true; the input reads as it did. -/
def fnExactProbeCostUptoRow : OpenClaim := { program := "ytlngcbbebchnbaa", sum := "aa1fd0fb120cdc5e47c3b9e69d2d13cdfc2b0e86332d0a7a8dedf8c395e9ff77", func := "loop.example/vectorstore/laws.FnExactProbeCost", spec := "fnExactProbeCost", unfollowed := true, recurses := true, apart := false, narrowed := true }
def FnExactProbeCostUptoSaid : Prop := fnExactProbeCostUptoRow.holds Try.pinned (OpenSpec.upto fnExactProbeCostSpec)

end Rows
end Go.Proofs.Ytlngcbbebchnbaa
