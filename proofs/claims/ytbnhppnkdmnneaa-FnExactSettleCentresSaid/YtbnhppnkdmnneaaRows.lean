/-
  No cell of these rows narrows 'for every input' (looked for: loops, veiled, ifaces, maps, wideKeys, modest, calm, conditions, laid).
  DERIVED. THE GIVEN ROWS OF THIS SEAT. 10 by the template 'for every input the law returns true; each argument reads behind the call as it read before'; 0 by the template 'total and deterministic' (their statements: YtbnhppnkdmnneaaTotals.lean).
  GIVEN WITH THE SEED: the statements are not yours to turn. If you find one false, say at which input.
  Laid BY PROGRAM, IN A SANDBOX (cutbox-rows.mjs): the forced cells as the released guide's own fill.sh prints them over the translation 7b6ecd2c9bfe4065… (all of the seat's roots in one cut). By AI agents, Wed Nov 11 2026. No macro, syntax, notation, axiom, sorry.
-/
import Derived.Test.YtbnhppnkdmnneaaChecked
import GoSem.Claim
import GoSem.ClaimJoined
import GoSem.ClaimMapViews
import Derived.JoinedTies
import Derived.KernelRfl
namespace Go.Proofs.Ytbnhppnkdmnneaa
/- THE CELL 'sum', in the pinned program and in every row, IS THE sha256 OF THE DUMP (.gsa) THAT YtbnhppnkdmnneaaProg.lean LOADS. Nothing in Lean hashes anything: it is a label: what it is worth is what the hold of that sum in a sandbox is worth. -/
noncomputable def Try.pinned : Pinned := { name := "ytbnhppnkdmnneaa", sum := "7b6ecd2c9bfe40650fdba56fe3b6a852615d62e1918d03de8db2a147bf965445", checked := Try.checked }
namespace Rows
def none {H : Type} : Left H := { results := [], args := [] }

/-- 'laws.FnExactMeanOf': WHATEVER THE INPUT: true; the input reads as it did. -/
def fnExactMeanOfSpec : ChangeSpec := { name := "fnExactMeanOf", fn := fun _ => fun
  | [d] => { results := [.lit (.bool true)], args := [d] }
  | _ => none }
def fnExactMeanOfRow : OpenClaim := { program := "ytbnhppnkdmnneaa", sum := "7b6ecd2c9bfe40650fdba56fe3b6a852615d62e1918d03de8db2a147bf965445", func := "loop.example/vectorstore/laws.FnExactMeanOf", spec := "fnExactMeanOf", apart := false }
def FnExactMeanOfSaid : Prop := fnExactMeanOfRow.holds Try.pinned (OpenSpec.ofChange fnExactMeanOfSpec)

/-- ITS FALSE NEIGHBOUR: 'it returns false'. Refute it at one input. -/
def fnExactMeanOfWrong : ChangeSpec := { name := "fnExactMeanOf", fn := fun _ => fun
  | [d] => { results := [.lit (.bool false)], args := [d] }
  | _ => none }
def FnExactMeanOfWrongFalsely : Prop := fnExactMeanOfRow.holds Try.pinned (OpenSpec.ofChange fnExactMeanOfWrong)

/-- 'laws.FnExactMoveTo': WHATEVER THE INPUT: true; the input reads as it did. -/
def fnExactMoveToSpec : ChangeSpec := { name := "fnExactMoveTo", fn := fun _ => fun
  | [d1, d2, d3] => { results := [.lit (.bool true)], args := [d1, d2, d3] }
  | _ => none }
def fnExactMoveToRow : OpenClaim := { program := "ytbnhppnkdmnneaa", sum := "7b6ecd2c9bfe40650fdba56fe3b6a852615d62e1918d03de8db2a147bf965445", func := "loop.example/vectorstore/laws.FnExactMoveTo", spec := "fnExactMoveTo", apart := false }
def FnExactMoveToSaid : Prop := fnExactMoveToRow.holds Try.pinned (OpenSpec.ofChange fnExactMoveToSpec)

/-- ITS FALSE NEIGHBOUR: 'it returns false'. Refute it at one input. -/
def fnExactMoveToWrong : ChangeSpec := { name := "fnExactMoveTo", fn := fun _ => fun
  | [d1, d2, d3] => { results := [.lit (.bool false)], args := [d1, d2, d3] }
  | _ => none }
def FnExactMoveToWrongFalsely : Prop := fnExactMoveToRow.holds Try.pinned (OpenSpec.ofChange fnExactMoveToWrong)

/-- 'laws.FnExactInBox': WHATEVER THE INPUT: true; the input reads as it did. -/
def fnExactInBoxSpec : ChangeSpec := { name := "fnExactInBox", fn := fun _ => fun
  | [d1, d2, d3] => { results := [.lit (.bool true)], args := [d1, d2, d3] }
  | _ => none }
def fnExactInBoxRow : OpenClaim := { program := "ytbnhppnkdmnneaa", sum := "7b6ecd2c9bfe40650fdba56fe3b6a852615d62e1918d03de8db2a147bf965445", func := "loop.example/vectorstore/laws.FnExactInBox", spec := "fnExactInBox", unfollowed := true, recurses := true, apart := false }
def FnExactInBoxSaid : Prop := fnExactInBoxRow.holds Try.pinned (OpenSpec.ofChange fnExactInBoxSpec)

/-- ITS FALSE NEIGHBOUR: 'it returns false'. Refute it at one input. -/
def fnExactInBoxWrong : ChangeSpec := { name := "fnExactInBox", fn := fun _ => fun
  | [d1, d2, d3] => { results := [.lit (.bool false)], args := [d1, d2, d3] }
  | _ => none }
def FnExactInBoxWrongFalsely : Prop := fnExactInBoxRow.holds Try.pinned (OpenSpec.ofChange fnExactInBoxWrong)

/-- 'laws.FnExactClosestPair': WHATEVER THE INPUT: true; the input reads as it did. -/
def fnExactClosestPairSpec : ChangeSpec := { name := "fnExactClosestPair", fn := fun _ => fun
  | [d1, d2] => { results := [.lit (.bool true)], args := [d1, d2] }
  | _ => none }
def fnExactClosestPairRow : OpenClaim := { program := "ytbnhppnkdmnneaa", sum := "7b6ecd2c9bfe40650fdba56fe3b6a852615d62e1918d03de8db2a147bf965445", func := "loop.example/vectorstore/laws.FnExactClosestPair", spec := "fnExactClosestPair", apart := false }
def FnExactClosestPairSaid : Prop := fnExactClosestPairRow.holds Try.pinned (OpenSpec.ofChange fnExactClosestPairSpec)

/-- ITS FALSE NEIGHBOUR: 'it returns false'. Refute it at one input. -/
def fnExactClosestPairWrong : ChangeSpec := { name := "fnExactClosestPair", fn := fun _ => fun
  | [d1, d2] => { results := [.lit (.bool false)], args := [d1, d2] }
  | _ => none }
def FnExactClosestPairWrongFalsely : Prop := fnExactClosestPairRow.holds Try.pinned (OpenSpec.ofChange fnExactClosestPairWrong)

/-- 'laws.FnExactAssignItems': WHATEVER THE INPUT: true; the input reads as it did. -/
def fnExactAssignItemsSpec : ChangeSpec := { name := "fnExactAssignItems", fn := fun _ => fun
  | [d1, d2] => { results := [.lit (.bool true)], args := [d1, d2] }
  | _ => none }
def fnExactAssignItemsRow : OpenClaim := { program := "ytbnhppnkdmnneaa", sum := "7b6ecd2c9bfe40650fdba56fe3b6a852615d62e1918d03de8db2a147bf965445", func := "loop.example/vectorstore/laws.FnExactAssignItems", spec := "fnExactAssignItems", apart := false }
def FnExactAssignItemsSaid : Prop := fnExactAssignItemsRow.holds Try.pinned (OpenSpec.ofChange fnExactAssignItemsSpec)

/-- ITS FALSE NEIGHBOUR: 'it returns false'. Refute it at one input. -/
def fnExactAssignItemsWrong : ChangeSpec := { name := "fnExactAssignItems", fn := fun _ => fun
  | [d1, d2] => { results := [.lit (.bool false)], args := [d1, d2] }
  | _ => none }
def FnExactAssignItemsWrongFalsely : Prop := fnExactAssignItemsRow.holds Try.pinned (OpenSpec.ofChange fnExactAssignItemsWrong)

/-- 'laws.FnExactMoveCentres': WHATEVER THE INPUT: true; the input reads as it did. -/
def fnExactMoveCentresSpec : ChangeSpec := { name := "fnExactMoveCentres", fn := fun _ => fun
  | [d1, d2] => { results := [.lit (.bool true)], args := [d1, d2] }
  | _ => none }
def fnExactMoveCentresRow : OpenClaim := { program := "ytbnhppnkdmnneaa", sum := "7b6ecd2c9bfe40650fdba56fe3b6a852615d62e1918d03de8db2a147bf965445", func := "loop.example/vectorstore/laws.FnExactMoveCentres", spec := "fnExactMoveCentres", apart := false }
def FnExactMoveCentresSaid : Prop := fnExactMoveCentresRow.holds Try.pinned (OpenSpec.ofChange fnExactMoveCentresSpec)

/-- ITS FALSE NEIGHBOUR: 'it returns false'. Refute it at one input. -/
def fnExactMoveCentresWrong : ChangeSpec := { name := "fnExactMoveCentres", fn := fun _ => fun
  | [d1, d2] => { results := [.lit (.bool false)], args := [d1, d2] }
  | _ => none }
def FnExactMoveCentresWrongFalsely : Prop := fnExactMoveCentresRow.holds Try.pinned (OpenSpec.ofChange fnExactMoveCentresWrong)

/-- 'laws.FnExactSettleCentres': WHATEVER THE INPUT: true; the input reads as it did. -/
def fnExactSettleCentresSpec : ChangeSpec := { name := "fnExactSettleCentres", fn := fun _ => fun
  | [d1, d2] => { results := [.lit (.bool true)], args := [d1, d2] }
  | _ => none }
def fnExactSettleCentresRow : OpenClaim := { program := "ytbnhppnkdmnneaa", sum := "7b6ecd2c9bfe40650fdba56fe3b6a852615d62e1918d03de8db2a147bf965445", func := "loop.example/vectorstore/laws.FnExactSettleCentres", spec := "fnExactSettleCentres", unfollowed := true, recurses := true, apart := false }
def FnExactSettleCentresSaid : Prop := fnExactSettleCentresRow.holds Try.pinned (OpenSpec.ofChange fnExactSettleCentresSpec)

/-- ITS FALSE NEIGHBOUR: 'it returns false'. Refute it at one input. -/
def fnExactSettleCentresWrong : ChangeSpec := { name := "fnExactSettleCentres", fn := fun _ => fun
  | [d1, d2] => { results := [.lit (.bool false)], args := [d1, d2] }
  | _ => none }
def FnExactSettleCentresWrongFalsely : Prop := fnExactSettleCentresRow.holds Try.pinned (OpenSpec.ofChange fnExactSettleCentresWrong)

/-- 'laws.FnExactSpreadOf': WHATEVER THE INPUT: true; the input reads as it did. -/
def fnExactSpreadOfSpec : ChangeSpec := { name := "fnExactSpreadOf", fn := fun _ => fun
  | [d1, d2] => { results := [.lit (.bool true)], args := [d1, d2] }
  | _ => none }
def fnExactSpreadOfRow : OpenClaim := { program := "ytbnhppnkdmnneaa", sum := "7b6ecd2c9bfe40650fdba56fe3b6a852615d62e1918d03de8db2a147bf965445", func := "loop.example/vectorstore/laws.FnExactSpreadOf", spec := "fnExactSpreadOf", unfollowed := true, recurses := true, apart := false }
def FnExactSpreadOfSaid : Prop := fnExactSpreadOfRow.holds Try.pinned (OpenSpec.ofChange fnExactSpreadOfSpec)

/-- ITS FALSE NEIGHBOUR: 'it returns false'. Refute it at one input. -/
def fnExactSpreadOfWrong : ChangeSpec := { name := "fnExactSpreadOf", fn := fun _ => fun
  | [d1, d2] => { results := [.lit (.bool false)], args := [d1, d2] }
  | _ => none }
def FnExactSpreadOfWrongFalsely : Prop := fnExactSpreadOfRow.holds Try.pinned (OpenSpec.ofChange fnExactSpreadOfWrong)

/-- 'laws.FnExactListsOf': WHATEVER THE INPUT: true; the input reads as it did. -/
def fnExactListsOfSpec : ChangeSpec := { name := "fnExactListsOf", fn := fun _ => fun
  | [d1, d2] => { results := [.lit (.bool true)], args := [d1, d2] }
  | _ => none }
def fnExactListsOfRow : OpenClaim := { program := "ytbnhppnkdmnneaa", sum := "7b6ecd2c9bfe40650fdba56fe3b6a852615d62e1918d03de8db2a147bf965445", func := "loop.example/vectorstore/laws.FnExactListsOf", spec := "fnExactListsOf", apart := false }
def FnExactListsOfSaid : Prop := fnExactListsOfRow.holds Try.pinned (OpenSpec.ofChange fnExactListsOfSpec)

/-- ITS FALSE NEIGHBOUR: 'it returns false'. Refute it at one input. -/
def fnExactListsOfWrong : ChangeSpec := { name := "fnExactListsOf", fn := fun _ => fun
  | [d1, d2] => { results := [.lit (.bool false)], args := [d1, d2] }
  | _ => none }
def FnExactListsOfWrongFalsely : Prop := fnExactListsOfRow.holds Try.pinned (OpenSpec.ofChange fnExactListsOfWrong)

/-- 'laws.FnExactProbeCost': WHATEVER THE INPUT: true; the input reads as it did. -/
def fnExactProbeCostSpec : ChangeSpec := { name := "fnExactProbeCost", fn := fun _ => fun
  | [d1, d2, d3, d4] => { results := [.lit (.bool true)], args := [d1, d2, d3, d4] }
  | _ => none }
def fnExactProbeCostRow : OpenClaim := { program := "ytbnhppnkdmnneaa", sum := "7b6ecd2c9bfe40650fdba56fe3b6a852615d62e1918d03de8db2a147bf965445", func := "loop.example/vectorstore/laws.FnExactProbeCost", spec := "fnExactProbeCost", unfollowed := true, recurses := true, apart := false }
def FnExactProbeCostSaid : Prop := fnExactProbeCostRow.holds Try.pinned (OpenSpec.ofChange fnExactProbeCostSpec)

/-- ITS FALSE NEIGHBOUR: 'it returns false'. Refute it at one input. -/
def fnExactProbeCostWrong : ChangeSpec := { name := "fnExactProbeCost", fn := fun _ => fun
  | [d1, d2, d3, d4] => { results := [.lit (.bool false)], args := [d1, d2, d3, d4] }
  | _ => none }
def FnExactProbeCostWrongFalsely : Prop := fnExactProbeCostRow.holds Try.pinned (OpenSpec.ofChange fnExactProbeCostWrong)

/- THE SECOND FORM. 'bulk': how many values and letters a reading holds, each counted each time it is reached (what is shared counts as often as it is met; a slice's spare places count too). A statement '..UptoSaid' is the law's where the arguments, and the package variables that the reading takes, are together of bulk at most 1048576: NARROWER than '..Said'. Prove '..Said' where nothing that the law and all that it calls make is longer than what came in: it says more and counts as full. Else prove '..UptoSaid'. A law counts once. -/
mutual
def uptoBulk {H : Type} : DataW H → Nat
  | .lit (.string bytes) => bytes.length + 1
  | .lit _ => 1
  | .nil => 1
  | .ptr d => uptoBulk d + 1
  | .slice elems spare => uptoBulkAll elems + uptoBulkAll spare + 1
  | .agg parts => uptoBulkAll parts + 1
  | .iface _ d => uptoBulk d + 1
  | .map entries => uptoBulkEntries entries + 1
  | .held _ => 1
def uptoBulkAll {H : Type} : List (DataW H) → Nat
  | [] => 0
  | d :: r => uptoBulk d + uptoBulkAll r
def uptoBulkEntries {H : Type} : List (Lit × DataW H) → Nat
  | [] => 0
  | x :: r => uptoBulkEntry x + uptoBulkEntries r
def uptoBulkEntry {H : Type} : Lit × DataW H → Nat
  | (.string bytes, d) => bytes.length + uptoBulk d + 1
  | (_, d) => uptoBulk d + 1
 end
def uptoSmall : (H : Type) → List (DataW H) → Bool := fun _ ds => decide (uptoBulkAll ds ≤ 1048576)
def OpenSpec.upto (s : _root_.Go.ChangeSpec) : _root_.Go.OpenSpec := { _root_.Go.OpenSpec.ofChange s with cond := some uptoSmall }

/-- 'laws.FnExactMeanOf', WHERE WHAT IT READS IS OF BULK AT MOST 1048576: true; the input reads as it did. -/
def fnExactMeanOfUptoRow : OpenClaim := { program := "ytbnhppnkdmnneaa", sum := "7b6ecd2c9bfe40650fdba56fe3b6a852615d62e1918d03de8db2a147bf965445", func := "loop.example/vectorstore/laws.FnExactMeanOf", spec := "fnExactMeanOf", apart := false, narrowed := true }
def FnExactMeanOfUptoSaid : Prop := fnExactMeanOfUptoRow.holds Try.pinned (OpenSpec.upto fnExactMeanOfSpec)

/-- 'laws.FnExactMoveTo', WHERE WHAT IT READS IS OF BULK AT MOST 1048576: true; the input reads as it did. -/
def fnExactMoveToUptoRow : OpenClaim := { program := "ytbnhppnkdmnneaa", sum := "7b6ecd2c9bfe40650fdba56fe3b6a852615d62e1918d03de8db2a147bf965445", func := "loop.example/vectorstore/laws.FnExactMoveTo", spec := "fnExactMoveTo", apart := false, narrowed := true }
def FnExactMoveToUptoSaid : Prop := fnExactMoveToUptoRow.holds Try.pinned (OpenSpec.upto fnExactMoveToSpec)

/-- 'laws.FnExactInBox', WHERE WHAT IT READS IS OF BULK AT MOST 1048576: true; the input reads as it did. -/
def fnExactInBoxUptoRow : OpenClaim := { program := "ytbnhppnkdmnneaa", sum := "7b6ecd2c9bfe40650fdba56fe3b6a852615d62e1918d03de8db2a147bf965445", func := "loop.example/vectorstore/laws.FnExactInBox", spec := "fnExactInBox", unfollowed := true, recurses := true, apart := false, narrowed := true }
def FnExactInBoxUptoSaid : Prop := fnExactInBoxUptoRow.holds Try.pinned (OpenSpec.upto fnExactInBoxSpec)

/-- 'laws.FnExactClosestPair', WHERE WHAT IT READS IS OF BULK AT MOST 1048576: true; the input reads as it did. -/
def fnExactClosestPairUptoRow : OpenClaim := { program := "ytbnhppnkdmnneaa", sum := "7b6ecd2c9bfe40650fdba56fe3b6a852615d62e1918d03de8db2a147bf965445", func := "loop.example/vectorstore/laws.FnExactClosestPair", spec := "fnExactClosestPair", apart := false, narrowed := true }
def FnExactClosestPairUptoSaid : Prop := fnExactClosestPairUptoRow.holds Try.pinned (OpenSpec.upto fnExactClosestPairSpec)

/-- 'laws.FnExactAssignItems', WHERE WHAT IT READS IS OF BULK AT MOST 1048576: true; the input reads as it did. -/
def fnExactAssignItemsUptoRow : OpenClaim := { program := "ytbnhppnkdmnneaa", sum := "7b6ecd2c9bfe40650fdba56fe3b6a852615d62e1918d03de8db2a147bf965445", func := "loop.example/vectorstore/laws.FnExactAssignItems", spec := "fnExactAssignItems", apart := false, narrowed := true }
def FnExactAssignItemsUptoSaid : Prop := fnExactAssignItemsUptoRow.holds Try.pinned (OpenSpec.upto fnExactAssignItemsSpec)

/-- 'laws.FnExactMoveCentres', WHERE WHAT IT READS IS OF BULK AT MOST 1048576: true; the input reads as it did. -/
def fnExactMoveCentresUptoRow : OpenClaim := { program := "ytbnhppnkdmnneaa", sum := "7b6ecd2c9bfe40650fdba56fe3b6a852615d62e1918d03de8db2a147bf965445", func := "loop.example/vectorstore/laws.FnExactMoveCentres", spec := "fnExactMoveCentres", apart := false, narrowed := true }
def FnExactMoveCentresUptoSaid : Prop := fnExactMoveCentresUptoRow.holds Try.pinned (OpenSpec.upto fnExactMoveCentresSpec)

/-- 'laws.FnExactSettleCentres', WHERE WHAT IT READS IS OF BULK AT MOST 1048576: true; the input reads as it did. -/
def fnExactSettleCentresUptoRow : OpenClaim := { program := "ytbnhppnkdmnneaa", sum := "7b6ecd2c9bfe40650fdba56fe3b6a852615d62e1918d03de8db2a147bf965445", func := "loop.example/vectorstore/laws.FnExactSettleCentres", spec := "fnExactSettleCentres", unfollowed := true, recurses := true, apart := false, narrowed := true }
def FnExactSettleCentresUptoSaid : Prop := fnExactSettleCentresUptoRow.holds Try.pinned (OpenSpec.upto fnExactSettleCentresSpec)

/-- 'laws.FnExactSpreadOf', WHERE WHAT IT READS IS OF BULK AT MOST 1048576: true; the input reads as it did. -/
def fnExactSpreadOfUptoRow : OpenClaim := { program := "ytbnhppnkdmnneaa", sum := "7b6ecd2c9bfe40650fdba56fe3b6a852615d62e1918d03de8db2a147bf965445", func := "loop.example/vectorstore/laws.FnExactSpreadOf", spec := "fnExactSpreadOf", unfollowed := true, recurses := true, apart := false, narrowed := true }
def FnExactSpreadOfUptoSaid : Prop := fnExactSpreadOfUptoRow.holds Try.pinned (OpenSpec.upto fnExactSpreadOfSpec)

/-- 'laws.FnExactListsOf', WHERE WHAT IT READS IS OF BULK AT MOST 1048576: true; the input reads as it did. -/
def fnExactListsOfUptoRow : OpenClaim := { program := "ytbnhppnkdmnneaa", sum := "7b6ecd2c9bfe40650fdba56fe3b6a852615d62e1918d03de8db2a147bf965445", func := "loop.example/vectorstore/laws.FnExactListsOf", spec := "fnExactListsOf", apart := false, narrowed := true }
def FnExactListsOfUptoSaid : Prop := fnExactListsOfUptoRow.holds Try.pinned (OpenSpec.upto fnExactListsOfSpec)

/-- 'laws.FnExactProbeCost', WHERE WHAT IT READS IS OF BULK AT MOST 1048576: true; the input reads as it did. -/
def fnExactProbeCostUptoRow : OpenClaim := { program := "ytbnhppnkdmnneaa", sum := "7b6ecd2c9bfe40650fdba56fe3b6a852615d62e1918d03de8db2a147bf965445", func := "loop.example/vectorstore/laws.FnExactProbeCost", spec := "fnExactProbeCost", unfollowed := true, recurses := true, apart := false, narrowed := true }
def FnExactProbeCostUptoSaid : Prop := fnExactProbeCostUptoRow.holds Try.pinned (OpenSpec.upto fnExactProbeCostSpec)

end Rows
end Go.Proofs.Ytbnhppnkdmnneaa
