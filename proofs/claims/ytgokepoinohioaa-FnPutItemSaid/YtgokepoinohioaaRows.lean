/-
  No cell of these rows narrows 'for every input' (looked for: loops, veiled, ifaces, maps, wideKeys, modest, calm, conditions, laid).
  DERIVED. THE GIVEN ROWS OF THIS SEAT. 12 by the template 'for every input the law returns true; each argument reads behind the call as it read before'; 0 by the template 'total and deterministic' (their statements: YtgokepoinohioaaTotals.lean).
  GIVEN WITH THE SEED: the statements are not yours to turn. If you find one false, say at which input.
  Laid BY PROGRAM, IN A SANDBOX (cutbox-rows.mjs): the forced cells as the released guide's own fill.sh prints them over the translation 8e5af96ab2123550… (all of the seat's roots in one cut). By AI agents, Wed Nov 11 2026. No macro, syntax, notation, axiom, sorry.
-/
import Derived.Test.YtgokepoinohioaaChecked
import GoSem.Claim
import GoSem.ClaimJoined
import GoSem.ClaimMapViews
import Derived.JoinedTies
import Derived.KernelRfl
namespace Go.Proofs.Ytgokepoinohioaa
/- THE CELL 'sum', in the pinned program and in every row, IS THE sha256 OF THE DUMP (.gsa) THAT YtgokepoinohioaaProg.lean LOADS. Nothing in Lean hashes anything: it is a label: what it is worth is what the hold of that sum in a sandbox is worth. -/
noncomputable def Try.pinned : Pinned := { name := "ytgokepoinohioaa", sum := "8e5af96ab21235500a73add4bb5f67fbe1e2604baa7ae5da9e3ea6e9c0bd3b14", checked := Try.checked }
namespace Rows
def none {H : Type} : Left H := { results := [], args := [] }

/-- 'laws.FnValidVector': WHATEVER THE INPUT: true; the input reads as it did. -/
def fnValidVectorSpec : ChangeSpec := { name := "fnValidVector", fn := fun _ => fun
  | [d] => { results := [.lit (.bool true)], args := [d] }
  | _ => none }
def fnValidVectorRow : OpenClaim := { program := "ytgokepoinohioaa", sum := "8e5af96ab21235500a73add4bb5f67fbe1e2604baa7ae5da9e3ea6e9c0bd3b14", func := "loop.example/vectorstore/laws.FnValidVector", spec := "fnValidVector", apart := false }
def FnValidVectorSaid : Prop := fnValidVectorRow.holds Try.pinned (OpenSpec.ofChange fnValidVectorSpec)

/-- ITS FALSE NEIGHBOUR: 'it returns false'. Refute it at one input. -/
def fnValidVectorWrong : ChangeSpec := { name := "fnValidVector", fn := fun _ => fun
  | [d] => { results := [.lit (.bool false)], args := [d] }
  | _ => none }
def FnValidVectorWrongFalsely : Prop := fnValidVectorRow.holds Try.pinned (OpenSpec.ofChange fnValidVectorWrong)

/-- 'laws.FnDistance': WHATEVER THE INPUT: true; the input reads as it did. -/
def fnDistanceSpec : ChangeSpec := { name := "fnDistance", fn := fun _ => fun
  | [d] => { results := [.lit (.bool true)], args := [d] }
  | _ => none }
def fnDistanceRow : OpenClaim := { program := "ytgokepoinohioaa", sum := "8e5af96ab21235500a73add4bb5f67fbe1e2604baa7ae5da9e3ea6e9c0bd3b14", func := "loop.example/vectorstore/laws.FnDistance", spec := "fnDistance", apart := false }
def FnDistanceSaid : Prop := fnDistanceRow.holds Try.pinned (OpenSpec.ofChange fnDistanceSpec)

/-- ITS FALSE NEIGHBOUR: 'it returns false'. Refute it at one input. -/
def fnDistanceWrong : ChangeSpec := { name := "fnDistance", fn := fun _ => fun
  | [d] => { results := [.lit (.bool false)], args := [d] }
  | _ => none }
def FnDistanceWrongFalsely : Prop := fnDistanceRow.holds Try.pinned (OpenSpec.ofChange fnDistanceWrong)

/-- 'laws.FnDistanceKinds': WHATEVER THE INPUT: true; the input reads as it did. -/
def fnDistanceKindsSpec : ChangeSpec := { name := "fnDistanceKinds", fn := fun _ => fun
  | [d] => { results := [.lit (.bool true)], args := [d] }
  | _ => none }
def fnDistanceKindsRow : OpenClaim := { program := "ytgokepoinohioaa", sum := "8e5af96ab21235500a73add4bb5f67fbe1e2604baa7ae5da9e3ea6e9c0bd3b14", func := "loop.example/vectorstore/laws.FnDistanceKinds", spec := "fnDistanceKinds", apart := false }
def FnDistanceKindsSaid : Prop := fnDistanceKindsRow.holds Try.pinned (OpenSpec.ofChange fnDistanceKindsSpec)

/-- ITS FALSE NEIGHBOUR: 'it returns false'. Refute it at one input. -/
def fnDistanceKindsWrong : ChangeSpec := { name := "fnDistanceKinds", fn := fun _ => fun
  | [d] => { results := [.lit (.bool false)], args := [d] }
  | _ => none }
def FnDistanceKindsWrongFalsely : Prop := fnDistanceKindsRow.holds Try.pinned (OpenSpec.ofChange fnDistanceKindsWrong)

/-- 'laws.FnDistanceTriangle': WHATEVER THE INPUT: true; the input reads as it did. -/
def fnDistanceTriangleSpec : ChangeSpec := { name := "fnDistanceTriangle", fn := fun _ => fun
  | [d] => { results := [.lit (.bool true)], args := [d] }
  | _ => none }
def fnDistanceTriangleRow : OpenClaim := { program := "ytgokepoinohioaa", sum := "8e5af96ab21235500a73add4bb5f67fbe1e2604baa7ae5da9e3ea6e9c0bd3b14", func := "loop.example/vectorstore/laws.FnDistanceTriangle", spec := "fnDistanceTriangle", apart := false }
def FnDistanceTriangleSaid : Prop := fnDistanceTriangleRow.holds Try.pinned (OpenSpec.ofChange fnDistanceTriangleSpec)

/-- ITS FALSE NEIGHBOUR: 'it returns false'. Refute it at one input. -/
def fnDistanceTriangleWrong : ChangeSpec := { name := "fnDistanceTriangle", fn := fun _ => fun
  | [d] => { results := [.lit (.bool false)], args := [d] }
  | _ => none }
def FnDistanceTriangleWrongFalsely : Prop := fnDistanceTriangleRow.holds Try.pinned (OpenSpec.ofChange fnDistanceTriangleWrong)

/-- 'laws.FnDotOf': WHATEVER THE INPUT: true; the input reads as it did. -/
def fnDotOfSpec : ChangeSpec := { name := "fnDotOf", fn := fun _ => fun
  | [d] => { results := [.lit (.bool true)], args := [d] }
  | _ => none }
def fnDotOfRow : OpenClaim := { program := "ytgokepoinohioaa", sum := "8e5af96ab21235500a73add4bb5f67fbe1e2604baa7ae5da9e3ea6e9c0bd3b14", func := "loop.example/vectorstore/laws.FnDotOf", spec := "fnDotOf", apart := false }
def FnDotOfSaid : Prop := fnDotOfRow.holds Try.pinned (OpenSpec.ofChange fnDotOfSpec)

/-- ITS FALSE NEIGHBOUR: 'it returns false'. Refute it at one input. -/
def fnDotOfWrong : ChangeSpec := { name := "fnDotOf", fn := fun _ => fun
  | [d] => { results := [.lit (.bool false)], args := [d] }
  | _ => none }
def FnDotOfWrongFalsely : Prop := fnDotOfRow.holds Try.pinned (OpenSpec.ofChange fnDotOfWrong)

/-- 'laws.FnDotOfBound': WHATEVER THE INPUT: true; the input reads as it did. -/
def fnDotOfBoundSpec : ChangeSpec := { name := "fnDotOfBound", fn := fun _ => fun
  | [d] => { results := [.lit (.bool true)], args := [d] }
  | _ => none }
def fnDotOfBoundRow : OpenClaim := { program := "ytgokepoinohioaa", sum := "8e5af96ab21235500a73add4bb5f67fbe1e2604baa7ae5da9e3ea6e9c0bd3b14", func := "loop.example/vectorstore/laws.FnDotOfBound", spec := "fnDotOfBound", apart := false }
def FnDotOfBoundSaid : Prop := fnDotOfBoundRow.holds Try.pinned (OpenSpec.ofChange fnDotOfBoundSpec)

/-- ITS FALSE NEIGHBOUR: 'it returns false'. Refute it at one input. -/
def fnDotOfBoundWrong : ChangeSpec := { name := "fnDotOfBound", fn := fun _ => fun
  | [d] => { results := [.lit (.bool false)], args := [d] }
  | _ => none }
def FnDotOfBoundWrongFalsely : Prop := fnDotOfBoundRow.holds Try.pinned (OpenSpec.ofChange fnDotOfBoundWrong)

/-- 'laws.FnMeanOf': WHATEVER THE INPUT: true; the input reads as it did. -/
def fnMeanOfSpec : ChangeSpec := { name := "fnMeanOf", fn := fun _ => fun
  | [d] => { results := [.lit (.bool true)], args := [d] }
  | _ => none }
def fnMeanOfRow : OpenClaim := { program := "ytgokepoinohioaa", sum := "8e5af96ab21235500a73add4bb5f67fbe1e2604baa7ae5da9e3ea6e9c0bd3b14", func := "loop.example/vectorstore/laws.FnMeanOf", spec := "fnMeanOf", apart := false }
def FnMeanOfSaid : Prop := fnMeanOfRow.holds Try.pinned (OpenSpec.ofChange fnMeanOfSpec)

/-- ITS FALSE NEIGHBOUR: 'it returns false'. Refute it at one input. -/
def fnMeanOfWrong : ChangeSpec := { name := "fnMeanOf", fn := fun _ => fun
  | [d] => { results := [.lit (.bool false)], args := [d] }
  | _ => none }
def FnMeanOfWrongFalsely : Prop := fnMeanOfRow.holds Try.pinned (OpenSpec.ofChange fnMeanOfWrong)

/-- 'laws.FnMeanOfOne': WHATEVER THE INPUT: true; the input reads as it did. -/
def fnMeanOfOneSpec : ChangeSpec := { name := "fnMeanOfOne", fn := fun _ => fun
  | [d] => { results := [.lit (.bool true)], args := [d] }
  | _ => none }
def fnMeanOfOneRow : OpenClaim := { program := "ytgokepoinohioaa", sum := "8e5af96ab21235500a73add4bb5f67fbe1e2604baa7ae5da9e3ea6e9c0bd3b14", func := "loop.example/vectorstore/laws.FnMeanOfOne", spec := "fnMeanOfOne", apart := false }
def FnMeanOfOneSaid : Prop := fnMeanOfOneRow.holds Try.pinned (OpenSpec.ofChange fnMeanOfOneSpec)

/-- ITS FALSE NEIGHBOUR: 'it returns false'. Refute it at one input. -/
def fnMeanOfOneWrong : ChangeSpec := { name := "fnMeanOfOne", fn := fun _ => fun
  | [d] => { results := [.lit (.bool false)], args := [d] }
  | _ => none }
def FnMeanOfOneWrongFalsely : Prop := fnMeanOfOneRow.holds Try.pinned (OpenSpec.ofChange fnMeanOfOneWrong)

/-- 'laws.FnMoveTo': WHATEVER THE INPUT: true; the input reads as it did. -/
def fnMoveToSpec : ChangeSpec := { name := "fnMoveTo", fn := fun _ => fun
  | [d] => { results := [.lit (.bool true)], args := [d] }
  | _ => none }
def fnMoveToRow : OpenClaim := { program := "ytgokepoinohioaa", sum := "8e5af96ab21235500a73add4bb5f67fbe1e2604baa7ae5da9e3ea6e9c0bd3b14", func := "loop.example/vectorstore/laws.FnMoveTo", spec := "fnMoveTo", apart := false }
def FnMoveToSaid : Prop := fnMoveToRow.holds Try.pinned (OpenSpec.ofChange fnMoveToSpec)

/-- ITS FALSE NEIGHBOUR: 'it returns false'. Refute it at one input. -/
def fnMoveToWrong : ChangeSpec := { name := "fnMoveTo", fn := fun _ => fun
  | [d] => { results := [.lit (.bool false)], args := [d] }
  | _ => none }
def FnMoveToWrongFalsely : Prop := fnMoveToRow.holds Try.pinned (OpenSpec.ofChange fnMoveToWrong)

/-- 'laws.FnMoveToNearer': WHATEVER THE INPUT: true; the input reads as it did. -/
def fnMoveToNearerSpec : ChangeSpec := { name := "fnMoveToNearer", fn := fun _ => fun
  | [d] => { results := [.lit (.bool true)], args := [d] }
  | _ => none }
def fnMoveToNearerRow : OpenClaim := { program := "ytgokepoinohioaa", sum := "8e5af96ab21235500a73add4bb5f67fbe1e2604baa7ae5da9e3ea6e9c0bd3b14", func := "loop.example/vectorstore/laws.FnMoveToNearer", spec := "fnMoveToNearer", apart := false }
def FnMoveToNearerSaid : Prop := fnMoveToNearerRow.holds Try.pinned (OpenSpec.ofChange fnMoveToNearerSpec)

/-- ITS FALSE NEIGHBOUR: 'it returns false'. Refute it at one input. -/
def fnMoveToNearerWrong : ChangeSpec := { name := "fnMoveToNearer", fn := fun _ => fun
  | [d] => { results := [.lit (.bool false)], args := [d] }
  | _ => none }
def FnMoveToNearerWrongFalsely : Prop := fnMoveToNearerRow.holds Try.pinned (OpenSpec.ofChange fnMoveToNearerWrong)

/-- 'laws.FnValidStore': WHATEVER THE INPUT: true; the input reads as it did. -/
def fnValidStoreSpec : ChangeSpec := { name := "fnValidStore", fn := fun _ => fun
  | [d] => { results := [.lit (.bool true)], args := [d] }
  | _ => none }
def fnValidStoreRow : OpenClaim := { program := "ytgokepoinohioaa", sum := "8e5af96ab21235500a73add4bb5f67fbe1e2604baa7ae5da9e3ea6e9c0bd3b14", func := "loop.example/vectorstore/laws.FnValidStore", spec := "fnValidStore", apart := false }
def FnValidStoreSaid : Prop := fnValidStoreRow.holds Try.pinned (OpenSpec.ofChange fnValidStoreSpec)

/-- ITS FALSE NEIGHBOUR: 'it returns false'. Refute it at one input. -/
def fnValidStoreWrong : ChangeSpec := { name := "fnValidStore", fn := fun _ => fun
  | [d] => { results := [.lit (.bool false)], args := [d] }
  | _ => none }
def FnValidStoreWrongFalsely : Prop := fnValidStoreRow.holds Try.pinned (OpenSpec.ofChange fnValidStoreWrong)

/-- 'laws.FnPutItem': WHATEVER THE INPUT: true; the input reads as it did. -/
def fnPutItemSpec : ChangeSpec := { name := "fnPutItem", fn := fun _ => fun
  | [d] => { results := [.lit (.bool true)], args := [d] }
  | _ => none }
def fnPutItemRow : OpenClaim := { program := "ytgokepoinohioaa", sum := "8e5af96ab21235500a73add4bb5f67fbe1e2604baa7ae5da9e3ea6e9c0bd3b14", func := "loop.example/vectorstore/laws.FnPutItem", spec := "fnPutItem", inPlace := ["slices.overlaps[loop.example/vectorstore/impl.Item]"], unfollowed := true, recurses := true, apart := false }
def FnPutItemSaid : Prop := fnPutItemRow.holds Try.pinned (OpenSpec.ofChange fnPutItemSpec)

/-- ITS FALSE NEIGHBOUR: 'it returns false'. Refute it at one input. -/
def fnPutItemWrong : ChangeSpec := { name := "fnPutItem", fn := fun _ => fun
  | [d] => { results := [.lit (.bool false)], args := [d] }
  | _ => none }
def FnPutItemWrongFalsely : Prop := fnPutItemRow.holds Try.pinned (OpenSpec.ofChange fnPutItemWrong)

/- THE SECOND FORM. 'bulk': how many values and letters a reading holds, each counted each time it is reached (what is shared counts as often as it is met; a slice's spare places count too). A statement '..UptoSaid' is the law's where the arguments, and the package variables that the reading takes, are together of bulk at most 1048576: NARROWER than '..Said'. Prove '..Said' where nothing that the law and all that it calls make is longer than what came in: it says more and counts as full. Else prove '..UptoSaid'. A law counts once. -/
mutual
def uptoBulk {H : Type} : DataW H → Nat
  | .lit (.string bytes) => bytes.length + 1
  | .lit _ => 1
  | .nil => 1
  | .ptr d => uptoBulk d + 1
  | .slice elems spare => uptoBulkAll elems + uptoBulkAll spare + 1
  | .agg parts => uptoBulkAll parts + 1
  | .iface _ d => uptoBulk d + 1
  | .map entries => uptoBulkEntries entries + 1
  | .held _ => 1
def uptoBulkAll {H : Type} : List (DataW H) → Nat
  | [] => 0
  | d :: r => uptoBulk d + uptoBulkAll r
def uptoBulkEntries {H : Type} : List (Lit × DataW H) → Nat
  | [] => 0
  | x :: r => uptoBulkEntry x + uptoBulkEntries r
def uptoBulkEntry {H : Type} : Lit × DataW H → Nat
  | (.string bytes, d) => bytes.length + uptoBulk d + 1
  | (_, d) => uptoBulk d + 1
 end
def uptoSmall : (H : Type) → List (DataW H) → Bool := fun _ ds => decide (uptoBulkAll ds ≤ 1048576)
def OpenSpec.upto (s : _root_.Go.ChangeSpec) : _root_.Go.OpenSpec := { _root_.Go.OpenSpec.ofChange s with cond := some uptoSmall }

/-- 'laws.FnValidVector', WHERE WHAT IT READS IS OF BULK AT MOST 1048576: true; the input reads as it did. -/
def fnValidVectorUptoRow : OpenClaim := { program := "ytgokepoinohioaa", sum := "8e5af96ab21235500a73add4bb5f67fbe1e2604baa7ae5da9e3ea6e9c0bd3b14", func := "loop.example/vectorstore/laws.FnValidVector", spec := "fnValidVector", apart := false, narrowed := true }
def FnValidVectorUptoSaid : Prop := fnValidVectorUptoRow.holds Try.pinned (OpenSpec.upto fnValidVectorSpec)

/-- 'laws.FnDistance', WHERE WHAT IT READS IS OF BULK AT MOST 1048576: true; the input reads as it did. -/
def fnDistanceUptoRow : OpenClaim := { program := "ytgokepoinohioaa", sum := "8e5af96ab21235500a73add4bb5f67fbe1e2604baa7ae5da9e3ea6e9c0bd3b14", func := "loop.example/vectorstore/laws.FnDistance", spec := "fnDistance", apart := false, narrowed := true }
def FnDistanceUptoSaid : Prop := fnDistanceUptoRow.holds Try.pinned (OpenSpec.upto fnDistanceSpec)

/-- 'laws.FnDistanceKinds', WHERE WHAT IT READS IS OF BULK AT MOST 1048576: true; the input reads as it did. -/
def fnDistanceKindsUptoRow : OpenClaim := { program := "ytgokepoinohioaa", sum := "8e5af96ab21235500a73add4bb5f67fbe1e2604baa7ae5da9e3ea6e9c0bd3b14", func := "loop.example/vectorstore/laws.FnDistanceKinds", spec := "fnDistanceKinds", apart := false, narrowed := true }
def FnDistanceKindsUptoSaid : Prop := fnDistanceKindsUptoRow.holds Try.pinned (OpenSpec.upto fnDistanceKindsSpec)

/-- 'laws.FnDistanceTriangle', WHERE WHAT IT READS IS OF BULK AT MOST 1048576: true; the input reads as it did. -/
def fnDistanceTriangleUptoRow : OpenClaim := { program := "ytgokepoinohioaa", sum := "8e5af96ab21235500a73add4bb5f67fbe1e2604baa7ae5da9e3ea6e9c0bd3b14", func := "loop.example/vectorstore/laws.FnDistanceTriangle", spec := "fnDistanceTriangle", apart := false, narrowed := true }
def FnDistanceTriangleUptoSaid : Prop := fnDistanceTriangleUptoRow.holds Try.pinned (OpenSpec.upto fnDistanceTriangleSpec)

/-- 'laws.FnDotOf', WHERE WHAT IT READS IS OF BULK AT MOST 1048576: true; the input reads as it did. -/
def fnDotOfUptoRow : OpenClaim := { program := "ytgokepoinohioaa", sum := "8e5af96ab21235500a73add4bb5f67fbe1e2604baa7ae5da9e3ea6e9c0bd3b14", func := "loop.example/vectorstore/laws.FnDotOf", spec := "fnDotOf", apart := false, narrowed := true }
def FnDotOfUptoSaid : Prop := fnDotOfUptoRow.holds Try.pinned (OpenSpec.upto fnDotOfSpec)

/-- 'laws.FnDotOfBound', WHERE WHAT IT READS IS OF BULK AT MOST 1048576: true; the input reads as it did. -/
def fnDotOfBoundUptoRow : OpenClaim := { program := "ytgokepoinohioaa", sum := "8e5af96ab21235500a73add4bb5f67fbe1e2604baa7ae5da9e3ea6e9c0bd3b14", func := "loop.example/vectorstore/laws.FnDotOfBound", spec := "fnDotOfBound", apart := false, narrowed := true }
def FnDotOfBoundUptoSaid : Prop := fnDotOfBoundUptoRow.holds Try.pinned (OpenSpec.upto fnDotOfBoundSpec)

/-- 'laws.FnMeanOf', WHERE WHAT IT READS IS OF BULK AT MOST 1048576: true; the input reads as it did. -/
def fnMeanOfUptoRow : OpenClaim := { program := "ytgokepoinohioaa", sum := "8e5af96ab21235500a73add4bb5f67fbe1e2604baa7ae5da9e3ea6e9c0bd3b14", func := "loop.example/vectorstore/laws.FnMeanOf", spec := "fnMeanOf", apart := false, narrowed := true }
def FnMeanOfUptoSaid : Prop := fnMeanOfUptoRow.holds Try.pinned (OpenSpec.upto fnMeanOfSpec)

/-- 'laws.FnMeanOfOne', WHERE WHAT IT READS IS OF BULK AT MOST 1048576: true; the input reads as it did. -/
def fnMeanOfOneUptoRow : OpenClaim := { program := "ytgokepoinohioaa", sum := "8e5af96ab21235500a73add4bb5f67fbe1e2604baa7ae5da9e3ea6e9c0bd3b14", func := "loop.example/vectorstore/laws.FnMeanOfOne", spec := "fnMeanOfOne", apart := false, narrowed := true }
def FnMeanOfOneUptoSaid : Prop := fnMeanOfOneUptoRow.holds Try.pinned (OpenSpec.upto fnMeanOfOneSpec)

/-- 'laws.FnMoveTo', WHERE WHAT IT READS IS OF BULK AT MOST 1048576: true; the input reads as it did. -/
def fnMoveToUptoRow : OpenClaim := { program := "ytgokepoinohioaa", sum := "8e5af96ab21235500a73add4bb5f67fbe1e2604baa7ae5da9e3ea6e9c0bd3b14", func := "loop.example/vectorstore/laws.FnMoveTo", spec := "fnMoveTo", apart := false, narrowed := true }
def FnMoveToUptoSaid : Prop := fnMoveToUptoRow.holds Try.pinned (OpenSpec.upto fnMoveToSpec)

/-- 'laws.FnMoveToNearer', WHERE WHAT IT READS IS OF BULK AT MOST 1048576: true; the input reads as it did. -/
def fnMoveToNearerUptoRow : OpenClaim := { program := "ytgokepoinohioaa", sum := "8e5af96ab21235500a73add4bb5f67fbe1e2604baa7ae5da9e3ea6e9c0bd3b14", func := "loop.example/vectorstore/laws.FnMoveToNearer", spec := "fnMoveToNearer", apart := false, narrowed := true }
def FnMoveToNearerUptoSaid : Prop := fnMoveToNearerUptoRow.holds Try.pinned (OpenSpec.upto fnMoveToNearerSpec)

/-- 'laws.FnValidStore', WHERE WHAT IT READS IS OF BULK AT MOST 1048576: true; the input reads as it did. -/
def fnValidStoreUptoRow : OpenClaim := { program := "ytgokepoinohioaa", sum := "8e5af96ab21235500a73add4bb5f67fbe1e2604baa7ae5da9e3ea6e9c0bd3b14", func := "loop.example/vectorstore/laws.FnValidStore", spec := "fnValidStore", apart := false, narrowed := true }
def FnValidStoreUptoSaid : Prop := fnValidStoreUptoRow.holds Try.pinned (OpenSpec.upto fnValidStoreSpec)

/-- 'laws.FnPutItem', WHERE WHAT IT READS IS OF BULK AT MOST 1048576: true; the input reads as it did. -/
def fnPutItemUptoRow : OpenClaim := { program := "ytgokepoinohioaa", sum := "8e5af96ab21235500a73add4bb5f67fbe1e2604baa7ae5da9e3ea6e9c0bd3b14", func := "loop.example/vectorstore/laws.FnPutItem", spec := "fnPutItem", inPlace := ["slices.overlaps[loop.example/vectorstore/impl.Item]"], unfollowed := true, recurses := true, apart := false, narrowed := true }
def FnPutItemUptoSaid : Prop := fnPutItemUptoRow.holds Try.pinned (OpenSpec.upto fnPutItemSpec)

end Rows
end Go.Proofs.Ytgokepoinohioaa
