/-
  No cell of these rows narrows 'for every input' (looked for: loops, veiled, ifaces, maps, wideKeys, modest, calm, conditions, laid).
  DERIVED. THE GIVEN ROWS OF THIS SEAT. 12 by the template 'for every input the law returns true; each argument reads behind the call as it read before'; 0 by the template 'total and deterministic' (their statements: YtcgkbgidfilodaaTotals.lean).
  GIVEN WITH THE SEED: the statements are not yours to turn. If you find one false, say at which input.
  Laid BY PROGRAM, IN A SANDBOX (cutbox-rows.mjs): the forced cells as the released guide's own fill.sh prints them over the translation 51c0da7268b1a565… (all of the seat's roots in one cut). By AI agents, Wed Nov 11 2026. No macro, syntax, notation, axiom, sorry.
-/
import Derived.Test.YtcgkbgidfilodaaChecked
import GoSem.Claim
import GoSem.ClaimJoined
import GoSem.ClaimMapViews
import Derived.JoinedTies
import Derived.KernelRfl
namespace Go.Proofs.Ytcgkbgidfilodaa
/- THE CELL 'sum', in the pinned program and in every row, IS THE sha256 OF THE DUMP (.gsa) THAT YtcgkbgidfilodaaProg.lean LOADS. Nothing in Lean hashes anything: it is a label: what it is worth is what the hold of that sum in a sandbox is worth. -/
noncomputable def Try.pinned : Pinned := { name := "ytcgkbgidfilodaa", sum := "51c0da7268b1a565258b5b057b0938daa0433bbf5939885b29b9dfd2c2e636de", checked := Try.checked }
namespace Rows
def none {H : Type} : Left H := { results := [], args := [] }

/-- 'laws.FnNearestDistance': WHATEVER THE INPUT: true; the input reads as it did. -/
def fnNearestDistanceSpec : ChangeSpec := { name := "fnNearestDistance", fn := fun _ => fun
  | [d] => { results := [.lit (.bool true)], args := [d] }
  | _ => none }
def fnNearestDistanceRow : OpenClaim := { program := "ytcgkbgidfilodaa", sum := "51c0da7268b1a565258b5b057b0938daa0433bbf5939885b29b9dfd2c2e636de", func := "loop.example/vectorstore/laws.FnNearestDistance", spec := "fnNearestDistance", unfollowed := true, recurses := true, apart := false }
def FnNearestDistanceSaid : Prop := fnNearestDistanceRow.holds Try.pinned (OpenSpec.ofChange fnNearestDistanceSpec)

/-- ITS FALSE NEIGHBOUR: 'it returns false'. Refute it at one input. -/
def fnNearestDistanceWrong : ChangeSpec := { name := "fnNearestDistance", fn := fun _ => fun
  | [d] => { results := [.lit (.bool false)], args := [d] }
  | _ => none }
def FnNearestDistanceWrongFalsely : Prop := fnNearestDistanceRow.holds Try.pinned (OpenSpec.ofChange fnNearestDistanceWrong)

/-- 'laws.FnNearestMore': WHATEVER THE INPUT: true; the input reads as it did. -/
def fnNearestMoreSpec : ChangeSpec := { name := "fnNearestMore", fn := fun _ => fun
  | [d] => { results := [.lit (.bool true)], args := [d] }
  | _ => none }
def fnNearestMoreRow : OpenClaim := { program := "ytcgkbgidfilodaa", sum := "51c0da7268b1a565258b5b057b0938daa0433bbf5939885b29b9dfd2c2e636de", func := "loop.example/vectorstore/laws.FnNearestMore", spec := "fnNearestMore", unfollowed := true, recurses := true, apart := false }
def FnNearestMoreSaid : Prop := fnNearestMoreRow.holds Try.pinned (OpenSpec.ofChange fnNearestMoreSpec)

/-- ITS FALSE NEIGHBOUR: 'it returns false'. Refute it at one input. -/
def fnNearestMoreWrong : ChangeSpec := { name := "fnNearestMore", fn := fun _ => fun
  | [d] => { results := [.lit (.bool false)], args := [d] }
  | _ => none }
def FnNearestMoreWrongFalsely : Prop := fnNearestMoreRow.holds Try.pinned (OpenSpec.ofChange fnNearestMoreWrong)

/-- 'laws.FnInBoxOne': WHATEVER THE INPUT: true; the input reads as it did. -/
def fnInBoxOneSpec : ChangeSpec := { name := "fnInBoxOne", fn := fun _ => fun
  | [d] => { results := [.lit (.bool true)], args := [d] }
  | _ => none }
def fnInBoxOneRow : OpenClaim := { program := "ytcgkbgidfilodaa", sum := "51c0da7268b1a565258b5b057b0938daa0433bbf5939885b29b9dfd2c2e636de", func := "loop.example/vectorstore/laws.FnInBoxOne", spec := "fnInBoxOne", unfollowed := true, recurses := true, apart := false }
def FnInBoxOneSaid : Prop := fnInBoxOneRow.holds Try.pinned (OpenSpec.ofChange fnInBoxOneSpec)

/-- ITS FALSE NEIGHBOUR: 'it returns false'. Refute it at one input. -/
def fnInBoxOneWrong : ChangeSpec := { name := "fnInBoxOne", fn := fun _ => fun
  | [d] => { results := [.lit (.bool false)], args := [d] }
  | _ => none }
def FnInBoxOneWrongFalsely : Prop := fnInBoxOneRow.holds Try.pinned (OpenSpec.ofChange fnInBoxOneWrong)

/-- 'laws.FnClosestPairDrop': WHATEVER THE INPUT: true; the input reads as it did. -/
def fnClosestPairDropSpec : ChangeSpec := { name := "fnClosestPairDrop", fn := fun _ => fun
  | [d] => { results := [.lit (.bool true)], args := [d] }
  | _ => none }
def fnClosestPairDropRow : OpenClaim := { program := "ytcgkbgidfilodaa", sum := "51c0da7268b1a565258b5b057b0938daa0433bbf5939885b29b9dfd2c2e636de", func := "loop.example/vectorstore/laws.FnClosestPairDrop", spec := "fnClosestPairDrop", unfollowed := true, recurses := true, apart := false }
def FnClosestPairDropSaid : Prop := fnClosestPairDropRow.holds Try.pinned (OpenSpec.ofChange fnClosestPairDropSpec)

/-- ITS FALSE NEIGHBOUR: 'it returns false'. Refute it at one input. -/
def fnClosestPairDropWrong : ChangeSpec := { name := "fnClosestPairDrop", fn := fun _ => fun
  | [d] => { results := [.lit (.bool false)], args := [d] }
  | _ => none }
def FnClosestPairDropWrongFalsely : Prop := fnClosestPairDropRow.holds Try.pinned (OpenSpec.ofChange fnClosestPairDropWrong)

/-- 'laws.FnExactMeanOf': WHATEVER THE INPUT: true; the input reads as it did. -/
def fnExactMeanOfSpec : ChangeSpec := { name := "fnExactMeanOf", fn := fun _ => fun
  | [d] => { results := [.lit (.bool true)], args := [d] }
  | _ => none }
def fnExactMeanOfRow : OpenClaim := { program := "ytcgkbgidfilodaa", sum := "51c0da7268b1a565258b5b057b0938daa0433bbf5939885b29b9dfd2c2e636de", func := "loop.example/vectorstore/laws.FnExactMeanOf", spec := "fnExactMeanOf", apart := false }
def FnExactMeanOfSaid : Prop := fnExactMeanOfRow.holds Try.pinned (OpenSpec.ofChange fnExactMeanOfSpec)

/-- ITS FALSE NEIGHBOUR: 'it returns false'. Refute it at one input. -/
def fnExactMeanOfWrong : ChangeSpec := { name := "fnExactMeanOf", fn := fun _ => fun
  | [d] => { results := [.lit (.bool false)], args := [d] }
  | _ => none }
def FnExactMeanOfWrongFalsely : Prop := fnExactMeanOfRow.holds Try.pinned (OpenSpec.ofChange fnExactMeanOfWrong)

/-- 'laws.FnExactMoveTo': WHATEVER THE INPUT: true; the input reads as it did. -/
def fnExactMoveToSpec : ChangeSpec := { name := "fnExactMoveTo", fn := fun _ => fun
  | [d1, d2, d3] => { results := [.lit (.bool true)], args := [d1, d2, d3] }
  | _ => none }
def fnExactMoveToRow : OpenClaim := { program := "ytcgkbgidfilodaa", sum := "51c0da7268b1a565258b5b057b0938daa0433bbf5939885b29b9dfd2c2e636de", func := "loop.example/vectorstore/laws.FnExactMoveTo", spec := "fnExactMoveTo", apart := false }
def FnExactMoveToSaid : Prop := fnExactMoveToRow.holds Try.pinned (OpenSpec.ofChange fnExactMoveToSpec)

/-- ITS FALSE NEIGHBOUR: 'it returns false'. Refute it at one input. -/
def fnExactMoveToWrong : ChangeSpec := { name := "fnExactMoveTo", fn := fun _ => fun
  | [d1, d2, d3] => { results := [.lit (.bool false)], args := [d1, d2, d3] }
  | _ => none }
def FnExactMoveToWrongFalsely : Prop := fnExactMoveToRow.holds Try.pinned (OpenSpec.ofChange fnExactMoveToWrong)

/-- 'laws.FnExactPutItem': WHATEVER THE INPUT: true; the input reads as it did. -/
def fnExactPutItemSpec : ChangeSpec := { name := "fnExactPutItem", fn := fun _ => fun
  | [d1, d2] => { results := [.lit (.bool true)], args := [d1, d2] }
  | _ => none }
def fnExactPutItemRow : OpenClaim := { program := "ytcgkbgidfilodaa", sum := "51c0da7268b1a565258b5b057b0938daa0433bbf5939885b29b9dfd2c2e636de", func := "loop.example/vectorstore/laws.FnExactPutItem", spec := "fnExactPutItem", inPlace := ["slices.overlaps[loop.example/vectorstore/impl.Item]"], unfollowed := true, recurses := true, apart := false }
def FnExactPutItemSaid : Prop := fnExactPutItemRow.holds Try.pinned (OpenSpec.ofChange fnExactPutItemSpec)

/-- ITS FALSE NEIGHBOUR: 'it returns false'. Refute it at one input. -/
def fnExactPutItemWrong : ChangeSpec := { name := "fnExactPutItem", fn := fun _ => fun
  | [d1, d2] => { results := [.lit (.bool false)], args := [d1, d2] }
  | _ => none }
def FnExactPutItemWrongFalsely : Prop := fnExactPutItemRow.holds Try.pinned (OpenSpec.ofChange fnExactPutItemWrong)

/-- 'laws.FnExactDropItem': WHATEVER THE INPUT: true; the input reads as it did. -/
def fnExactDropItemSpec : ChangeSpec := { name := "fnExactDropItem", fn := fun _ => fun
  | [d1, d2] => { results := [.lit (.bool true)], args := [d1, d2] }
  | _ => none }
def fnExactDropItemRow : OpenClaim := { program := "ytcgkbgidfilodaa", sum := "51c0da7268b1a565258b5b057b0938daa0433bbf5939885b29b9dfd2c2e636de", func := "loop.example/vectorstore/laws.FnExactDropItem", spec := "fnExactDropItem", unfollowed := true, recurses := true, apart := false }
def FnExactDropItemSaid : Prop := fnExactDropItemRow.holds Try.pinned (OpenSpec.ofChange fnExactDropItemSpec)

/-- ITS FALSE NEIGHBOUR: 'it returns false'. Refute it at one input. -/
def fnExactDropItemWrong : ChangeSpec := { name := "fnExactDropItem", fn := fun _ => fun
  | [d1, d2] => { results := [.lit (.bool false)], args := [d1, d2] }
  | _ => none }
def FnExactDropItemWrongFalsely : Prop := fnExactDropItemRow.holds Try.pinned (OpenSpec.ofChange fnExactDropItemWrong)

/-- 'laws.FnExactGetItem': WHATEVER THE INPUT: true; the input reads as it did. -/
def fnExactGetItemSpec : ChangeSpec := { name := "fnExactGetItem", fn := fun _ => fun
  | [d1, d2] => { results := [.lit (.bool true)], args := [d1, d2] }
  | _ => none }
def fnExactGetItemRow : OpenClaim := { program := "ytcgkbgidfilodaa", sum := "51c0da7268b1a565258b5b057b0938daa0433bbf5939885b29b9dfd2c2e636de", func := "loop.example/vectorstore/laws.FnExactGetItem", spec := "fnExactGetItem", unfollowed := true, recurses := true, apart := false }
def FnExactGetItemSaid : Prop := fnExactGetItemRow.holds Try.pinned (OpenSpec.ofChange fnExactGetItemSpec)

/-- ITS FALSE NEIGHBOUR: 'it returns false'. Refute it at one input. -/
def fnExactGetItemWrong : ChangeSpec := { name := "fnExactGetItem", fn := fun _ => fun
  | [d1, d2] => { results := [.lit (.bool false)], args := [d1, d2] }
  | _ => none }
def FnExactGetItemWrongFalsely : Prop := fnExactGetItemRow.holds Try.pinned (OpenSpec.ofChange fnExactGetItemWrong)

/-- 'laws.FnExactBoundsOf': WHATEVER THE INPUT: true; the input reads as it did. -/
def fnExactBoundsOfSpec : ChangeSpec := { name := "fnExactBoundsOf", fn := fun _ => fun
  | [d] => { results := [.lit (.bool true)], args := [d] }
  | _ => none }
def fnExactBoundsOfRow : OpenClaim := { program := "ytcgkbgidfilodaa", sum := "51c0da7268b1a565258b5b057b0938daa0433bbf5939885b29b9dfd2c2e636de", func := "loop.example/vectorstore/laws.FnExactBoundsOf", spec := "fnExactBoundsOf", apart := false }
def FnExactBoundsOfSaid : Prop := fnExactBoundsOfRow.holds Try.pinned (OpenSpec.ofChange fnExactBoundsOfSpec)

/-- ITS FALSE NEIGHBOUR: 'it returns false'. Refute it at one input. -/
def fnExactBoundsOfWrong : ChangeSpec := { name := "fnExactBoundsOf", fn := fun _ => fun
  | [d] => { results := [.lit (.bool false)], args := [d] }
  | _ => none }
def FnExactBoundsOfWrongFalsely : Prop := fnExactBoundsOfRow.holds Try.pinned (OpenSpec.ofChange fnExactBoundsOfWrong)

/-- 'laws.FnExactInBox': WHATEVER THE INPUT: true; the input reads as it did. -/
def fnExactInBoxSpec : ChangeSpec := { name := "fnExactInBox", fn := fun _ => fun
  | [d1, d2, d3] => { results := [.lit (.bool true)], args := [d1, d2, d3] }
  | _ => none }
def fnExactInBoxRow : OpenClaim := { program := "ytcgkbgidfilodaa", sum := "51c0da7268b1a565258b5b057b0938daa0433bbf5939885b29b9dfd2c2e636de", func := "loop.example/vectorstore/laws.FnExactInBox", spec := "fnExactInBox", apart := false }
def FnExactInBoxSaid : Prop := fnExactInBoxRow.holds Try.pinned (OpenSpec.ofChange fnExactInBoxSpec)

/-- ITS FALSE NEIGHBOUR: 'it returns false'. Refute it at one input. -/
def fnExactInBoxWrong : ChangeSpec := { name := "fnExactInBox", fn := fun _ => fun
  | [d1, d2, d3] => { results := [.lit (.bool false)], args := [d1, d2, d3] }
  | _ => none }
def FnExactInBoxWrongFalsely : Prop := fnExactInBoxRow.holds Try.pinned (OpenSpec.ofChange fnExactInBoxWrong)

/-- 'laws.FnExactClosestPair': WHATEVER THE INPUT: true; the input reads as it did. -/
def fnExactClosestPairSpec : ChangeSpec := { name := "fnExactClosestPair", fn := fun _ => fun
  | [d1, d2] => { results := [.lit (.bool true)], args := [d1, d2] }
  | _ => none }
def fnExactClosestPairRow : OpenClaim := { program := "ytcgkbgidfilodaa", sum := "51c0da7268b1a565258b5b057b0938daa0433bbf5939885b29b9dfd2c2e636de", func := "loop.example/vectorstore/laws.FnExactClosestPair", spec := "fnExactClosestPair", apart := false }
def FnExactClosestPairSaid : Prop := fnExactClosestPairRow.holds Try.pinned (OpenSpec.ofChange fnExactClosestPairSpec)

/-- ITS FALSE NEIGHBOUR: 'it returns false'. Refute it at one input. -/
def fnExactClosestPairWrong : ChangeSpec := { name := "fnExactClosestPair", fn := fun _ => fun
  | [d1, d2] => { results := [.lit (.bool false)], args := [d1, d2] }
  | _ => none }
def FnExactClosestPairWrongFalsely : Prop := fnExactClosestPairRow.holds Try.pinned (OpenSpec.ofChange fnExactClosestPairWrong)

/- THE SECOND FORM. 'bulk': how many values and letters a reading holds, each counted each time it is reached (what is shared counts as often as it is met; a slice's spare places count too). A statement '..UptoSaid' is the law's where the arguments, and the package variables that the reading takes, are together of bulk at most 1048576: NARROWER than '..Said'. Prove '..Said' where nothing that the law and all that it calls make is longer than what came in: it says more and counts as full. Else prove '..UptoSaid'. A law counts once. -/
mutual
def uptoBulk {H : Type} : DataW H → Nat
  | .lit (.string bytes) => bytes.length + 1
  | .lit _ => 1
  | .nil => 1
  | .ptr d => uptoBulk d + 1
  | .slice elems spare => uptoBulkAll elems + uptoBulkAll spare + 1
  | .agg parts => uptoBulkAll parts + 1
  | .iface _ d => uptoBulk d + 1
  | .map entries => uptoBulkEntries entries + 1
  | .held _ => 1
def uptoBulkAll {H : Type} : List (DataW H) → Nat
  | [] => 0
  | d :: r => uptoBulk d + uptoBulkAll r
def uptoBulkEntries {H : Type} : List (Lit × DataW H) → Nat
  | [] => 0
  | x :: r => uptoBulkEntry x + uptoBulkEntries r
def uptoBulkEntry {H : Type} : Lit × DataW H → Nat
  | (.string bytes, d) => bytes.length + uptoBulk d + 1
  | (_, d) => uptoBulk d + 1
 end
def uptoSmall : (H : Type) → List (DataW H) → Bool := fun _ ds => decide (uptoBulkAll ds ≤ 1048576)
def OpenSpec.upto (s : _root_.Go.ChangeSpec) : _root_.Go.OpenSpec := { _root_.Go.OpenSpec.ofChange s with cond := some uptoSmall }

/-- 'laws.FnNearestDistance', WHERE WHAT IT READS IS OF BULK AT MOST 1048576: true; the input reads as it did. -/
def fnNearestDistanceUptoRow : OpenClaim := { program := "ytcgkbgidfilodaa", sum := "51c0da7268b1a565258b5b057b0938daa0433bbf5939885b29b9dfd2c2e636de", func := "loop.example/vectorstore/laws.FnNearestDistance", spec := "fnNearestDistance", unfollowed := true, recurses := true, apart := false, narrowed := true }
def FnNearestDistanceUptoSaid : Prop := fnNearestDistanceUptoRow.holds Try.pinned (OpenSpec.upto fnNearestDistanceSpec)

/-- 'laws.FnNearestMore', WHERE WHAT IT READS IS OF BULK AT MOST 1048576: true; the input reads as it did. -/
def fnNearestMoreUptoRow : OpenClaim := { program := "ytcgkbgidfilodaa", sum := "51c0da7268b1a565258b5b057b0938daa0433bbf5939885b29b9dfd2c2e636de", func := "loop.example/vectorstore/laws.FnNearestMore", spec := "fnNearestMore", unfollowed := true, recurses := true, apart := false, narrowed := true }
def FnNearestMoreUptoSaid : Prop := fnNearestMoreUptoRow.holds Try.pinned (OpenSpec.upto fnNearestMoreSpec)

/-- 'laws.FnInBoxOne', WHERE WHAT IT READS IS OF BULK AT MOST 1048576: true; the input reads as it did. -/
def fnInBoxOneUptoRow : OpenClaim := { program := "ytcgkbgidfilodaa", sum := "51c0da7268b1a565258b5b057b0938daa0433bbf5939885b29b9dfd2c2e636de", func := "loop.example/vectorstore/laws.FnInBoxOne", spec := "fnInBoxOne", unfollowed := true, recurses := true, apart := false, narrowed := true }
def FnInBoxOneUptoSaid : Prop := fnInBoxOneUptoRow.holds Try.pinned (OpenSpec.upto fnInBoxOneSpec)

/-- 'laws.FnClosestPairDrop', WHERE WHAT IT READS IS OF BULK AT MOST 1048576: true; the input reads as it did. -/
def fnClosestPairDropUptoRow : OpenClaim := { program := "ytcgkbgidfilodaa", sum := "51c0da7268b1a565258b5b057b0938daa0433bbf5939885b29b9dfd2c2e636de", func := "loop.example/vectorstore/laws.FnClosestPairDrop", spec := "fnClosestPairDrop", unfollowed := true, recurses := true, apart := false, narrowed := true }
def FnClosestPairDropUptoSaid : Prop := fnClosestPairDropUptoRow.holds Try.pinned (OpenSpec.upto fnClosestPairDropSpec)

/-- 'laws.FnExactMeanOf', WHERE WHAT IT READS IS OF BULK AT MOST 1048576: true; the input reads as it did. -/
def fnExactMeanOfUptoRow : OpenClaim := { program := "ytcgkbgidfilodaa", sum := "51c0da7268b1a565258b5b057b0938daa0433bbf5939885b29b9dfd2c2e636de", func := "loop.example/vectorstore/laws.FnExactMeanOf", spec := "fnExactMeanOf", apart := false, narrowed := true }
def FnExactMeanOfUptoSaid : Prop := fnExactMeanOfUptoRow.holds Try.pinned (OpenSpec.upto fnExactMeanOfSpec)

/-- 'laws.FnExactMoveTo', WHERE WHAT IT READS IS OF BULK AT MOST 1048576: true; the input reads as it did. -/
def fnExactMoveToUptoRow : OpenClaim := { program := "ytcgkbgidfilodaa", sum := "51c0da7268b1a565258b5b057b0938daa0433bbf5939885b29b9dfd2c2e636de", func := "loop.example/vectorstore/laws.FnExactMoveTo", spec := "fnExactMoveTo", apart := false, narrowed := true }
def FnExactMoveToUptoSaid : Prop := fnExactMoveToUptoRow.holds Try.pinned (OpenSpec.upto fnExactMoveToSpec)

/-- 'laws.FnExactPutItem', WHERE WHAT IT READS IS OF BULK AT MOST 1048576: true; the input reads as it did. -/
def fnExactPutItemUptoRow : OpenClaim := { program := "ytcgkbgidfilodaa", sum := "51c0da7268b1a565258b5b057b0938daa0433bbf5939885b29b9dfd2c2e636de", func := "loop.example/vectorstore/laws.FnExactPutItem", spec := "fnExactPutItem", inPlace := ["slices.overlaps[loop.example/vectorstore/impl.Item]"], unfollowed := true, recurses := true, apart := false, narrowed := true }
def FnExactPutItemUptoSaid : Prop := fnExactPutItemUptoRow.holds Try.pinned (OpenSpec.upto fnExactPutItemSpec)

/-- 'laws.FnExactDropItem', WHERE WHAT IT READS IS OF BULK AT MOST 1048576: true; the input reads as it did. -/
def fnExactDropItemUptoRow : OpenClaim := { program := "ytcgkbgidfilodaa", sum := "51c0da7268b1a565258b5b057b0938daa0433bbf5939885b29b9dfd2c2e636de", func := "loop.example/vectorstore/laws.FnExactDropItem", spec := "fnExactDropItem", unfollowed := true, recurses := true, apart := false, narrowed := true }
def FnExactDropItemUptoSaid : Prop := fnExactDropItemUptoRow.holds Try.pinned (OpenSpec.upto fnExactDropItemSpec)

/-- 'laws.FnExactGetItem', WHERE WHAT IT READS IS OF BULK AT MOST 1048576: true; the input reads as it did. -/
def fnExactGetItemUptoRow : OpenClaim := { program := "ytcgkbgidfilodaa", sum := "51c0da7268b1a565258b5b057b0938daa0433bbf5939885b29b9dfd2c2e636de", func := "loop.example/vectorstore/laws.FnExactGetItem", spec := "fnExactGetItem", unfollowed := true, recurses := true, apart := false, narrowed := true }
def FnExactGetItemUptoSaid : Prop := fnExactGetItemUptoRow.holds Try.pinned (OpenSpec.upto fnExactGetItemSpec)

/-- 'laws.FnExactBoundsOf', WHERE WHAT IT READS IS OF BULK AT MOST 1048576: true; the input reads as it did. -/
def fnExactBoundsOfUptoRow : OpenClaim := { program := "ytcgkbgidfilodaa", sum := "51c0da7268b1a565258b5b057b0938daa0433bbf5939885b29b9dfd2c2e636de", func := "loop.example/vectorstore/laws.FnExactBoundsOf", spec := "fnExactBoundsOf", apart := false, narrowed := true }
def FnExactBoundsOfUptoSaid : Prop := fnExactBoundsOfUptoRow.holds Try.pinned (OpenSpec.upto fnExactBoundsOfSpec)

/-- 'laws.FnExactInBox', WHERE WHAT IT READS IS OF BULK AT MOST 1048576: true; the input reads as it did. -/
def fnExactInBoxUptoRow : OpenClaim := { program := "ytcgkbgidfilodaa", sum := "51c0da7268b1a565258b5b057b0938daa0433bbf5939885b29b9dfd2c2e636de", func := "loop.example/vectorstore/laws.FnExactInBox", spec := "fnExactInBox", apart := false, narrowed := true }
def FnExactInBoxUptoSaid : Prop := fnExactInBoxUptoRow.holds Try.pinned (OpenSpec.upto fnExactInBoxSpec)

/-- 'laws.FnExactClosestPair', WHERE WHAT IT READS IS OF BULK AT MOST 1048576: true; the input reads as it did. -/
def fnExactClosestPairUptoRow : OpenClaim := { program := "ytcgkbgidfilodaa", sum := "51c0da7268b1a565258b5b057b0938daa0433bbf5939885b29b9dfd2c2e636de", func := "loop.example/vectorstore/laws.FnExactClosestPair", spec := "fnExactClosestPair", apart := false, narrowed := true }
def FnExactClosestPairUptoSaid : Prop := fnExactClosestPairUptoRow.holds Try.pinned (OpenSpec.upto fnExactClosestPairSpec)

end Rows
end Go.Proofs.Ytcgkbgidfilodaa
