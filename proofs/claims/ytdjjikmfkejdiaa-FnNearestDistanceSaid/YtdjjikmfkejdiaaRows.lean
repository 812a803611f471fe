/-
  No cell of these rows narrows 'for every input' (looked for: loops, veiled, ifaces, maps, wideKeys, modest, calm, conditions, laid).
  DERIVED. THE GIVEN ROWS OF THIS SEAT. 11 by the template 'for every input the law returns true; each argument reads behind the call as it read before'; 0 by the template 'total and deterministic' (their statements: YtdjjikmfkejdiaaTotals.lean).
  GIVEN WITH THE SEED: the statements are not yours to turn. If you find one false, say at which input.
  Laid BY PROGRAM, IN A SANDBOX (cutbox-rows.mjs): the forced cells as the released guide's own fill.sh prints them over the translation 327fdf6fa67c4f6b… (all of the seat's roots in one cut). By AI agents, Wed Nov 11 2026. No macro, syntax, notation, axiom, sorry.
-/
import Derived.Test.YtdjjikmfkejdiaaChecked
import GoSem.Claim
import GoSem.ClaimJoined
import GoSem.ClaimMapViews
import Derived.JoinedTies
import Derived.KernelRfl
namespace Go.Proofs.Ytdjjikmfkejdiaa
/- THE CELL 'sum', in the pinned program and in every row, IS THE sha256 OF THE DUMP (.gsa) THAT YtdjjikmfkejdiaaProg.lean LOADS. Nothing in Lean hashes anything: it is a label: what it is worth is what the hold of that sum in a sandbox is worth. -/
noncomputable def Try.pinned : Pinned := { name := "ytdjjikmfkejdiaa", sum := "327fdf6fa67c4f6bd21266bd4d5c662c008c73835e8011a654bbd82d6deed46d", checked := Try.checked }
namespace Rows
def none {H : Type} : Left H := { results := [], args := [] }

/-- 'laws.FnBoundsOf': WHATEVER THE INPUT: true; the input reads as it did. -/
def fnBoundsOfSpec : ChangeSpec := { name := "fnBoundsOf", fn := fun _ => fun
  | [d] => { results := [.lit (.bool true)], args := [d] }
  | _ => none }
def fnBoundsOfRow : OpenClaim := { program := "ytdjjikmfkejdiaa", sum := "327fdf6fa67c4f6bd21266bd4d5c662c008c73835e8011a654bbd82d6deed46d", func := "loop.example/vectorstore/laws.FnBoundsOf", spec := "fnBoundsOf", unfollowed := true, recurses := true, apart := false }
def FnBoundsOfSaid : Prop := fnBoundsOfRow.holds Try.pinned (OpenSpec.ofChange fnBoundsOfSpec)

/-- ITS FALSE NEIGHBOUR: 'it returns false'. Refute it at one input. -/
def fnBoundsOfWrong : ChangeSpec := { name := "fnBoundsOf", fn := fun _ => fun
  | [d] => { results := [.lit (.bool false)], args := [d] }
  | _ => none }
def FnBoundsOfWrongFalsely : Prop := fnBoundsOfRow.holds Try.pinned (OpenSpec.ofChange fnBoundsOfWrong)

/-- 'laws.FnNearestDistance': WHATEVER THE INPUT: true; the input reads as it did. -/
def fnNearestDistanceSpec : ChangeSpec := { name := "fnNearestDistance", fn := fun _ => fun
  | [d] => { results := [.lit (.bool true)], args := [d] }
  | _ => none }
def fnNearestDistanceRow : OpenClaim := { program := "ytdjjikmfkejdiaa", sum := "327fdf6fa67c4f6bd21266bd4d5c662c008c73835e8011a654bbd82d6deed46d", func := "loop.example/vectorstore/laws.FnNearestDistance", spec := "fnNearestDistance", unfollowed := true, recurses := true, apart := false }
def FnNearestDistanceSaid : Prop := fnNearestDistanceRow.holds Try.pinned (OpenSpec.ofChange fnNearestDistanceSpec)

/-- ITS FALSE NEIGHBOUR: 'it returns false'. Refute it at one input. -/
def fnNearestDistanceWrong : ChangeSpec := { name := "fnNearestDistance", fn := fun _ => fun
  | [d] => { results := [.lit (.bool false)], args := [d] }
  | _ => none }
def FnNearestDistanceWrongFalsely : Prop := fnNearestDistanceRow.holds Try.pinned (OpenSpec.ofChange fnNearestDistanceWrong)

/-- 'laws.FnNearestMore': WHATEVER THE INPUT: true; the input reads as it did. -/
def fnNearestMoreSpec : ChangeSpec := { name := "fnNearestMore", fn := fun _ => fun
  | [d] => { results := [.lit (.bool true)], args := [d] }
  | _ => none }
def fnNearestMoreRow : OpenClaim := { program := "ytdjjikmfkejdiaa", sum := "327fdf6fa67c4f6bd21266bd4d5c662c008c73835e8011a654bbd82d6deed46d", func := "loop.example/vectorstore/laws.FnNearestMore", spec := "fnNearestMore", unfollowed := true, recurses := true, apart := false }
def FnNearestMoreSaid : Prop := fnNearestMoreRow.holds Try.pinned (OpenSpec.ofChange fnNearestMoreSpec)

/-- ITS FALSE NEIGHBOUR: 'it returns false'. Refute it at one input. -/
def fnNearestMoreWrong : ChangeSpec := { name := "fnNearestMore", fn := fun _ => fun
  | [d] => { results := [.lit (.bool false)], args := [d] }
  | _ => none }
def FnNearestMoreWrongFalsely : Prop := fnNearestMoreRow.holds Try.pinned (OpenSpec.ofChange fnNearestMoreWrong)

/-- 'laws.FnNearestOwn': WHATEVER THE INPUT: true; the input reads as it did. -/
def fnNearestOwnSpec : ChangeSpec := { name := "fnNearestOwn", fn := fun _ => fun
  | [d] => { results := [.lit (.bool true)], args := [d] }
  | _ => none }
def fnNearestOwnRow : OpenClaim := { program := "ytdjjikmfkejdiaa", sum := "327fdf6fa67c4f6bd21266bd4d5c662c008c73835e8011a654bbd82d6deed46d", func := "loop.example/vectorstore/laws.FnNearestOwn", spec := "fnNearestOwn", unfollowed := true, recurses := true, apart := false }
def FnNearestOwnSaid : Prop := fnNearestOwnRow.holds Try.pinned (OpenSpec.ofChange fnNearestOwnSpec)

/-- ITS FALSE NEIGHBOUR: 'it returns false'. Refute it at one input. -/
def fnNearestOwnWrong : ChangeSpec := { name := "fnNearestOwn", fn := fun _ => fun
  | [d] => { results := [.lit (.bool false)], args := [d] }
  | _ => none }
def FnNearestOwnWrongFalsely : Prop := fnNearestOwnRow.holds Try.pinned (OpenSpec.ofChange fnNearestOwnWrong)

/-- 'laws.FnWithinDistNearest': WHATEVER THE INPUT: true; the input reads as it did. -/
def fnWithinDistNearestSpec : ChangeSpec := { name := "fnWithinDistNearest", fn := fun _ => fun
  | [d] => { results := [.lit (.bool true)], args := [d] }
  | _ => none }
def fnWithinDistNearestRow : OpenClaim := { program := "ytdjjikmfkejdiaa", sum := "327fdf6fa67c4f6bd21266bd4d5c662c008c73835e8011a654bbd82d6deed46d", func := "loop.example/vectorstore/laws.FnWithinDistNearest", spec := "fnWithinDistNearest", unfollowed := true, recurses := true, apart := false }
def FnWithinDistNearestSaid : Prop := fnWithinDistNearestRow.holds Try.pinned (OpenSpec.ofChange fnWithinDistNearestSpec)

/-- ITS FALSE NEIGHBOUR: 'it returns false'. Refute it at one input. -/
def fnWithinDistNearestWrong : ChangeSpec := { name := "fnWithinDistNearest", fn := fun _ => fun
  | [d] => { results := [.lit (.bool false)], args := [d] }
  | _ => none }
def FnWithinDistNearestWrongFalsely : Prop := fnWithinDistNearestRow.holds Try.pinned (OpenSpec.ofChange fnWithinDistNearestWrong)

/-- 'laws.FnInBox': WHATEVER THE INPUT: true; the input reads as it did. -/
def fnInBoxSpec : ChangeSpec := { name := "fnInBox", fn := fun _ => fun
  | [d] => { results := [.lit (.bool true)], args := [d] }
  | _ => none }
def fnInBoxRow : OpenClaim := { program := "ytdjjikmfkejdiaa", sum := "327fdf6fa67c4f6bd21266bd4d5c662c008c73835e8011a654bbd82d6deed46d", func := "loop.example/vectorstore/laws.FnInBox", spec := "fnInBox", unfollowed := true, recurses := true, apart := false }
def FnInBoxSaid : Prop := fnInBoxRow.holds Try.pinned (OpenSpec.ofChange fnInBoxSpec)

/-- ITS FALSE NEIGHBOUR: 'it returns false'. Refute it at one input. -/
def fnInBoxWrong : ChangeSpec := { name := "fnInBox", fn := fun _ => fun
  | [d] => { results := [.lit (.bool false)], args := [d] }
  | _ => none }
def FnInBoxWrongFalsely : Prop := fnInBoxRow.holds Try.pinned (OpenSpec.ofChange fnInBoxWrong)

/-- 'laws.FnClosestPair': WHATEVER THE INPUT: true; the input reads as it did. -/
def fnClosestPairSpec : ChangeSpec := { name := "fnClosestPair", fn := fun _ => fun
  | [d] => { results := [.lit (.bool true)], args := [d] }
  | _ => none }
def fnClosestPairRow : OpenClaim := { program := "ytdjjikmfkejdiaa", sum := "327fdf6fa67c4f6bd21266bd4d5c662c008c73835e8011a654bbd82d6deed46d", func := "loop.example/vectorstore/laws.FnClosestPair", spec := "fnClosestPair", apart := false }
def FnClosestPairSaid : Prop := fnClosestPairRow.holds Try.pinned (OpenSpec.ofChange fnClosestPairSpec)

/-- ITS FALSE NEIGHBOUR: 'it returns false'. Refute it at one input. -/
def fnClosestPairWrong : ChangeSpec := { name := "fnClosestPair", fn := fun _ => fun
  | [d] => { results := [.lit (.bool false)], args := [d] }
  | _ => none }
def FnClosestPairWrongFalsely : Prop := fnClosestPairRow.holds Try.pinned (OpenSpec.ofChange fnClosestPairWrong)

/-- 'laws.FnClosestPairNearest': WHATEVER THE INPUT: true; the input reads as it did. -/
def fnClosestPairNearestSpec : ChangeSpec := { name := "fnClosestPairNearest", fn := fun _ => fun
  | [d] => { results := [.lit (.bool true)], args := [d] }
  | _ => none }
def fnClosestPairNearestRow : OpenClaim := { program := "ytdjjikmfkejdiaa", sum := "327fdf6fa67c4f6bd21266bd4d5c662c008c73835e8011a654bbd82d6deed46d", func := "loop.example/vectorstore/laws.FnClosestPairNearest", spec := "fnClosestPairNearest", unfollowed := true, recurses := true, apart := false }
def FnClosestPairNearestSaid : Prop := fnClosestPairNearestRow.holds Try.pinned (OpenSpec.ofChange fnClosestPairNearestSpec)

/-- ITS FALSE NEIGHBOUR: 'it returns false'. Refute it at one input. -/
def fnClosestPairNearestWrong : ChangeSpec := { name := "fnClosestPairNearest", fn := fun _ => fun
  | [d] => { results := [.lit (.bool false)], args := [d] }
  | _ => none }
def FnClosestPairNearestWrongFalsely : Prop := fnClosestPairNearestRow.holds Try.pinned (OpenSpec.ofChange fnClosestPairNearestWrong)

/-- 'laws.FnBuildTree': WHATEVER THE INPUT: true; the input reads as it did. -/
def fnBuildTreeSpec : ChangeSpec := { name := "fnBuildTree", fn := fun _ => fun
  | [d] => { results := [.lit (.bool true)], args := [d] }
  | _ => none }
def fnBuildTreeRow : OpenClaim := { program := "ytdjjikmfkejdiaa", sum := "327fdf6fa67c4f6bd21266bd4d5c662c008c73835e8011a654bbd82d6deed46d", func := "loop.example/vectorstore/laws.FnBuildTree", spec := "fnBuildTree", unfollowed := true, recurses := true, apart := false }
def FnBuildTreeSaid : Prop := fnBuildTreeRow.holds Try.pinned (OpenSpec.ofChange fnBuildTreeSpec)

/-- ITS FALSE NEIGHBOUR: 'it returns false'. Refute it at one input. -/
def fnBuildTreeWrong : ChangeSpec := { name := "fnBuildTree", fn := fun _ => fun
  | [d] => { results := [.lit (.bool false)], args := [d] }
  | _ => none }
def FnBuildTreeWrongFalsely : Prop := fnBuildTreeRow.holds Try.pinned (OpenSpec.ofChange fnBuildTreeWrong)

/-- 'laws.FnBuildTreeRadius': WHATEVER THE INPUT: true; the input reads as it did. -/
def fnBuildTreeRadiusSpec : ChangeSpec := { name := "fnBuildTreeRadius", fn := fun _ => fun
  | [d] => { results := [.lit (.bool true)], args := [d] }
  | _ => none }
def fnBuildTreeRadiusRow : OpenClaim := { program := "ytdjjikmfkejdiaa", sum := "327fdf6fa67c4f6bd21266bd4d5c662c008c73835e8011a654bbd82d6deed46d", func := "loop.example/vectorstore/laws.FnBuildTreeRadius", spec := "fnBuildTreeRadius", unfollowed := true, recurses := true, apart := false }
def FnBuildTreeRadiusSaid : Prop := fnBuildTreeRadiusRow.holds Try.pinned (OpenSpec.ofChange fnBuildTreeRadiusSpec)

/-- ITS FALSE NEIGHBOUR: 'it returns false'. Refute it at one input. -/
def fnBuildTreeRadiusWrong : ChangeSpec := { name := "fnBuildTreeRadius", fn := fun _ => fun
  | [d] => { results := [.lit (.bool false)], args := [d] }
  | _ => none }
def FnBuildTreeRadiusWrongFalsely : Prop := fnBuildTreeRadiusRow.holds Try.pinned (OpenSpec.ofChange fnBuildTreeRadiusWrong)

/-- 'laws.FnIsTreeOf': WHATEVER THE INPUT: true; the input reads as it did. -/
def fnIsTreeOfSpec : ChangeSpec := { name := "fnIsTreeOf", fn := fun _ => fun
  | [d] => { results := [.lit (.bool true)], args := [d] }
  | _ => none }
def fnIsTreeOfRow : OpenClaim := { program := "ytdjjikmfkejdiaa", sum := "327fdf6fa67c4f6bd21266bd4d5c662c008c73835e8011a654bbd82d6deed46d", func := "loop.example/vectorstore/laws.FnIsTreeOf", spec := "fnIsTreeOf", unfollowed := true, recurses := true, apart := false }
def FnIsTreeOfSaid : Prop := fnIsTreeOfRow.holds Try.pinned (OpenSpec.ofChange fnIsTreeOfSpec)

/-- ITS FALSE NEIGHBOUR: 'it returns false'. Refute it at one input. -/
def fnIsTreeOfWrong : ChangeSpec := { name := "fnIsTreeOf", fn := fun _ => fun
  | [d] => { results := [.lit (.bool false)], args := [d] }
  | _ => none }
def FnIsTreeOfWrongFalsely : Prop := fnIsTreeOfRow.holds Try.pinned (OpenSpec.ofChange fnIsTreeOfWrong)

/- THE SECOND FORM. 'bulk': how many values and letters a reading holds, each counted each time it is reached (what is shared counts as often as it is met; a slice's spare places count too). A statement '..UptoSaid' is the law's where the arguments, and the package variables that the reading takes, are together of bulk at most 1048576: NARROWER than '..Said'. Prove '..Said' where nothing that the law and all that it calls make is longer than what came in: it says more and counts as full. Else prove '..UptoSaid'. A law counts once. -/
mutual
def uptoBulk {H : Type} : DataW H → Nat
  | .lit (.string bytes) => bytes.length + 1
  | .lit _ => 1
  | .nil => 1
  | .ptr d => uptoBulk d + 1
  | .slice elems spare => uptoBulkAll elems + uptoBulkAll spare + 1
  | .agg parts => uptoBulkAll parts + 1
  | .iface _ d => uptoBulk d + 1
  | .map entries => uptoBulkEntries entries + 1
  | .held _ => 1
def uptoBulkAll {H : Type} : List (DataW H) → Nat
  | [] => 0
  | d :: r => uptoBulk d + uptoBulkAll r
def uptoBulkEntries {H : Type} : List (Lit × DataW H) → Nat
  | [] => 0
  | x :: r => uptoBulkEntry x + uptoBulkEntries r
def uptoBulkEntry {H : Type} : Lit × DataW H → Nat
  | (.string bytes, d) => bytes.length + uptoBulk d + 1
  | (_, d) => uptoBulk d + 1
 end
def uptoSmall : (H : Type) → List (DataW H) → Bool := fun _ ds => decide (uptoBulkAll ds ≤ 1048576)
def OpenSpec.upto (s : _root_.Go.ChangeSpec) : _root_.Go.OpenSpec := { _root_.Go.OpenSpec.ofChange s with cond := some uptoSmall }

/-- 'laws.FnBoundsOf', WHERE WHAT IT READS IS OF BULK AT MOST 1048576: true; the input reads as it did. -/
def fnBoundsOfUptoRow : OpenClaim := { program := "ytdjjikmfkejdiaa", sum := "327fdf6fa67c4f6bd21266bd4d5c662c008c73835e8011a654bbd82d6deed46d", func := "loop.example/vectorstore/laws.FnBoundsOf", spec := "fnBoundsOf", unfollowed := true, recurses := true, apart := false, narrowed := true }
def FnBoundsOfUptoSaid : Prop := fnBoundsOfUptoRow.holds Try.pinned (OpenSpec.upto fnBoundsOfSpec)

/-- 'laws.FnNearestDistance', WHERE WHAT IT READS IS OF BULK AT MOST 1048576: true; the input reads as it did. -/
def fnNearestDistanceUptoRow : OpenClaim := { program := "ytdjjikmfkejdiaa", sum := "327fdf6fa67c4f6bd21266bd4d5c662c008c73835e8011a654bbd82d6deed46d", func := "loop.example/vectorstore/laws.FnNearestDistance", spec := "fnNearestDistance", unfollowed := true, recurses := true, apart := false, narrowed := true }
def FnNearestDistanceUptoSaid : Prop := fnNearestDistanceUptoRow.holds Try.pinned (OpenSpec.upto fnNearestDistanceSpec)

/-- 'laws.FnNearestMore', WHERE WHAT IT READS IS OF BULK AT MOST 1048576: true; the input reads as it did. -/
def fnNearestMoreUptoRow : OpenClaim := { program := "ytdjjikmfkejdiaa", sum := "327fdf6fa67c4f6bd21266bd4d5c662c008c73835e8011a654bbd82d6deed46d", func := "loop.example/vectorstore/laws.FnNearestMore", spec := "fnNearestMore", unfollowed := true, recurses := true, apart := false, narrowed := true }
def FnNearestMoreUptoSaid : Prop := fnNearestMoreUptoRow.holds Try.pinned (OpenSpec.upto fnNearestMoreSpec)

/-- 'laws.FnNearestOwn', WHERE WHAT IT READS IS OF BULK AT MOST 1048576: true; the input reads as it did. -/
def fnNearestOwnUptoRow : OpenClaim := { program := "ytdjjikmfkejdiaa", sum := "327fdf6fa67c4f6bd21266bd4d5c662c008c73835e8011a654bbd82d6deed46d", func := "loop.example/vectorstore/laws.FnNearestOwn", spec := "fnNearestOwn", unfollowed := true, recurses := true, apart := false, narrowed := true }
def FnNearestOwnUptoSaid : Prop := fnNearestOwnUptoRow.holds Try.pinned (OpenSpec.upto fnNearestOwnSpec)

/-- 'laws.FnWithinDistNearest', WHERE WHAT IT READS IS OF BULK AT MOST 1048576: true; the input reads as it did. -/
def fnWithinDistNearestUptoRow : OpenClaim := { program := "ytdjjikmfkejdiaa", sum := "327fdf6fa67c4f6bd21266bd4d5c662c008c73835e8011a654bbd82d6deed46d", func := "loop.example/vectorstore/laws.FnWithinDistNearest", spec := "fnWithinDistNearest", unfollowed := true, recurses := true, apart := false, narrowed := true }
def FnWithinDistNearestUptoSaid : Prop := fnWithinDistNearestUptoRow.holds Try.pinned (OpenSpec.upto fnWithinDistNearestSpec)

/-- 'laws.FnInBox', WHERE WHAT IT READS IS OF BULK AT MOST 1048576: true; the input reads as it did. -/
def fnInBoxUptoRow : OpenClaim := { program := "ytdjjikmfkejdiaa", sum := "327fdf6fa67c4f6bd21266bd4d5c662c008c73835e8011a654bbd82d6deed46d", func := "loop.example/vectorstore/laws.FnInBox", spec := "fnInBox", unfollowed := true, recurses := true, apart := false, narrowed := true }
def FnInBoxUptoSaid : Prop := fnInBoxUptoRow.holds Try.pinned (OpenSpec.upto fnInBoxSpec)

/-- 'laws.FnClosestPair', WHERE WHAT IT READS IS OF BULK AT MOST 1048576: true; the input reads as it did. -/
def fnClosestPairUptoRow : OpenClaim := { program := "ytdjjikmfkejdiaa", sum := "327fdf6fa67c4f6bd21266bd4d5c662c008c73835e8011a654bbd82d6deed46d", func := "loop.example/vectorstore/laws.FnClosestPair", spec := "fnClosestPair", apart := false, narrowed := true }
def FnClosestPairUptoSaid : Prop := fnClosestPairUptoRow.holds Try.pinned (OpenSpec.upto fnClosestPairSpec)

/-- 'laws.FnClosestPairNearest', WHERE WHAT IT READS IS OF BULK AT MOST 1048576: true; the input reads as it did. -/
def fnClosestPairNearestUptoRow : OpenClaim := { program := "ytdjjikmfkejdiaa", sum := "327fdf6fa67c4f6bd21266bd4d5c662c008c73835e8011a654bbd82d6deed46d", func := "loop.example/vectorstore/laws.FnClosestPairNearest", spec := "fnClosestPairNearest", unfollowed := true, recurses := true, apart := false, narrowed := true }
def FnClosestPairNearestUptoSaid : Prop := fnClosestPairNearestUptoRow.holds Try.pinned (OpenSpec.upto fnClosestPairNearestSpec)

/-- 'laws.FnBuildTree', WHERE WHAT IT READS IS OF BULK AT MOST 1048576: true; the input reads as it did. -/
def fnBuildTreeUptoRow : OpenClaim := { program := "ytdjjikmfkejdiaa", sum := "327fdf6fa67c4f6bd21266bd4d5c662c008c73835e8011a654bbd82d6deed46d", func := "loop.example/vectorstore/laws.FnBuildTree", spec := "fnBuildTree", unfollowed := true, recurses := true, apart := false, narrowed := true }
def FnBuildTreeUptoSaid : Prop := fnBuildTreeUptoRow.holds Try.pinned (OpenSpec.upto fnBuildTreeSpec)

/-- 'laws.FnBuildTreeRadius', WHERE WHAT IT READS IS OF BULK AT MOST 1048576: true; the input reads as it did. -/
def fnBuildTreeRadiusUptoRow : OpenClaim := { program := "ytdjjikmfkejdiaa", sum := "327fdf6fa67c4f6bd21266bd4d5c662c008c73835e8011a654bbd82d6deed46d", func := "loop.example/vectorstore/laws.FnBuildTreeRadius", spec := "fnBuildTreeRadius", unfollowed := true, recurses := true, apart := false, narrowed := true }
def FnBuildTreeRadiusUptoSaid : Prop := fnBuildTreeRadiusUptoRow.holds Try.pinned (OpenSpec.upto fnBuildTreeRadiusSpec)

/-- 'laws.FnIsTreeOf', WHERE WHAT IT READS IS OF BULK AT MOST 1048576: true; the input reads as it did. -/
def fnIsTreeOfUptoRow : OpenClaim := { program := "ytdjjikmfkejdiaa", sum := "327fdf6fa67c4f6bd21266bd4d5c662c008c73835e8011a654bbd82d6deed46d", func := "loop.example/vectorstore/laws.FnIsTreeOf", spec := "fnIsTreeOf", unfollowed := true, recurses := true, apart := false, narrowed := true }
def FnIsTreeOfUptoSaid : Prop := fnIsTreeOfUptoRow.holds Try.pinned (OpenSpec.upto fnIsTreeOfSpec)

end Rows
end Go.Proofs.Ytdjjikmfkejdiaa
