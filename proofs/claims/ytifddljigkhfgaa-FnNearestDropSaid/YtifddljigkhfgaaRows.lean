/-
  No cell of these rows narrows 'for every input' (looked for: loops, veiled, ifaces, maps, wideKeys, modest, calm, conditions, laid).
  DERIVED. THE GIVEN ROWS OF THIS SEAT. 10 by the template 'for every input the law returns true; each argument reads behind the call as it read before'; 0 by the template 'total and deterministic' (their statements: YtifddljigkhfgaaTotals.lean).
  GIVEN WITH THE SEED: the statements are not yours to turn. If you find one false, say at which input.
  Laid BY PROGRAM, IN A SANDBOX (cutbox-rows.mjs): the forced cells as the released guide's own fill.sh prints them over the translation 4089bea329fd5f2a… (all of the seat's roots in one cut). By AI agents, Wed Nov 11 2026. No macro, syntax, notation, axiom, sorry.
-/
import Derived.Test.YtifddljigkhfgaaChecked
import GoSem.Claim
import GoSem.ClaimJoined
import GoSem.ClaimMapViews
import Derived.JoinedTies
import Derived.KernelRfl
namespace Go.Proofs.Ytifddljigkhfgaa
/- THE CELL 'sum', in the pinned program and in every row, IS THE sha256 OF THE DUMP (.gsa) THAT YtifddljigkhfgaaProg.lean LOADS. Nothing in Lean hashes anything: it is a label: what it is worth is what the hold of that sum in a sandbox is worth. -/
noncomputable def Try.pinned : Pinned := { name := "ytifddljigkhfgaa", sum := "4089bea329fd5f2ad7c5ea8c39e8cc12796c6efafb58cfb3f9d6a4c6e8b2147e", checked := Try.checked }
namespace Rows
def none {H : Type} : Left H := { results := [], args := [] }

/-- 'laws.FnNearestOwn': WHATEVER THE INPUT: true; the input reads as it did. -/
def fnNearestOwnSpec : ChangeSpec := { name := "fnNearestOwn", fn := fun _ => fun
  | [d] => { results := [.lit (.bool true)], args := [d] }
  | _ => none }
def fnNearestOwnRow : OpenClaim := { program := "ytifddljigkhfgaa", sum := "4089bea329fd5f2ad7c5ea8c39e8cc12796c6efafb58cfb3f9d6a4c6e8b2147e", func := "loop.example/vectorstore/laws.FnNearestOwn", spec := "fnNearestOwn", unfollowed := true, recurses := true, apart := false }
def FnNearestOwnSaid : Prop := fnNearestOwnRow.holds Try.pinned (OpenSpec.ofChange fnNearestOwnSpec)

/-- ITS FALSE NEIGHBOUR: 'it returns false'. Refute it at one input. -/
def fnNearestOwnWrong : ChangeSpec := { name := "fnNearestOwn", fn := fun _ => fun
  | [d] => { results := [.lit (.bool false)], args := [d] }
  | _ => none }
def FnNearestOwnWrongFalsely : Prop := fnNearestOwnRow.holds Try.pinned (OpenSpec.ofChange fnNearestOwnWrong)

/-- 'laws.FnWithinDistNearest': WHATEVER THE INPUT: true; the input reads as it did. -/
def fnWithinDistNearestSpec : ChangeSpec := { name := "fnWithinDistNearest", fn := fun _ => fun
  | [d] => { results := [.lit (.bool true)], args := [d] }
  | _ => none }
def fnWithinDistNearestRow : OpenClaim := { program := "ytifddljigkhfgaa", sum := "4089bea329fd5f2ad7c5ea8c39e8cc12796c6efafb58cfb3f9d6a4c6e8b2147e", func := "loop.example/vectorstore/laws.FnWithinDistNearest", spec := "fnWithinDistNearest", unfollowed := true, recurses := true, apart := false }
def FnWithinDistNearestSaid : Prop := fnWithinDistNearestRow.holds Try.pinned (OpenSpec.ofChange fnWithinDistNearestSpec)

/-- ITS FALSE NEIGHBOUR: 'it returns false'. Refute it at one input. -/
def fnWithinDistNearestWrong : ChangeSpec := { name := "fnWithinDistNearest", fn := fun _ => fun
  | [d] => { results := [.lit (.bool false)], args := [d] }
  | _ => none }
def FnWithinDistNearestWrongFalsely : Prop := fnWithinDistNearestRow.holds Try.pinned (OpenSpec.ofChange fnWithinDistNearestWrong)

/-- 'laws.FnInBoxMost': WHATEVER THE INPUT: true; the input reads as it did. -/
def fnInBoxMostSpec : ChangeSpec := { name := "fnInBoxMost", fn := fun _ => fun
  | [d] => { results := [.lit (.bool true)], args := [d] }
  | _ => none }
def fnInBoxMostRow : OpenClaim := { program := "ytifddljigkhfgaa", sum := "4089bea329fd5f2ad7c5ea8c39e8cc12796c6efafb58cfb3f9d6a4c6e8b2147e", func := "loop.example/vectorstore/laws.FnInBoxMost", spec := "fnInBoxMost", unfollowed := true, recurses := true, apart := false }
def FnInBoxMostSaid : Prop := fnInBoxMostRow.holds Try.pinned (OpenSpec.ofChange fnInBoxMostSpec)

/-- ITS FALSE NEIGHBOUR: 'it returns false'. Refute it at one input. -/
def fnInBoxMostWrong : ChangeSpec := { name := "fnInBoxMost", fn := fun _ => fun
  | [d] => { results := [.lit (.bool false)], args := [d] }
  | _ => none }
def FnInBoxMostWrongFalsely : Prop := fnInBoxMostRow.holds Try.pinned (OpenSpec.ofChange fnInBoxMostWrong)

/-- 'laws.FnClosestPairNearest': WHATEVER THE INPUT: true; the input reads as it did. -/
def fnClosestPairNearestSpec : ChangeSpec := { name := "fnClosestPairNearest", fn := fun _ => fun
  | [d] => { results := [.lit (.bool true)], args := [d] }
  | _ => none }
def fnClosestPairNearestRow : OpenClaim := { program := "ytifddljigkhfgaa", sum := "4089bea329fd5f2ad7c5ea8c39e8cc12796c6efafb58cfb3f9d6a4c6e8b2147e", func := "loop.example/vectorstore/laws.FnClosestPairNearest", spec := "fnClosestPairNearest", unfollowed := true, recurses := true, apart := false }
def FnClosestPairNearestSaid : Prop := fnClosestPairNearestRow.holds Try.pinned (OpenSpec.ofChange fnClosestPairNearestSpec)

/-- ITS FALSE NEIGHBOUR: 'it returns false'. Refute it at one input. -/
def fnClosestPairNearestWrong : ChangeSpec := { name := "fnClosestPairNearest", fn := fun _ => fun
  | [d] => { results := [.lit (.bool false)], args := [d] }
  | _ => none }
def FnClosestPairNearestWrongFalsely : Prop := fnClosestPairNearestRow.holds Try.pinned (OpenSpec.ofChange fnClosestPairNearestWrong)

/-- 'laws.FnBuildTree': WHATEVER THE INPUT: true; the input reads as it did. -/
def fnBuildTreeSpec : ChangeSpec := { name := "fnBuildTree", fn := fun _ => fun
  | [d] => { results := [.lit (.bool true)], args := [d] }
  | _ => none }
def fnBuildTreeRow : OpenClaim := { program := "ytifddljigkhfgaa", sum := "4089bea329fd5f2ad7c5ea8c39e8cc12796c6efafb58cfb3f9d6a4c6e8b2147e", func := "loop.example/vectorstore/laws.FnBuildTree", spec := "fnBuildTree", unfollowed := true, recurses := true, apart := false }
def FnBuildTreeSaid : Prop := fnBuildTreeRow.holds Try.pinned (OpenSpec.ofChange fnBuildTreeSpec)

/-- ITS FALSE NEIGHBOUR: 'it returns false'. Refute it at one input. -/
def fnBuildTreeWrong : ChangeSpec := { name := "fnBuildTree", fn := fun _ => fun
  | [d] => { results := [.lit (.bool false)], args := [d] }
  | _ => none }
def FnBuildTreeWrongFalsely : Prop := fnBuildTreeRow.holds Try.pinned (OpenSpec.ofChange fnBuildTreeWrong)

/-- 'laws.FnBuildTreeRadius': WHATEVER THE INPUT: true; the input reads as it did. -/
def fnBuildTreeRadiusSpec : ChangeSpec := { name := "fnBuildTreeRadius", fn := fun _ => fun
  | [d] => { results := [.lit (.bool true)], args := [d] }
  | _ => none }
def fnBuildTreeRadiusRow : OpenClaim := { program := "ytifddljigkhfgaa", sum := "4089bea329fd5f2ad7c5ea8c39e8cc12796c6efafb58cfb3f9d6a4c6e8b2147e", func := "loop.example/vectorstore/laws.FnBuildTreeRadius", spec := "fnBuildTreeRadius", unfollowed := true, recurses := true, apart := false }
def FnBuildTreeRadiusSaid : Prop := fnBuildTreeRadiusRow.holds Try.pinned (OpenSpec.ofChange fnBuildTreeRadiusSpec)

/-- ITS FALSE NEIGHBOUR: 'it returns false'. Refute it at one input. -/
def fnBuildTreeRadiusWrong : ChangeSpec := { name := "fnBuildTreeRadius", fn := fun _ => fun
  | [d] => { results := [.lit (.bool false)], args := [d] }
  | _ => none }
def FnBuildTreeRadiusWrongFalsely : Prop := fnBuildTreeRadiusRow.holds Try.pinned (OpenSpec.ofChange fnBuildTreeRadiusWrong)

/-- 'laws.FnIsTreeOf': WHATEVER THE INPUT: true; the input reads as it did. -/
def fnIsTreeOfSpec : ChangeSpec := { name := "fnIsTreeOf", fn := fun _ => fun
  | [d] => { results := [.lit (.bool true)], args := [d] }
  | _ => none }
def fnIsTreeOfRow : OpenClaim := { program := "ytifddljigkhfgaa", sum := "4089bea329fd5f2ad7c5ea8c39e8cc12796c6efafb58cfb3f9d6a4c6e8b2147e", func := "loop.example/vectorstore/laws.FnIsTreeOf", spec := "fnIsTreeOf", unfollowed := true, recurses := true, apart := false }
def FnIsTreeOfSaid : Prop := fnIsTreeOfRow.holds Try.pinned (OpenSpec.ofChange fnIsTreeOfSpec)

/-- ITS FALSE NEIGHBOUR: 'it returns false'. Refute it at one input. -/
def fnIsTreeOfWrong : ChangeSpec := { name := "fnIsTreeOf", fn := fun _ => fun
  | [d] => { results := [.lit (.bool false)], args := [d] }
  | _ => none }
def FnIsTreeOfWrongFalsely : Prop := fnIsTreeOfRow.holds Try.pinned (OpenSpec.ofChange fnIsTreeOfWrong)

/-- 'laws.FnTreeVisitsAll': WHATEVER THE INPUT: true; the input reads as it did. -/
def fnTreeVisitsAllSpec : ChangeSpec := { name := "fnTreeVisitsAll", fn := fun _ => fun
  | [d] => { results := [.lit (.bool true)], args := [d] }
  | _ => none }
def fnTreeVisitsAllRow : OpenClaim := { program := "ytifddljigkhfgaa", sum := "4089bea329fd5f2ad7c5ea8c39e8cc12796c6efafb58cfb3f9d6a4c6e8b2147e", func := "loop.example/vectorstore/laws.FnTreeVisitsAll", spec := "fnTreeVisitsAll", unfollowed := true, recurses := true, apart := false }
def FnTreeVisitsAllSaid : Prop := fnTreeVisitsAllRow.holds Try.pinned (OpenSpec.ofChange fnTreeVisitsAllSpec)

/-- ITS FALSE NEIGHBOUR: 'it returns false'. Refute it at one input. -/
def fnTreeVisitsAllWrong : ChangeSpec := { name := "fnTreeVisitsAll", fn := fun _ => fun
  | [d] => { results := [.lit (.bool false)], args := [d] }
  | _ => none }
def FnTreeVisitsAllWrongFalsely : Prop := fnTreeVisitsAllRow.holds Try.pinned (OpenSpec.ofChange fnTreeVisitsAllWrong)

/-- 'laws.FnNearestPut': WHATEVER THE INPUT: true; the input reads as it did. -/
def fnNearestPutSpec : ChangeSpec := { name := "fnNearestPut", fn := fun _ => fun
  | [d] => { results := [.lit (.bool true)], args := [d] }
  | _ => none }
def fnNearestPutRow : OpenClaim := { program := "ytifddljigkhfgaa", sum := "4089bea329fd5f2ad7c5ea8c39e8cc12796c6efafb58cfb3f9d6a4c6e8b2147e", func := "loop.example/vectorstore/laws.FnNearestPut", spec := "fnNearestPut", inPlace := ["slices.overlaps[loop.example/vectorstore/impl.Item]"], unfollowed := true, recurses := true, apart := false }
def FnNearestPutSaid : Prop := fnNearestPutRow.holds Try.pinned (OpenSpec.ofChange fnNearestPutSpec)

/-- ITS FALSE NEIGHBOUR: 'it returns false'. Refute it at one input. -/
def fnNearestPutWrong : ChangeSpec := { name := "fnNearestPut", fn := fun _ => fun
  | [d] => { results := [.lit (.bool false)], args := [d] }
  | _ => none }
def FnNearestPutWrongFalsely : Prop := fnNearestPutRow.holds Try.pinned (OpenSpec.ofChange fnNearestPutWrong)

/-- 'laws.FnNearestDrop': WHATEVER THE INPUT: true; the input reads as it did. -/
def fnNearestDropSpec : ChangeSpec := { name := "fnNearestDrop", fn := fun _ => fun
  | [d] => { results := [.lit (.bool true)], args := [d] }
  | _ => none }
def fnNearestDropRow : OpenClaim := { program := "ytifddljigkhfgaa", sum := "4089bea329fd5f2ad7c5ea8c39e8cc12796c6efafb58cfb3f9d6a4c6e8b2147e", func := "loop.example/vectorstore/laws.FnNearestDrop", spec := "fnNearestDrop", unfollowed := true, recurses := true, apart := false }
def FnNearestDropSaid : Prop := fnNearestDropRow.holds Try.pinned (OpenSpec.ofChange fnNearestDropSpec)

/-- ITS FALSE NEIGHBOUR: 'it returns false'. Refute it at one input. -/
def fnNearestDropWrong : ChangeSpec := { name := "fnNearestDrop", fn := fun _ => fun
  | [d] => { results := [.lit (.bool false)], args := [d] }
  | _ => none }
def FnNearestDropWrongFalsely : Prop := fnNearestDropRow.holds Try.pinned (OpenSpec.ofChange fnNearestDropWrong)

/- THE SECOND FORM. 'bulk': how many values and letters a reading holds, each counted each time it is reached (what is shared counts as often as it is met; a slice's spare places count too). A statement '..UptoSaid' is the law's where the arguments, and the package variables that the reading takes, are together of bulk at most 1048576: NARROWER than '..Said'. Prove '..Said' where nothing that the law and all that it calls make is longer than what came in: it says more and counts as full. Else prove '..UptoSaid'. A law counts once. -/
mutual
def uptoBulk {H : Type} : DataW H → Nat
  | .lit (.string bytes) => bytes.length + 1
  | .lit _ => 1
  | .nil => 1
  | .ptr d => uptoBulk d + 1
  | .slice elems spare => uptoBulkAll elems + uptoBulkAll spare + 1
  | .agg parts => uptoBulkAll parts + 1
  | .iface _ d => uptoBulk d + 1
  | .map entries => uptoBulkEntries entries + 1
  | .held _ => 1
def uptoBulkAll {H : Type} : List (DataW H) → Nat
  | [] => 0
  | d :: r => uptoBulk d + uptoBulkAll r
def uptoBulkEntries {H : Type} : List (Lit × DataW H) → Nat
  | [] => 0
  | x :: r => uptoBulkEntry x + uptoBulkEntries r
def uptoBulkEntry {H : Type} : Lit × DataW H → Nat
  | (.string bytes, d) => bytes.length + uptoBulk d + 1
  | (_, d) => uptoBulk d + 1
 end
def uptoSmall : (H : Type) → List (DataW H) → Bool := fun _ ds => decide (uptoBulkAll ds ≤ 1048576)
def OpenSpec.upto (s : _root_.Go.ChangeSpec) : _root_.Go.OpenSpec := { _root_.Go.OpenSpec.ofChange s with cond := some uptoSmall }

/-- 'laws.FnNearestOwn', WHERE WHAT IT READS IS OF BULK AT MOST 1048576: true; the input reads as it did. -/
def fnNearestOwnUptoRow : OpenClaim := { program := "ytifddljigkhfgaa", sum := "4089bea329fd5f2ad7c5ea8c39e8cc12796c6efafb58cfb3f9d6a4c6e8b2147e", func := "loop.example/vectorstore/laws.FnNearestOwn", spec := "fnNearestOwn", unfollowed := true, recurses := true, apart := false, narrowed := true }
def FnNearestOwnUptoSaid : Prop := fnNearestOwnUptoRow.holds Try.pinned (OpenSpec.upto fnNearestOwnSpec)

/-- 'laws.FnWithinDistNearest', WHERE WHAT IT READS IS OF BULK AT MOST 1048576: true; the input reads as it did. -/
def fnWithinDistNearestUptoRow : OpenClaim := { program := "ytifddljigkhfgaa", sum := "4089bea329fd5f2ad7c5ea8c39e8cc12796c6efafb58cfb3f9d6a4c6e8b2147e", func := "loop.example/vectorstore/laws.FnWithinDistNearest", spec := "fnWithinDistNearest", unfollowed := true, recurses := true, apart := false, narrowed := true }
def FnWithinDistNearestUptoSaid : Prop := fnWithinDistNearestUptoRow.holds Try.pinned (OpenSpec.upto fnWithinDistNearestSpec)

/-- 'laws.FnInBoxMost', WHERE WHAT IT READS IS OF BULK AT MOST 1048576: true; the input reads as it did. -/
def fnInBoxMostUptoRow : OpenClaim := { program := "ytifddljigkhfgaa", sum := "4089bea329fd5f2ad7c5ea8c39e8cc12796c6efafb58cfb3f9d6a4c6e8b2147e", func := "loop.example/vectorstore/laws.FnInBoxMost", spec := "fnInBoxMost", unfollowed := true, recurses := true, apart := false, narrowed := true }
def FnInBoxMostUptoSaid : Prop := fnInBoxMostUptoRow.holds Try.pinned (OpenSpec.upto fnInBoxMostSpec)

/-- 'laws.FnClosestPairNearest', WHERE WHAT IT READS IS OF BULK AT MOST 1048576: true; the input reads as it did. -/
def fnClosestPairNearestUptoRow : OpenClaim := { program := "ytifddljigkhfgaa", sum := "4089bea329fd5f2ad7c5ea8c39e8cc12796c6efafb58cfb3f9d6a4c6e8b2147e", func := "loop.example/vectorstore/laws.FnClosestPairNearest", spec := "fnClosestPairNearest", unfollowed := true, recurses := true, apart := false, narrowed := true }
def FnClosestPairNearestUptoSaid : Prop := fnClosestPairNearestUptoRow.holds Try.pinned (OpenSpec.upto fnClosestPairNearestSpec)

/-- 'laws.FnBuildTree', WHERE WHAT IT READS IS OF BULK AT MOST 1048576: true; the input reads as it did. -/
def fnBuildTreeUptoRow : OpenClaim := { program := "ytifddljigkhfgaa", sum := "4089bea329fd5f2ad7c5ea8c39e8cc12796c6efafb58cfb3f9d6a4c6e8b2147e", func := "loop.example/vectorstore/laws.FnBuildTree", spec := "fnBuildTree", unfollowed := true, recurses := true, apart := false, narrowed := true }
def FnBuildTreeUptoSaid : Prop := fnBuildTreeUptoRow.holds Try.pinned (OpenSpec.upto fnBuildTreeSpec)

/-- 'laws.FnBuildTreeRadius', WHERE WHAT IT READS IS OF BULK AT MOST 1048576: true; the input reads as it did. -/
def fnBuildTreeRadiusUptoRow : OpenClaim := { program := "ytifddljigkhfgaa", sum := "4089bea329fd5f2ad7c5ea8c39e8cc12796c6efafb58cfb3f9d6a4c6e8b2147e", func := "loop.example/vectorstore/laws.FnBuildTreeRadius", spec := "fnBuildTreeRadius", unfollowed := true, recurses := true, apart := false, narrowed := true }
def FnBuildTreeRadiusUptoSaid : Prop := fnBuildTreeRadiusUptoRow.holds Try.pinned (OpenSpec.upto fnBuildTreeRadiusSpec)

/-- 'laws.FnIsTreeOf', WHERE WHAT IT READS IS OF BULK AT MOST 1048576: true; the input reads as it did. -/
def fnIsTreeOfUptoRow : OpenClaim := { program := "ytifddljigkhfgaa", sum := "4089bea329fd5f2ad7c5ea8c39e8cc12796c6efafb58cfb3f9d6a4c6e8b2147e", func := "loop.example/vectorstore/laws.FnIsTreeOf", spec := "fnIsTreeOf", unfollowed := true, recurses := true, apart := false, narrowed := true }
def FnIsTreeOfUptoSaid : Prop := fnIsTreeOfUptoRow.holds Try.pinned (OpenSpec.upto fnIsTreeOfSpec)

/-- 'laws.FnTreeVisitsAll', WHERE WHAT IT READS IS OF BULK AT MOST 1048576: true; the input reads as it did. -/
def fnTreeVisitsAllUptoRow : OpenClaim := { program := "ytifddljigkhfgaa", sum := "4089bea329fd5f2ad7c5ea8c39e8cc12796c6efafb58cfb3f9d6a4c6e8b2147e", func := "loop.example/vectorstore/laws.FnTreeVisitsAll", spec := "fnTreeVisitsAll", unfollowed := true, recurses := true, apart := false, narrowed := true }
def FnTreeVisitsAllUptoSaid : Prop := fnTreeVisitsAllUptoRow.holds Try.pinned (OpenSpec.upto fnTreeVisitsAllSpec)

/-- 'laws.FnNearestPut', WHERE WHAT IT READS IS OF BULK AT MOST 1048576: true; the input reads as it did. -/
def fnNearestPutUptoRow : OpenClaim := { program := "ytifddljigkhfgaa", sum := "4089bea329fd5f2ad7c5ea8c39e8cc12796c6efafb58cfb3f9d6a4c6e8b2147e", func := "loop.example/vectorstore/laws.FnNearestPut", spec := "fnNearestPut", inPlace := ["slices.overlaps[loop.example/vectorstore/impl.Item]"], unfollowed := true, recurses := true, apart := false, narrowed := true }
def FnNearestPutUptoSaid : Prop := fnNearestPutUptoRow.holds Try.pinned (OpenSpec.upto fnNearestPutSpec)

/-- 'laws.FnNearestDrop', WHERE WHAT IT READS IS OF BULK AT MOST 1048576: true; the input reads as it did. -/
def fnNearestDropUptoRow : OpenClaim := { program := "ytifddljigkhfgaa", sum := "4089bea329fd5f2ad7c5ea8c39e8cc12796c6efafb58cfb3f9d6a4c6e8b2147e", func := "loop.example/vectorstore/laws.FnNearestDrop", spec := "fnNearestDrop", unfollowed := true, recurses := true, apart := false, narrowed := true }
def FnNearestDropUptoSaid : Prop := fnNearestDropUptoRow.holds Try.pinned (OpenSpec.upto fnNearestDropSpec)

end Rows
end Go.Proofs.Ytifddljigkhfgaa
