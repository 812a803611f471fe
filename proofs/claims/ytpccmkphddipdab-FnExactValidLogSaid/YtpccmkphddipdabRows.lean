/-
  No cell of these rows narrows 'for every input' (looked for: loops, veiled, ifaces, maps, wideKeys, modest, calm, conditions, laid).
  DERIVED. THE GIVEN ROWS OF THIS SEAT. 10 by the template 'for every input the law returns true; each argument reads behind the call as it read before'; 0 by the template 'total and deterministic' (their statements: YtpccmkphddipdabTotals.lean).
  GIVEN WITH THE SEED: the statements are not yours to turn. If you find one false, say at which input.
  Laid BY PROGRAM, IN A SANDBOX (cutbox-rows.mjs): the forced cells as the released guide's own fill.sh prints them over the translation e9d23efbe46b2613… (all of the seat's roots in one cut). By AI agents, Wed Nov 11 2026. No macro, syntax, notation, axiom, sorry.
-/
import Derived.Test.YtpccmkphddipdabChecked
import GoSem.Claim
import GoSem.ClaimJoined
import GoSem.ClaimMapViews
import Derived.JoinedTies
import Derived.KernelRfl
namespace Go.Proofs.Ytpccmkphddipdab
/- THE CELL 'sum', in the pinned program and in every row, IS THE sha256 OF THE DUMP (.gsa) THAT YtpccmkphddipdabProg.lean LOADS. Nothing in Lean hashes anything: it is a label: what it is worth is what the hold of that sum in a sandbox is worth. -/
noncomputable def Try.pinned : Pinned := { name := "ytpccmkphddipdab", sum := "e9d23efbe46b26136ccc92f8b7bfe67b89ea3b29386e5e3d4f267f8a84e44a7c", checked := Try.checked }
namespace Rows
def none {H : Type} : Left H := { results := [], args := [] }

/-- 'laws.FnMovedKeys': WHATEVER THE INPUT: true; the input reads as it did. -/
def fnMovedKeysSpec : ChangeSpec := { name := "fnMovedKeys", fn := fun _ => fun
  | [d] => { results := [.lit (.bool true)], args := [d] }
  | _ => none }
def fnMovedKeysRow : OpenClaim := { program := "ytpccmkphddipdab", sum := "e9d23efbe46b26136ccc92f8b7bfe67b89ea3b29386e5e3d4f267f8a84e44a7c", func := "loop.example/vectorstore/laws.FnMovedKeys", spec := "fnMovedKeys", unfollowed := true, recurses := true, apart := false }
def FnMovedKeysSaid : Prop := fnMovedKeysRow.holds Try.pinned (OpenSpec.ofChange fnMovedKeysSpec)

/-- ITS FALSE NEIGHBOUR: 'it returns false'. Refute it at one input. -/
def fnMovedKeysWrong : ChangeSpec := { name := "fnMovedKeys", fn := fun _ => fun
  | [d] => { results := [.lit (.bool false)], args := [d] }
  | _ => none }
def FnMovedKeysWrongFalsely : Prop := fnMovedKeysRow.holds Try.pinned (OpenSpec.ofChange fnMovedKeysWrong)

/-- 'laws.FnReplayLogCount': WHATEVER THE INPUT: true; the input reads as it did. -/
def fnReplayLogCountSpec : ChangeSpec := { name := "fnReplayLogCount", fn := fun _ => fun
  | [d] => { results := [.lit (.bool true)], args := [d] }
  | _ => none }
def fnReplayLogCountRow : OpenClaim := { program := "ytpccmkphddipdab", sum := "e9d23efbe46b26136ccc92f8b7bfe67b89ea3b29386e5e3d4f267f8a84e44a7c", func := "loop.example/vectorstore/laws.FnReplayLogCount", spec := "fnReplayLogCount", unfollowed := true, recurses := true, apart := false }
def FnReplayLogCountSaid : Prop := fnReplayLogCountRow.holds Try.pinned (OpenSpec.ofChange fnReplayLogCountSpec)

/-- ITS FALSE NEIGHBOUR: 'it returns false'. Refute it at one input. -/
def fnReplayLogCountWrong : ChangeSpec := { name := "fnReplayLogCount", fn := fun _ => fun
  | [d] => { results := [.lit (.bool false)], args := [d] }
  | _ => none }
def FnReplayLogCountWrongFalsely : Prop := fnReplayLogCountRow.holds Try.pinned (OpenSpec.ofChange fnReplayLogCountWrong)

/-- 'laws.FnLogBetweenEmpty': WHATEVER THE INPUT: true; the input reads as it did. -/
def fnLogBetweenEmptySpec : ChangeSpec := { name := "fnLogBetweenEmpty", fn := fun _ => fun
  | [d] => { results := [.lit (.bool true)], args := [d] }
  | _ => none }
def fnLogBetweenEmptyRow : OpenClaim := { program := "ytpccmkphddipdab", sum := "e9d23efbe46b26136ccc92f8b7bfe67b89ea3b29386e5e3d4f267f8a84e44a7c", func := "loop.example/vectorstore/laws.FnLogBetweenEmpty", spec := "fnLogBetweenEmpty", unfollowed := true, recurses := true, apart := false }
def FnLogBetweenEmptySaid : Prop := fnLogBetweenEmptyRow.holds Try.pinned (OpenSpec.ofChange fnLogBetweenEmptySpec)

/-- ITS FALSE NEIGHBOUR: 'it returns false'. Refute it at one input. -/
def fnLogBetweenEmptyWrong : ChangeSpec := { name := "fnLogBetweenEmpty", fn := fun _ => fun
  | [d] => { results := [.lit (.bool false)], args := [d] }
  | _ => none }
def FnLogBetweenEmptyWrongFalsely : Prop := fnLogBetweenEmptyRow.holds Try.pinned (OpenSpec.ofChange fnLogBetweenEmptyWrong)

/-- 'laws.FnShardOfSpread': WHATEVER THE INPUT: true; the input reads as it did. -/
def fnShardOfSpreadSpec : ChangeSpec := { name := "fnShardOfSpread", fn := fun _ => fun
  | [d] => { results := [.lit (.bool true)], args := [d] }
  | _ => none }
def fnShardOfSpreadRow : OpenClaim := { program := "ytpccmkphddipdab", sum := "e9d23efbe46b26136ccc92f8b7bfe67b89ea3b29386e5e3d4f267f8a84e44a7c", func := "loop.example/vectorstore/laws.FnShardOfSpread", spec := "fnShardOfSpread", apart := false }
def FnShardOfSpreadSaid : Prop := fnShardOfSpreadRow.holds Try.pinned (OpenSpec.ofChange fnShardOfSpreadSpec)

/-- ITS FALSE NEIGHBOUR: 'it returns false'. Refute it at one input. -/
def fnShardOfSpreadWrong : ChangeSpec := { name := "fnShardOfSpread", fn := fun _ => fun
  | [d] => { results := [.lit (.bool false)], args := [d] }
  | _ => none }
def FnShardOfSpreadWrongFalsely : Prop := fnShardOfSpreadRow.holds Try.pinned (OpenSpec.ofChange fnShardOfSpreadWrong)

/-- 'laws.FnMovedKeysHalf': WHATEVER THE INPUT: true; the input reads as it did. -/
def fnMovedKeysHalfSpec : ChangeSpec := { name := "fnMovedKeysHalf", fn := fun _ => fun
  | [d] => { results := [.lit (.bool true)], args := [d] }
  | _ => none }
def fnMovedKeysHalfRow : OpenClaim := { program := "ytpccmkphddipdab", sum := "e9d23efbe46b26136ccc92f8b7bfe67b89ea3b29386e5e3d4f267f8a84e44a7c", func := "loop.example/vectorstore/laws.FnMovedKeysHalf", spec := "fnMovedKeysHalf", unfollowed := true, recurses := true, apart := false }
def FnMovedKeysHalfSaid : Prop := fnMovedKeysHalfRow.holds Try.pinned (OpenSpec.ofChange fnMovedKeysHalfSpec)

/-- ITS FALSE NEIGHBOUR: 'it returns false'. Refute it at one input. -/
def fnMovedKeysHalfWrong : ChangeSpec := { name := "fnMovedKeysHalf", fn := fun _ => fun
  | [d] => { results := [.lit (.bool false)], args := [d] }
  | _ => none }
def FnMovedKeysHalfWrongFalsely : Prop := fnMovedKeysHalfRow.holds Try.pinned (OpenSpec.ofChange fnMovedKeysHalfWrong)

/-- 'laws.FnExactValidLog': WHATEVER THE INPUT: true; the input reads as it did. -/
def fnExactValidLogSpec : ChangeSpec := { name := "fnExactValidLog", fn := fun _ => fun
  | [d] => { results := [.lit (.bool true)], args := [d] }
  | _ => none }
def fnExactValidLogRow : OpenClaim := { program := "ytpccmkphddipdab", sum := "e9d23efbe46b26136ccc92f8b7bfe67b89ea3b29386e5e3d4f267f8a84e44a7c", func := "loop.example/vectorstore/laws.FnExactValidLog", spec := "fnExactValidLog", apart := false }
def FnExactValidLogSaid : Prop := fnExactValidLogRow.holds Try.pinned (OpenSpec.ofChange fnExactValidLogSpec)

/-- ITS FALSE NEIGHBOUR: 'it returns false'. Refute it at one input. -/
def fnExactValidLogWrong : ChangeSpec := { name := "fnExactValidLog", fn := fun _ => fun
  | [d] => { results := [.lit (.bool false)], args := [d] }
  | _ => none }
def FnExactValidLogWrongFalsely : Prop := fnExactValidLogRow.holds Try.pinned (OpenSpec.ofChange fnExactValidLogWrong)

/-- 'laws.FnExactReplayLog': WHATEVER THE INPUT: true; the input reads as it did. -/
def fnExactReplayLogSpec : ChangeSpec := { name := "fnExactReplayLog", fn := fun _ => fun
  | [d1, d2] => { results := [.lit (.bool true)], args := [d1, d2] }
  | _ => none }
def fnExactReplayLogRow : OpenClaim := { program := "ytpccmkphddipdab", sum := "e9d23efbe46b26136ccc92f8b7bfe67b89ea3b29386e5e3d4f267f8a84e44a7c", func := "loop.example/vectorstore/laws.FnExactReplayLog", spec := "fnExactReplayLog", unfollowed := true, recurses := true, apart := false }
def FnExactReplayLogSaid : Prop := fnExactReplayLogRow.holds Try.pinned (OpenSpec.ofChange fnExactReplayLogSpec)

/-- ITS FALSE NEIGHBOUR: 'it returns false'. Refute it at one input. -/
def fnExactReplayLogWrong : ChangeSpec := { name := "fnExactReplayLog", fn := fun _ => fun
  | [d1, d2] => { results := [.lit (.bool false)], args := [d1, d2] }
  | _ => none }
def FnExactReplayLogWrongFalsely : Prop := fnExactReplayLogRow.holds Try.pinned (OpenSpec.ofChange fnExactReplayLogWrong)

/-- 'laws.FnExactShortLog': WHATEVER THE INPUT: true; the input reads as it did. -/
def fnExactShortLogSpec : ChangeSpec := { name := "fnExactShortLog", fn := fun _ => fun
  | [d] => { results := [.lit (.bool true)], args := [d] }
  | _ => none }
def fnExactShortLogRow : OpenClaim := { program := "ytpccmkphddipdab", sum := "e9d23efbe46b26136ccc92f8b7bfe67b89ea3b29386e5e3d4f267f8a84e44a7c", func := "loop.example/vectorstore/laws.FnExactShortLog", spec := "fnExactShortLog", unfollowed := true, recurses := true, apart := false }
def FnExactShortLogSaid : Prop := fnExactShortLogRow.holds Try.pinned (OpenSpec.ofChange fnExactShortLogSpec)

/-- ITS FALSE NEIGHBOUR: 'it returns false'. Refute it at one input. -/
def fnExactShortLogWrong : ChangeSpec := { name := "fnExactShortLog", fn := fun _ => fun
  | [d] => { results := [.lit (.bool false)], args := [d] }
  | _ => none }
def FnExactShortLogWrongFalsely : Prop := fnExactShortLogRow.holds Try.pinned (OpenSpec.ofChange fnExactShortLogWrong)

/-- 'laws.FnExactLogBetween': WHATEVER THE INPUT: true; the input reads as it did. -/
def fnExactLogBetweenSpec : ChangeSpec := { name := "fnExactLogBetween", fn := fun _ => fun
  | [d1, d2] => { results := [.lit (.bool true)], args := [d1, d2] }
  | _ => none }
def fnExactLogBetweenRow : OpenClaim := { program := "ytpccmkphddipdab", sum := "e9d23efbe46b26136ccc92f8b7bfe67b89ea3b29386e5e3d4f267f8a84e44a7c", func := "loop.example/vectorstore/laws.FnExactLogBetween", spec := "fnExactLogBetween", unfollowed := true, recurses := true, apart := false }
def FnExactLogBetweenSaid : Prop := fnExactLogBetweenRow.holds Try.pinned (OpenSpec.ofChange fnExactLogBetweenSpec)

/-- ITS FALSE NEIGHBOUR: 'it returns false'. Refute it at one input. -/
def fnExactLogBetweenWrong : ChangeSpec := { name := "fnExactLogBetween", fn := fun _ => fun
  | [d1, d2] => { results := [.lit (.bool false)], args := [d1, d2] }
  | _ => none }
def FnExactLogBetweenWrongFalsely : Prop := fnExactLogBetweenRow.holds Try.pinned (OpenSpec.ofChange fnExactLogBetweenWrong)

/-- 'laws.FnExactShardOf': WHATEVER THE INPUT: true; the input reads as it did. -/
def fnExactShardOfSpec : ChangeSpec := { name := "fnExactShardOf", fn := fun _ => fun
  | [d1, d2] => { results := [.lit (.bool true)], args := [d1, d2] }
  | _ => none }
def fnExactShardOfRow : OpenClaim := { program := "ytpccmkphddipdab", sum := "e9d23efbe46b26136ccc92f8b7bfe67b89ea3b29386e5e3d4f267f8a84e44a7c", func := "loop.example/vectorstore/laws.FnExactShardOf", spec := "fnExactShardOf", apart := false }
def FnExactShardOfSaid : Prop := fnExactShardOfRow.holds Try.pinned (OpenSpec.ofChange fnExactShardOfSpec)

/-- ITS FALSE NEIGHBOUR: 'it returns false'. Refute it at one input. -/
def fnExactShardOfWrong : ChangeSpec := { name := "fnExactShardOf", fn := fun _ => fun
  | [d1, d2] => { results := [.lit (.bool false)], args := [d1, d2] }
  | _ => none }
def FnExactShardOfWrongFalsely : Prop := fnExactShardOfRow.holds Try.pinned (OpenSpec.ofChange fnExactShardOfWrong)

/- THE SECOND FORM. 'bulk': how many values and letters a reading holds, each counted each time it is reached (what is shared counts as often as it is met; a slice's spare places count too). A statement '..UptoSaid' is the law's where the arguments, and the package variables that the reading takes, are together of bulk at most 1048576: NARROWER than '..Said'. Prove '..Said' where nothing that the law and all that it calls make is longer than what came in: it says more and counts as full. Else prove '..UptoSaid'. A law counts once. -/
mutual
def uptoBulk {H : Type} : DataW H → Nat
  | .lit (.string bytes) => bytes.length + 1
  | .lit _ => 1
  | .nil => 1
  | .ptr d => uptoBulk d + 1
  | .slice elems spare => uptoBulkAll elems + uptoBulkAll spare + 1
  | .agg parts => uptoBulkAll parts + 1
  | .iface _ d => uptoBulk d + 1
  | .map entries => uptoBulkEntries entries + 1
  | .held _ => 1
def uptoBulkAll {H : Type} : List (DataW H) → Nat
  | [] => 0
  | d :: r => uptoBulk d + uptoBulkAll r
def uptoBulkEntries {H : Type} : List (Lit × DataW H) → Nat
  | [] => 0
  | x :: r => uptoBulkEntry x + uptoBulkEntries r
def uptoBulkEntry {H : Type} : Lit × DataW H → Nat
  | (.string bytes, d) => bytes.length + uptoBulk d + 1
  | (_, d) => uptoBulk d + 1
 end
def uptoSmall : (H : Type) → List (DataW H) → Bool := fun _ ds => decide (uptoBulkAll ds ≤ 1048576)
def OpenSpec.upto (s : _root_.Go.ChangeSpec) : _root_.Go.OpenSpec := { _root_.Go.OpenSpec.ofChange s with cond := some uptoSmall }

/-- 'laws.FnMovedKeys', WHERE WHAT IT READS IS OF BULK AT MOST 1048576: true; the input reads as it did. -/
def fnMovedKeysUptoRow : OpenClaim := { program := "ytpccmkphddipdab", sum := "e9d23efbe46b26136ccc92f8b7bfe67b89ea3b29386e5e3d4f267f8a84e44a7c", func := "loop.example/vectorstore/laws.FnMovedKeys", spec := "fnMovedKeys", unfollowed := true, recurses := true, apart := false, narrowed := true }
def FnMovedKeysUptoSaid : Prop := fnMovedKeysUptoRow.holds Try.pinned (OpenSpec.upto fnMovedKeysSpec)

/-- 'laws.FnReplayLogCount', WHERE WHAT IT READS IS OF BULK AT MOST 1048576: true; the input reads as it did. -/
def fnReplayLogCountUptoRow : OpenClaim := { program := "ytpccmkphddipdab", sum := "e9d23efbe46b26136ccc92f8b7bfe67b89ea3b29386e5e3d4f267f8a84e44a7c", func := "loop.example/vectorstore/laws.FnReplayLogCount", spec := "fnReplayLogCount", unfollowed := true, recurses := true, apart := false, narrowed := true }
def FnReplayLogCountUptoSaid : Prop := fnReplayLogCountUptoRow.holds Try.pinned (OpenSpec.upto fnReplayLogCountSpec)

/-- 'laws.FnLogBetweenEmpty', WHERE WHAT IT READS IS OF BULK AT MOST 1048576: true; the input reads as it did. -/
def fnLogBetweenEmptyUptoRow : OpenClaim := { program := "ytpccmkphddipdab", sum := "e9d23efbe46b26136ccc92f8b7bfe67b89ea3b29386e5e3d4f267f8a84e44a7c", func := "loop.example/vectorstore/laws.FnLogBetweenEmpty", spec := "fnLogBetweenEmpty", unfollowed := true, recurses := true, apart := false, narrowed := true }
def FnLogBetweenEmptyUptoSaid : Prop := fnLogBetweenEmptyUptoRow.holds Try.pinned (OpenSpec.upto fnLogBetweenEmptySpec)

/-- 'laws.FnShardOfSpread', WHERE WHAT IT READS IS OF BULK AT MOST 1048576: true; the input reads as it did. -/
def fnShardOfSpreadUptoRow : OpenClaim := { program := "ytpccmkphddipdab", sum := "e9d23efbe46b26136ccc92f8b7bfe67b89ea3b29386e5e3d4f267f8a84e44a7c", func := "loop.example/vectorstore/laws.FnShardOfSpread", spec := "fnShardOfSpread", apart := false, narrowed := true }
def FnShardOfSpreadUptoSaid : Prop := fnShardOfSpreadUptoRow.holds Try.pinned (OpenSpec.upto fnShardOfSpreadSpec)

/-- 'laws.FnMovedKeysHalf', WHERE WHAT IT READS IS OF BULK AT MOST 1048576: true; the input reads as it did. -/
def fnMovedKeysHalfUptoRow : OpenClaim := { program := "ytpccmkphddipdab", sum := "e9d23efbe46b26136ccc92f8b7bfe67b89ea3b29386e5e3d4f267f8a84e44a7c", func := "loop.example/vectorstore/laws.FnMovedKeysHalf", spec := "fnMovedKeysHalf", unfollowed := true, recurses := true, apart := false, narrowed := true }
def FnMovedKeysHalfUptoSaid : Prop := fnMovedKeysHalfUptoRow.holds Try.pinned (OpenSpec.upto fnMovedKeysHalfSpec)

/-- 'laws.FnExactValidLog', WHERE WHAT IT READS IS OF BULK AT MOST 1048576: true; the input reads as it did. -/
def fnExactValidLogUptoRow : OpenClaim := { program := "ytpccmkphddipdab", sum := "e9d23efbe46b26136ccc92f8b7bfe67b89ea3b29386e5e3d4f267f8a84e44a7c", func := "loop.example/vectorstore/laws.FnExactValidLog", spec := "fnExactValidLog", apart := false, narrowed := true }
def FnExactValidLogUptoSaid : Prop := fnExactValidLogUptoRow.holds Try.pinned (OpenSpec.upto fnExactValidLogSpec)

/-- 'laws.FnExactReplayLog', WHERE WHAT IT READS IS OF BULK AT MOST 1048576: true; the input reads as it did. -/
def fnExactReplayLogUptoRow : OpenClaim := { program := "ytpccmkphddipdab", sum := "e9d23efbe46b26136ccc92f8b7bfe67b89ea3b29386e5e3d4f267f8a84e44a7c", func := "loop.example/vectorstore/laws.FnExactReplayLog", spec := "fnExactReplayLog", unfollowed := true, recurses := true, apart := false, narrowed := true }
def FnExactReplayLogUptoSaid : Prop := fnExactReplayLogUptoRow.holds Try.pinned (OpenSpec.upto fnExactReplayLogSpec)

/-- 'laws.FnExactShortLog', WHERE WHAT IT READS IS OF BULK AT MOST 1048576: true; the input reads as it did. -/
def fnExactShortLogUptoRow : OpenClaim := { program := "ytpccmkphddipdab", sum := "e9d23efbe46b26136ccc92f8b7bfe67b89ea3b29386e5e3d4f267f8a84e44a7c", func := "loop.example/vectorstore/laws.FnExactShortLog", spec := "fnExactShortLog", unfollowed := true, recurses := true, apart := false, narrowed := true }
def FnExactShortLogUptoSaid : Prop := fnExactShortLogUptoRow.holds Try.pinned (OpenSpec.upto fnExactShortLogSpec)

/-- 'laws.FnExactLogBetween', WHERE WHAT IT READS IS OF BULK AT MOST 1048576: true; the input reads as it did. -/
def fnExactLogBetweenUptoRow : OpenClaim := { program := "ytpccmkphddipdab", sum := "e9d23efbe46b26136ccc92f8b7bfe67b89ea3b29386e5e3d4f267f8a84e44a7c", func := "loop.example/vectorstore/laws.FnExactLogBetween", spec := "fnExactLogBetween", unfollowed := true, recurses := true, apart := false, narrowed := true }
def FnExactLogBetweenUptoSaid : Prop := fnExactLogBetweenUptoRow.holds Try.pinned (OpenSpec.upto fnExactLogBetweenSpec)

/-- 'laws.FnExactShardOf', WHERE WHAT IT READS IS OF BULK AT MOST 1048576: true; the input reads as it did. -/
def fnExactShardOfUptoRow : OpenClaim := { program := "ytpccmkphddipdab", sum := "e9d23efbe46b26136ccc92f8b7bfe67b89ea3b29386e5e3d4f267f8a84e44a7c", func := "loop.example/vectorstore/laws.FnExactShardOf", spec := "fnExactShardOf", apart := false, narrowed := true }
def FnExactShardOfUptoSaid : Prop := fnExactShardOfUptoRow.holds Try.pinned (OpenSpec.upto fnExactShardOfSpec)

end Rows
end Go.Proofs.Ytpccmkphddipdab
