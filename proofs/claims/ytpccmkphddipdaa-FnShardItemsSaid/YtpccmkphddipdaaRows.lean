/-
  No cell of these rows narrows 'for every input' (looked for: loops, veiled, ifaces, maps, wideKeys, modest, calm, conditions, laid).
  DERIVED. THE GIVEN ROWS OF THIS SEAT. 12 by the template 'for every input the law returns true; each argument reads behind the call as it read before'; 0 by the template 'total and deterministic' (their statements: YtpccmkphddipdaaTotals.lean).
  GIVEN WITH THE SEED: the statements are not yours to turn. If you find one false, say at which input.
  Laid BY PROGRAM, IN A SANDBOX (cutbox-rows.mjs): the forced cells as the released guide's own fill.sh prints them over the translation 425aa98c4b04cd45… (all of the seat's roots in one cut). By AI agents, Wed Nov 11 2026. No macro, syntax, notation, axiom, sorry.
-/
import Derived.Test.YtpccmkphddipdaaChecked
import GoSem.Claim
import GoSem.ClaimJoined
import GoSem.ClaimMapViews
import Derived.JoinedTies
import Derived.KernelRfl
namespace Go.Proofs.Ytpccmkphddipdaa
/- THE CELL 'sum', in the pinned program and in every row, IS THE sha256 OF THE DUMP (.gsa) THAT YtpccmkphddipdaaProg.lean LOADS. Nothing in Lean hashes anything: it is a label: what it is worth is what the hold of that sum in a sandbox is worth. -/
noncomputable def Try.pinned : Pinned := { name := "ytpccmkphddipdaa", sum := "425aa98c4b04cd45df2af4404ee47aa0cc9d514f2ee54a34eaf35050566ed913", checked := Try.checked }
namespace Rows
def none {H : Type} : Left H := { results := [], args := [] }

/-- 'laws.FnValidLog': WHATEVER THE INPUT: true; the input reads as it did. -/
def fnValidLogSpec : ChangeSpec := { name := "fnValidLog", fn := fun _ => fun
  | [d] => { results := [.lit (.bool true)], args := [d] }
  | _ => none }
def fnValidLogRow : OpenClaim := { program := "ytpccmkphddipdaa", sum := "425aa98c4b04cd45df2af4404ee47aa0cc9d514f2ee54a34eaf35050566ed913", func := "loop.example/vectorstore/laws.FnValidLog", spec := "fnValidLog", apart := false }
def FnValidLogSaid : Prop := fnValidLogRow.holds Try.pinned (OpenSpec.ofChange fnValidLogSpec)

/-- ITS FALSE NEIGHBOUR: 'it returns false'. Refute it at one input. -/
def fnValidLogWrong : ChangeSpec := { name := "fnValidLog", fn := fun _ => fun
  | [d] => { results := [.lit (.bool false)], args := [d] }
  | _ => none }
def FnValidLogWrongFalsely : Prop := fnValidLogRow.holds Try.pinned (OpenSpec.ofChange fnValidLogWrong)

/-- 'laws.FnReplayLog': WHATEVER THE INPUT: true; the input reads as it did. -/
def fnReplayLogSpec : ChangeSpec := { name := "fnReplayLog", fn := fun _ => fun
  | [d] => { results := [.lit (.bool true)], args := [d] }
  | _ => none }
def fnReplayLogRow : OpenClaim := { program := "ytpccmkphddipdaa", sum := "425aa98c4b04cd45df2af4404ee47aa0cc9d514f2ee54a34eaf35050566ed913", func := "loop.example/vectorstore/laws.FnReplayLog", spec := "fnReplayLog", unfollowed := true, recurses := true, apart := false }
def FnReplayLogSaid : Prop := fnReplayLogRow.holds Try.pinned (OpenSpec.ofChange fnReplayLogSpec)

/-- ITS FALSE NEIGHBOUR: 'it returns false'. Refute it at one input. -/
def fnReplayLogWrong : ChangeSpec := { name := "fnReplayLog", fn := fun _ => fun
  | [d] => { results := [.lit (.bool false)], args := [d] }
  | _ => none }
def FnReplayLogWrongFalsely : Prop := fnReplayLogRow.holds Try.pinned (OpenSpec.ofChange fnReplayLogWrong)

/-- 'laws.FnReplayLogStop': WHATEVER THE INPUT: true; the input reads as it did. -/
def fnReplayLogStopSpec : ChangeSpec := { name := "fnReplayLogStop", fn := fun _ => fun
  | [d] => { results := [.lit (.bool true)], args := [d] }
  | _ => none }
def fnReplayLogStopRow : OpenClaim := { program := "ytpccmkphddipdaa", sum := "425aa98c4b04cd45df2af4404ee47aa0cc9d514f2ee54a34eaf35050566ed913", func := "loop.example/vectorstore/laws.FnReplayLogStop", spec := "fnReplayLogStop", unfollowed := true, recurses := true, apart := false }
def FnReplayLogStopSaid : Prop := fnReplayLogStopRow.holds Try.pinned (OpenSpec.ofChange fnReplayLogStopSpec)

/-- ITS FALSE NEIGHBOUR: 'it returns false'. Refute it at one input. -/
def fnReplayLogStopWrong : ChangeSpec := { name := "fnReplayLogStop", fn := fun _ => fun
  | [d] => { results := [.lit (.bool false)], args := [d] }
  | _ => none }
def FnReplayLogStopWrongFalsely : Prop := fnReplayLogStopRow.holds Try.pinned (OpenSpec.ofChange fnReplayLogStopWrong)

/-- 'laws.FnReplayLogLast': WHATEVER THE INPUT: true; the input reads as it did. -/
def fnReplayLogLastSpec : ChangeSpec := { name := "fnReplayLogLast", fn := fun _ => fun
  | [d] => { results := [.lit (.bool true)], args := [d] }
  | _ => none }
def fnReplayLogLastRow : OpenClaim := { program := "ytpccmkphddipdaa", sum := "425aa98c4b04cd45df2af4404ee47aa0cc9d514f2ee54a34eaf35050566ed913", func := "loop.example/vectorstore/laws.FnReplayLogLast", spec := "fnReplayLogLast", unfollowed := true, recurses := true, apart := false }
def FnReplayLogLastSaid : Prop := fnReplayLogLastRow.holds Try.pinned (OpenSpec.ofChange fnReplayLogLastSpec)

/-- ITS FALSE NEIGHBOUR: 'it returns false'. Refute it at one input. -/
def fnReplayLogLastWrong : ChangeSpec := { name := "fnReplayLogLast", fn := fun _ => fun
  | [d] => { results := [.lit (.bool false)], args := [d] }
  | _ => none }
def FnReplayLogLastWrongFalsely : Prop := fnReplayLogLastRow.holds Try.pinned (OpenSpec.ofChange fnReplayLogLastWrong)

/-- 'laws.FnShortLog': WHATEVER THE INPUT: true; the input reads as it did. -/
def fnShortLogSpec : ChangeSpec := { name := "fnShortLog", fn := fun _ => fun
  | [d] => { results := [.lit (.bool true)], args := [d] }
  | _ => none }
def fnShortLogRow : OpenClaim := { program := "ytpccmkphddipdaa", sum := "425aa98c4b04cd45df2af4404ee47aa0cc9d514f2ee54a34eaf35050566ed913", func := "loop.example/vectorstore/laws.FnShortLog", spec := "fnShortLog", unfollowed := true, recurses := true, apart := false }
def FnShortLogSaid : Prop := fnShortLogRow.holds Try.pinned (OpenSpec.ofChange fnShortLogSpec)

/-- ITS FALSE NEIGHBOUR: 'it returns false'. Refute it at one input. -/
def fnShortLogWrong : ChangeSpec := { name := "fnShortLog", fn := fun _ => fun
  | [d] => { results := [.lit (.bool false)], args := [d] }
  | _ => none }
def FnShortLogWrongFalsely : Prop := fnShortLogRow.holds Try.pinned (OpenSpec.ofChange fnShortLogWrong)

/-- 'laws.FnShortLogReplay': WHATEVER THE INPUT: true; the input reads as it did. -/
def fnShortLogReplaySpec : ChangeSpec := { name := "fnShortLogReplay", fn := fun _ => fun
  | [d] => { results := [.lit (.bool true)], args := [d] }
  | _ => none }
def fnShortLogReplayRow : OpenClaim := { program := "ytpccmkphddipdaa", sum := "425aa98c4b04cd45df2af4404ee47aa0cc9d514f2ee54a34eaf35050566ed913", func := "loop.example/vectorstore/laws.FnShortLogReplay", spec := "fnShortLogReplay", unfollowed := true, recurses := true, apart := false }
def FnShortLogReplaySaid : Prop := fnShortLogReplayRow.holds Try.pinned (OpenSpec.ofChange fnShortLogReplaySpec)

/-- ITS FALSE NEIGHBOUR: 'it returns false'. Refute it at one input. -/
def fnShortLogReplayWrong : ChangeSpec := { name := "fnShortLogReplay", fn := fun _ => fun
  | [d] => { results := [.lit (.bool false)], args := [d] }
  | _ => none }
def FnShortLogReplayWrongFalsely : Prop := fnShortLogReplayRow.holds Try.pinned (OpenSpec.ofChange fnShortLogReplayWrong)

/-- 'laws.FnLogBetween': WHATEVER THE INPUT: true; the input reads as it did. -/
def fnLogBetweenSpec : ChangeSpec := { name := "fnLogBetween", fn := fun _ => fun
  | [d] => { results := [.lit (.bool true)], args := [d] }
  | _ => none }
def fnLogBetweenRow : OpenClaim := { program := "ytpccmkphddipdaa", sum := "425aa98c4b04cd45df2af4404ee47aa0cc9d514f2ee54a34eaf35050566ed913", func := "loop.example/vectorstore/laws.FnLogBetween", spec := "fnLogBetween", unfollowed := true, recurses := true, apart := false }
def FnLogBetweenSaid : Prop := fnLogBetweenRow.holds Try.pinned (OpenSpec.ofChange fnLogBetweenSpec)

/-- ITS FALSE NEIGHBOUR: 'it returns false'. Refute it at one input. -/
def fnLogBetweenWrong : ChangeSpec := { name := "fnLogBetween", fn := fun _ => fun
  | [d] => { results := [.lit (.bool false)], args := [d] }
  | _ => none }
def FnLogBetweenWrongFalsely : Prop := fnLogBetweenRow.holds Try.pinned (OpenSpec.ofChange fnLogBetweenWrong)

/-- 'laws.FnLogBetweenShort': WHATEVER THE INPUT: true; the input reads as it did. -/
def fnLogBetweenShortSpec : ChangeSpec := { name := "fnLogBetweenShort", fn := fun _ => fun
  | [d] => { results := [.lit (.bool true)], args := [d] }
  | _ => none }
def fnLogBetweenShortRow : OpenClaim := { program := "ytpccmkphddipdaa", sum := "425aa98c4b04cd45df2af4404ee47aa0cc9d514f2ee54a34eaf35050566ed913", func := "loop.example/vectorstore/laws.FnLogBetweenShort", spec := "fnLogBetweenShort", unfollowed := true, recurses := true, apart := false }
def FnLogBetweenShortSaid : Prop := fnLogBetweenShortRow.holds Try.pinned (OpenSpec.ofChange fnLogBetweenShortSpec)

/-- ITS FALSE NEIGHBOUR: 'it returns false'. Refute it at one input. -/
def fnLogBetweenShortWrong : ChangeSpec := { name := "fnLogBetweenShort", fn := fun _ => fun
  | [d] => { results := [.lit (.bool false)], args := [d] }
  | _ => none }
def FnLogBetweenShortWrongFalsely : Prop := fnLogBetweenShortRow.holds Try.pinned (OpenSpec.ofChange fnLogBetweenShortWrong)

/-- 'laws.FnShardOf': WHATEVER THE INPUT: true; the input reads as it did. -/
def fnShardOfSpec : ChangeSpec := { name := "fnShardOf", fn := fun _ => fun
  | [d] => { results := [.lit (.bool true)], args := [d] }
  | _ => none }
def fnShardOfRow : OpenClaim := { program := "ytpccmkphddipdaa", sum := "425aa98c4b04cd45df2af4404ee47aa0cc9d514f2ee54a34eaf35050566ed913", func := "loop.example/vectorstore/laws.FnShardOf", spec := "fnShardOf", apart := false }
def FnShardOfSaid : Prop := fnShardOfRow.holds Try.pinned (OpenSpec.ofChange fnShardOfSpec)

/-- ITS FALSE NEIGHBOUR: 'it returns false'. Refute it at one input. -/
def fnShardOfWrong : ChangeSpec := { name := "fnShardOf", fn := fun _ => fun
  | [d] => { results := [.lit (.bool false)], args := [d] }
  | _ => none }
def FnShardOfWrongFalsely : Prop := fnShardOfRow.holds Try.pinned (OpenSpec.ofChange fnShardOfWrong)

/-- 'laws.FnShardOfHalves': WHATEVER THE INPUT: true; the input reads as it did. -/
def fnShardOfHalvesSpec : ChangeSpec := { name := "fnShardOfHalves", fn := fun _ => fun
  | [d] => { results := [.lit (.bool true)], args := [d] }
  | _ => none }
def fnShardOfHalvesRow : OpenClaim := { program := "ytpccmkphddipdaa", sum := "425aa98c4b04cd45df2af4404ee47aa0cc9d514f2ee54a34eaf35050566ed913", func := "loop.example/vectorstore/laws.FnShardOfHalves", spec := "fnShardOfHalves", apart := false }
def FnShardOfHalvesSaid : Prop := fnShardOfHalvesRow.holds Try.pinned (OpenSpec.ofChange fnShardOfHalvesSpec)

/-- ITS FALSE NEIGHBOUR: 'it returns false'. Refute it at one input. -/
def fnShardOfHalvesWrong : ChangeSpec := { name := "fnShardOfHalves", fn := fun _ => fun
  | [d] => { results := [.lit (.bool false)], args := [d] }
  | _ => none }
def FnShardOfHalvesWrongFalsely : Prop := fnShardOfHalvesRow.holds Try.pinned (OpenSpec.ofChange fnShardOfHalvesWrong)

/-- 'laws.FnShardItems': WHATEVER THE INPUT: true; the input reads as it did. -/
def fnShardItemsSpec : ChangeSpec := { name := "fnShardItems", fn := fun _ => fun
  | [d] => { results := [.lit (.bool true)], args := [d] }
  | _ => none }
def fnShardItemsRow : OpenClaim := { program := "ytpccmkphddipdaa", sum := "425aa98c4b04cd45df2af4404ee47aa0cc9d514f2ee54a34eaf35050566ed913", func := "loop.example/vectorstore/laws.FnShardItems", spec := "fnShardItems", unfollowed := true, recurses := true, apart := false }
def FnShardItemsSaid : Prop := fnShardItemsRow.holds Try.pinned (OpenSpec.ofChange fnShardItemsSpec)

/-- ITS FALSE NEIGHBOUR: 'it returns false'. Refute it at one input. -/
def fnShardItemsWrong : ChangeSpec := { name := "fnShardItems", fn := fun _ => fun
  | [d] => { results := [.lit (.bool false)], args := [d] }
  | _ => none }
def FnShardItemsWrongFalsely : Prop := fnShardItemsRow.holds Try.pinned (OpenSpec.ofChange fnShardItemsWrong)

/-- 'laws.FnShardItemsNone': WHATEVER THE INPUT: true; the input reads as it did. -/
def fnShardItemsNoneSpec : ChangeSpec := { name := "fnShardItemsNone", fn := fun _ => fun
  | [d] => { results := [.lit (.bool true)], args := [d] }
  | _ => none }
def fnShardItemsNoneRow : OpenClaim := { program := "ytpccmkphddipdaa", sum := "425aa98c4b04cd45df2af4404ee47aa0cc9d514f2ee54a34eaf35050566ed913", func := "loop.example/vectorstore/laws.FnShardItemsNone", spec := "fnShardItemsNone", unfollowed := true, recurses := true, apart := false }
def FnShardItemsNoneSaid : Prop := fnShardItemsNoneRow.holds Try.pinned (OpenSpec.ofChange fnShardItemsNoneSpec)

/-- ITS FALSE NEIGHBOUR: 'it returns false'. Refute it at one input. -/
def fnShardItemsNoneWrong : ChangeSpec := { name := "fnShardItemsNone", fn := fun _ => fun
  | [d] => { results := [.lit (.bool false)], args := [d] }
  | _ => none }
def FnShardItemsNoneWrongFalsely : Prop := fnShardItemsNoneRow.holds Try.pinned (OpenSpec.ofChange fnShardItemsNoneWrong)

/- THE SECOND FORM. 'bulk': how many values and letters a reading holds, each counted each time it is reached (what is shared counts as often as it is met; a slice's spare places count too). A statement '..UptoSaid' is the law's where the arguments, and the package variables that the reading takes, are together of bulk at most 1048576: NARROWER than '..Said'. Prove '..Said' where nothing that the law and all that it calls make is longer than what came in: it says more and counts as full. Else prove '..UptoSaid'. A law counts once. -/
mutual
def uptoBulk {H : Type} : DataW H → Nat
  | .lit (.string bytes) => bytes.length + 1
  | .lit _ => 1
  | .nil => 1
  | .ptr d => uptoBulk d + 1
  | .slice elems spare => uptoBulkAll elems + uptoBulkAll spare + 1
  | .agg parts => uptoBulkAll parts + 1
  | .iface _ d => uptoBulk d + 1
  | .map entries => uptoBulkEntries entries + 1
  | .held _ => 1
def uptoBulkAll {H : Type} : List (DataW H) → Nat
  | [] => 0
  | d :: r => uptoBulk d + uptoBulkAll r
def uptoBulkEntries {H : Type} : List (Lit × DataW H) → Nat
  | [] => 0
  | x :: r => uptoBulkEntry x + uptoBulkEntries r
def uptoBulkEntry {H : Type} : Lit × DataW H → Nat
  | (.string bytes, d) => bytes.length + uptoBulk d + 1
  | (_, d) => uptoBulk d + 1
 end
def uptoSmall : (H : Type) → List (DataW H) → Bool := fun _ ds => decide (uptoBulkAll ds ≤ 1048576)
def OpenSpec.upto (s : _root_.Go.ChangeSpec) : _root_.Go.OpenSpec := { _root_.Go.OpenSpec.ofChange s with cond := some uptoSmall }

/-- 'laws.FnValidLog', WHERE WHAT IT READS IS OF BULK AT MOST 1048576: true; the input reads as it did. -/
def fnValidLogUptoRow : OpenClaim := { program := "ytpccmkphddipdaa", sum := "425aa98c4b04cd45df2af4404ee47aa0cc9d514f2ee54a34eaf35050566ed913", func := "loop.example/vectorstore/laws.FnValidLog", spec := "fnValidLog", apart := false, narrowed := true }
def FnValidLogUptoSaid : Prop := fnValidLogUptoRow.holds Try.pinned (OpenSpec.upto fnValidLogSpec)

/-- 'laws.FnReplayLog', WHERE WHAT IT READS IS OF BULK AT MOST 1048576: true; the input reads as it did. -/
def fnReplayLogUptoRow : OpenClaim := { program := "ytpccmkphddipdaa", sum := "425aa98c4b04cd45df2af4404ee47aa0cc9d514f2ee54a34eaf35050566ed913", func := "loop.example/vectorstore/laws.FnReplayLog", spec := "fnReplayLog", unfollowed := true, recurses := true, apart := false, narrowed := true }
def FnReplayLogUptoSaid : Prop := fnReplayLogUptoRow.holds Try.pinned (OpenSpec.upto fnReplayLogSpec)

/-- 'laws.FnReplayLogStop', WHERE WHAT IT READS IS OF BULK AT MOST 1048576: true; the input reads as it did. -/
def fnReplayLogStopUptoRow : OpenClaim := { program := "ytpccmkphddipdaa", sum := "425aa98c4b04cd45df2af4404ee47aa0cc9d514f2ee54a34eaf35050566ed913", func := "loop.example/vectorstore/laws.FnReplayLogStop", spec := "fnReplayLogStop", unfollowed := true, recurses := true, apart := false, narrowed := true }
def FnReplayLogStopUptoSaid : Prop := fnReplayLogStopUptoRow.holds Try.pinned (OpenSpec.upto fnReplayLogStopSpec)

/-- 'laws.FnReplayLogLast', WHERE WHAT IT READS IS OF BULK AT MOST 1048576: true; the input reads as it did. -/
def fnReplayLogLastUptoRow : OpenClaim := { program := "ytpccmkphddipdaa", sum := "425aa98c4b04cd45df2af4404ee47aa0cc9d514f2ee54a34eaf35050566ed913", func := "loop.example/vectorstore/laws.FnReplayLogLast", spec := "fnReplayLogLast", unfollowed := true, recurses := true, apart := false, narrowed := true }
def FnReplayLogLastUptoSaid : Prop := fnReplayLogLastUptoRow.holds Try.pinned (OpenSpec.upto fnReplayLogLastSpec)

/-- 'laws.FnShortLog', WHERE WHAT IT READS IS OF BULK AT MOST 1048576: true; the input reads as it did. -/
def fnShortLogUptoRow : OpenClaim := { program := "ytpccmkphddipdaa", sum := "425aa98c4b04cd45df2af4404ee47aa0cc9d514f2ee54a34eaf35050566ed913", func := "loop.example/vectorstore/laws.FnShortLog", spec := "fnShortLog", unfollowed := true, recurses := true, apart := false, narrowed := true }
def FnShortLogUptoSaid : Prop := fnShortLogUptoRow.holds Try.pinned (OpenSpec.upto fnShortLogSpec)

/-- 'laws.FnShortLogReplay', WHERE WHAT IT READS IS OF BULK AT MOST 1048576: true; the input reads as it did. -/
def fnShortLogReplayUptoRow : OpenClaim := { program := "ytpccmkphddipdaa", sum := "425aa98c4b04cd45df2af4404ee47aa0cc9d514f2ee54a34eaf35050566ed913", func := "loop.example/vectorstore/laws.FnShortLogReplay", spec := "fnShortLogReplay", unfollowed := true, recurses := true, apart := false, narrowed := true }
def FnShortLogReplayUptoSaid : Prop := fnShortLogReplayUptoRow.holds Try.pinned (OpenSpec.upto fnShortLogReplaySpec)

/-- 'laws.FnLogBetween', WHERE WHAT IT READS IS OF BULK AT MOST 1048576: true; the input reads as it did. -/
def fnLogBetweenUptoRow : OpenClaim := { program := "ytpccmkphddipdaa", sum := "425aa98c4b04cd45df2af4404ee47aa0cc9d514f2ee54a34eaf35050566ed913", func := "loop.example/vectorstore/laws.FnLogBetween", spec := "fnLogBetween", unfollowed := true, recurses := true, apart := false, narrowed := true }
def FnLogBetweenUptoSaid : Prop := fnLogBetweenUptoRow.holds Try.pinned (OpenSpec.upto fnLogBetweenSpec)

/-- 'laws.FnLogBetweenShort', WHERE WHAT IT READS IS OF BULK AT MOST 1048576: true; the input reads as it did. -/
def fnLogBetweenShortUptoRow : OpenClaim := { program := "ytpccmkphddipdaa", sum := "425aa98c4b04cd45df2af4404ee47aa0cc9d514f2ee54a34eaf35050566ed913", func := "loop.example/vectorstore/laws.FnLogBetweenShort", spec := "fnLogBetweenShort", unfollowed := true, recurses := true, apart := false, narrowed := true }
def FnLogBetweenShortUptoSaid : Prop := fnLogBetweenShortUptoRow.holds Try.pinned (OpenSpec.upto fnLogBetweenShortSpec)

/-- 'laws.FnShardOf', WHERE WHAT IT READS IS OF BULK AT MOST 1048576: true; the input reads as it did. -/
def fnShardOfUptoRow : OpenClaim := { program := "ytpccmkphddipdaa", sum := "425aa98c4b04cd45df2af4404ee47aa0cc9d514f2ee54a34eaf35050566ed913", func := "loop.example/vectorstore/laws.FnShardOf", spec := "fnShardOf", apart := false, narrowed := true }
def FnShardOfUptoSaid : Prop := fnShardOfUptoRow.holds Try.pinned (OpenSpec.upto fnShardOfSpec)

/-- 'laws.FnShardOfHalves', WHERE WHAT IT READS IS OF BULK AT MOST 1048576: true; the input reads as it did. -/
def fnShardOfHalvesUptoRow : OpenClaim := { program := "ytpccmkphddipdaa", sum := "425aa98c4b04cd45df2af4404ee47aa0cc9d514f2ee54a34eaf35050566ed913", func := "loop.example/vectorstore/laws.FnShardOfHalves", spec := "fnShardOfHalves", apart := false, narrowed := true }
def FnShardOfHalvesUptoSaid : Prop := fnShardOfHalvesUptoRow.holds Try.pinned (OpenSpec.upto fnShardOfHalvesSpec)

/-- 'laws.FnShardItems', WHERE WHAT IT READS IS OF BULK AT MOST 1048576: true; the input reads as it did. -/
def fnShardItemsUptoRow : OpenClaim := { program := "ytpccmkphddipdaa", sum := "425aa98c4b04cd45df2af4404ee47aa0cc9d514f2ee54a34eaf35050566ed913", func := "loop.example/vectorstore/laws.FnShardItems", spec := "fnShardItems", unfollowed := true, recurses := true, apart := false, narrowed := true }
def FnShardItemsUptoSaid : Prop := fnShardItemsUptoRow.holds Try.pinned (OpenSpec.upto fnShardItemsSpec)

/-- 'laws.FnShardItemsNone', WHERE WHAT IT READS IS OF BULK AT MOST 1048576: true; the input reads as it did. -/
def fnShardItemsNoneUptoRow : OpenClaim := { program := "ytpccmkphddipdaa", sum := "425aa98c4b04cd45df2af4404ee47aa0cc9d514f2ee54a34eaf35050566ed913", func := "loop.example/vectorstore/laws.FnShardItemsNone", spec := "fnShardItemsNone", unfollowed := true, recurses := true, apart := false, narrowed := true }
def FnShardItemsNoneUptoSaid : Prop := fnShardItemsNoneUptoRow.holds Try.pinned (OpenSpec.upto fnShardItemsNoneSpec)

end Rows
end Go.Proofs.Ytpccmkphddipdaa
