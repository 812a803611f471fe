/-
  No cell of these rows narrows 'for every input' (looked for: loops, veiled, ifaces, maps, wideKeys, modest, calm, conditions, laid).
  DERIVED. THE GIVEN ROWS OF THIS SEAT. 7 by the template 'for every input the law returns true; each argument reads behind the call as it read before'; 0 by the template 'total and deterministic' (their statements: YtnkflplbeagljaaTotals.lean).
  GIVEN WITH THE SEED: the statements are not yours to turn. If you find one false, say at which input.
  Laid BY PROGRAM, IN A SANDBOX (cutbox-rows.mjs): the forced cells as the released guide's own fill.sh prints them over the translation 02a1641a6d76c1db… (all of the seat's roots in one cut). By AI agents, Wed Nov 11 2026. No macro, syntax, notation, axiom, sorry.
-/
import Derived.Test.YtnkflplbeagljaaChecked
import GoSem.Claim
import GoSem.ClaimJoined
import GoSem.ClaimMapViews
import Derived.JoinedTies
import Derived.KernelRfl
namespace Go.Proofs.Ytnkflplbeagljaa
/- THE CELL 'sum', in the pinned program and in every row, IS THE sha256 OF THE DUMP (.gsa) THAT YtnkflplbeagljaaProg.lean LOADS. Nothing in Lean hashes anything: it is a label: what it is worth is what the hold of that sum in a sandbox is worth. -/
noncomputable def Try.pinned : Pinned := { name := "ytnkflplbeagljaa", sum := "02a1641a6d76c1db3992b73babd3e035b36f2d45bd775d7d24ef38c2409088e0", checked := Try.checked }
namespace Rows
def none {H : Type} : Left H := { results := [], args := [] }

/-- 'laws.FnNearest': WHATEVER THE INPUT: true; the input reads as it did. -/
def fnNearestSpec : ChangeSpec := { name := "fnNearest", fn := fun _ => fun
  | [d] => { results := [.lit (.bool true)], args := [d] }
  | _ => none }
def fnNearestRow : OpenClaim := { program := "ytnkflplbeagljaa", sum := "02a1641a6d76c1db3992b73babd3e035b36f2d45bd775d7d24ef38c2409088e0", func := "loop.example/vectorstore/laws.FnNearest", spec := "fnNearest", unfollowed := true, recurses := true, apart := false }
def FnNearestSaid : Prop := fnNearestRow.holds Try.pinned (OpenSpec.ofChange fnNearestSpec)

/-- ITS FALSE NEIGHBOUR: 'it returns false'. Refute it at one input. -/
def fnNearestWrong : ChangeSpec := { name := "fnNearest", fn := fun _ => fun
  | [d] => { results := [.lit (.bool false)], args := [d] }
  | _ => none }
def FnNearestWrongFalsely : Prop := fnNearestRow.holds Try.pinned (OpenSpec.ofChange fnNearestWrong)

/-- 'laws.FnValidHits': WHATEVER THE INPUT: true; the input reads as it did. -/
def fnValidHitsSpec : ChangeSpec := { name := "fnValidHits", fn := fun _ => fun
  | [d] => { results := [.lit (.bool true)], args := [d] }
  | _ => none }
def fnValidHitsRow : OpenClaim := { program := "ytnkflplbeagljaa", sum := "02a1641a6d76c1db3992b73babd3e035b36f2d45bd775d7d24ef38c2409088e0", func := "loop.example/vectorstore/laws.FnValidHits", spec := "fnValidHits", unfollowed := true, recurses := true, apart := false }
def FnValidHitsSaid : Prop := fnValidHitsRow.holds Try.pinned (OpenSpec.ofChange fnValidHitsSpec)

/-- ITS FALSE NEIGHBOUR: 'it returns false'. Refute it at one input. -/
def fnValidHitsWrong : ChangeSpec := { name := "fnValidHits", fn := fun _ => fun
  | [d] => { results := [.lit (.bool false)], args := [d] }
  | _ => none }
def FnValidHitsWrongFalsely : Prop := fnValidHitsRow.holds Try.pinned (OpenSpec.ofChange fnValidHitsWrong)

/-- 'laws.FnMergeHits': WHATEVER THE INPUT: true; the input reads as it did. -/
def fnMergeHitsSpec : ChangeSpec := { name := "fnMergeHits", fn := fun _ => fun
  | [d] => { results := [.lit (.bool true)], args := [d] }
  | _ => none }
def fnMergeHitsRow : OpenClaim := { program := "ytnkflplbeagljaa", sum := "02a1641a6d76c1db3992b73babd3e035b36f2d45bd775d7d24ef38c2409088e0", func := "loop.example/vectorstore/laws.FnMergeHits", spec := "fnMergeHits", unfollowed := true, recurses := true, apart := false }
def FnMergeHitsSaid : Prop := fnMergeHitsRow.holds Try.pinned (OpenSpec.ofChange fnMergeHitsSpec)

/-- ITS FALSE NEIGHBOUR: 'it returns false'. Refute it at one input. -/
def fnMergeHitsWrong : ChangeSpec := { name := "fnMergeHits", fn := fun _ => fun
  | [d] => { results := [.lit (.bool false)], args := [d] }
  | _ => none }
def FnMergeHitsWrongFalsely : Prop := fnMergeHitsRow.holds Try.pinned (OpenSpec.ofChange fnMergeHitsWrong)

/-- 'laws.FnMergeHitsOrder': WHATEVER THE INPUT: true; the input reads as it did. -/
def fnMergeHitsOrderSpec : ChangeSpec := { name := "fnMergeHitsOrder", fn := fun _ => fun
  | [d] => { results := [.lit (.bool true)], args := [d] }
  | _ => none }
def fnMergeHitsOrderRow : OpenClaim := { program := "ytnkflplbeagljaa", sum := "02a1641a6d76c1db3992b73babd3e035b36f2d45bd775d7d24ef38c2409088e0", func := "loop.example/vectorstore/laws.FnMergeHitsOrder", spec := "fnMergeHitsOrder", unfollowed := true, recurses := true, apart := false }
def FnMergeHitsOrderSaid : Prop := fnMergeHitsOrderRow.holds Try.pinned (OpenSpec.ofChange fnMergeHitsOrderSpec)

/-- ITS FALSE NEIGHBOUR: 'it returns false'. Refute it at one input. -/
def fnMergeHitsOrderWrong : ChangeSpec := { name := "fnMergeHitsOrder", fn := fun _ => fun
  | [d] => { results := [.lit (.bool false)], args := [d] }
  | _ => none }
def FnMergeHitsOrderWrongFalsely : Prop := fnMergeHitsOrderRow.holds Try.pinned (OpenSpec.ofChange fnMergeHitsOrderWrong)

/-- 'laws.FnMergeHitsStores': WHATEVER THE INPUT: true; the input reads as it did. -/
def fnMergeHitsStoresSpec : ChangeSpec := { name := "fnMergeHitsStores", fn := fun _ => fun
  | [d] => { results := [.lit (.bool true)], args := [d] }
  | _ => none }
def fnMergeHitsStoresRow : OpenClaim := { program := "ytnkflplbeagljaa", sum := "02a1641a6d76c1db3992b73babd3e035b36f2d45bd775d7d24ef38c2409088e0", func := "loop.example/vectorstore/laws.FnMergeHitsStores", spec := "fnMergeHitsStores", unfollowed := true, recurses := true, apart := false }
def FnMergeHitsStoresSaid : Prop := fnMergeHitsStoresRow.holds Try.pinned (OpenSpec.ofChange fnMergeHitsStoresSpec)

/-- ITS FALSE NEIGHBOUR: 'it returns false'. Refute it at one input. -/
def fnMergeHitsStoresWrong : ChangeSpec := { name := "fnMergeHitsStores", fn := fun _ => fun
  | [d] => { results := [.lit (.bool false)], args := [d] }
  | _ => none }
def FnMergeHitsStoresWrongFalsely : Prop := fnMergeHitsStoresRow.holds Try.pinned (OpenSpec.ofChange fnMergeHitsStoresWrong)

/-- 'laws.FnRankScore': WHATEVER THE INPUT: true; the input reads as it did. -/
def fnRankScoreSpec : ChangeSpec := { name := "fnRankScore", fn := fun _ => fun
  | [d] => { results := [.lit (.bool true)], args := [d] }
  | _ => none }
def fnRankScoreRow : OpenClaim := { program := "ytnkflplbeagljaa", sum := "02a1641a6d76c1db3992b73babd3e035b36f2d45bd775d7d24ef38c2409088e0", func := "loop.example/vectorstore/laws.FnRankScore", spec := "fnRankScore", unfollowed := true, recurses := true, apart := false }
def FnRankScoreSaid : Prop := fnRankScoreRow.holds Try.pinned (OpenSpec.ofChange fnRankScoreSpec)

/-- ITS FALSE NEIGHBOUR: 'it returns false'. Refute it at one input. -/
def fnRankScoreWrong : ChangeSpec := { name := "fnRankScore", fn := fun _ => fun
  | [d] => { results := [.lit (.bool false)], args := [d] }
  | _ => none }
def FnRankScoreWrongFalsely : Prop := fnRankScoreRow.holds Try.pinned (OpenSpec.ofChange fnRankScoreWrong)

/-- 'laws.FnFuseRanks': WHATEVER THE INPUT: true; the input reads as it did. -/
def fnFuseRanksSpec : ChangeSpec := { name := "fnFuseRanks", fn := fun _ => fun
  | [d] => { results := [.lit (.bool true)], args := [d] }
  | _ => none }
def fnFuseRanksRow : OpenClaim := { program := "ytnkflplbeagljaa", sum := "02a1641a6d76c1db3992b73babd3e035b36f2d45bd775d7d24ef38c2409088e0", func := "loop.example/vectorstore/laws.FnFuseRanks", spec := "fnFuseRanks", unfollowed := true, recurses := true, apart := false }
def FnFuseRanksSaid : Prop := fnFuseRanksRow.holds Try.pinned (OpenSpec.ofChange fnFuseRanksSpec)

/-- ITS FALSE NEIGHBOUR: 'it returns false'. Refute it at one input. -/
def fnFuseRanksWrong : ChangeSpec := { name := "fnFuseRanks", fn := fun _ => fun
  | [d] => { results := [.lit (.bool false)], args := [d] }
  | _ => none }
def FnFuseRanksWrongFalsely : Prop := fnFuseRanksRow.holds Try.pinned (OpenSpec.ofChange fnFuseRanksWrong)

/- THE SECOND FORM. 'bulk': how many values and letters a reading holds, each counted each time it is reached (what is shared counts as often as it is met; a slice's spare places count too). A statement '..UptoSaid' is the law's where the arguments, and the package variables that the reading takes, are together of bulk at most 1048576: NARROWER than '..Said'. Prove '..Said' where nothing that the law and all that it calls make is longer than what came in: it says more and counts as full. Else prove '..UptoSaid'. A law counts once. -/
mutual
def uptoBulk {H : Type} : DataW H → Nat
  | .lit (.string bytes) => bytes.length + 1
  | .lit _ => 1
  | .nil => 1
  | .ptr d => uptoBulk d + 1
  | .slice elems spare => uptoBulkAll elems + uptoBulkAll spare + 1
  | .agg parts => uptoBulkAll parts + 1
  | .iface _ d => uptoBulk d + 1
  | .map entries => uptoBulkEntries entries + 1
  | .held _ => 1
def uptoBulkAll {H : Type} : List (DataW H) → Nat
  | [] => 0
  | d :: r => uptoBulk d + uptoBulkAll r
def uptoBulkEntries {H : Type} : List (Lit × DataW H) → Nat
  | [] => 0
  | x :: r => uptoBulkEntry x + uptoBulkEntries r
def uptoBulkEntry {H : Type} : Lit × DataW H → Nat
  | (.string bytes, d) => bytes.length + uptoBulk d + 1
  | (_, d) => uptoBulk d + 1
 end
def uptoSmall : (H : Type) → List (DataW H) → Bool := fun _ ds => decide (uptoBulkAll ds ≤ 1048576)
def OpenSpec.upto (s : _root_.Go.ChangeSpec) : _root_.Go.OpenSpec := { _root_.Go.OpenSpec.ofChange s with cond := some uptoSmall }

/-- 'laws.FnNearest', WHERE WHAT IT READS IS OF BULK AT MOST 1048576: true; the input reads as it did. -/
def fnNearestUptoRow : OpenClaim := { program := "ytnkflplbeagljaa", sum := "02a1641a6d76c1db3992b73babd3e035b36f2d45bd775d7d24ef38c2409088e0", func := "loop.example/vectorstore/laws.FnNearest", spec := "fnNearest", unfollowed := true, recurses := true, apart := false, narrowed := true }
def FnNearestUptoSaid : Prop := fnNearestUptoRow.holds Try.pinned (OpenSpec.upto fnNearestSpec)

/-- 'laws.FnValidHits', WHERE WHAT IT READS IS OF BULK AT MOST 1048576: true; the input reads as it did. -/
def fnValidHitsUptoRow : OpenClaim := { program := "ytnkflplbeagljaa", sum := "02a1641a6d76c1db3992b73babd3e035b36f2d45bd775d7d24ef38c2409088e0", func := "loop.example/vectorstore/laws.FnValidHits", spec := "fnValidHits", unfollowed := true, recurses := true, apart := false, narrowed := true }
def FnValidHitsUptoSaid : Prop := fnValidHitsUptoRow.holds Try.pinned (OpenSpec.upto fnValidHitsSpec)

/-- 'laws.FnMergeHits', WHERE WHAT IT READS IS OF BULK AT MOST 1048576: true; the input reads as it did. -/
def fnMergeHitsUptoRow : OpenClaim := { program := "ytnkflplbeagljaa", sum := "02a1641a6d76c1db3992b73babd3e035b36f2d45bd775d7d24ef38c2409088e0", func := "loop.example/vectorstore/laws.FnMergeHits", spec := "fnMergeHits", unfollowed := true, recurses := true, apart := false, narrowed := true }
def FnMergeHitsUptoSaid : Prop := fnMergeHitsUptoRow.holds Try.pinned (OpenSpec.upto fnMergeHitsSpec)

/-- 'laws.FnMergeHitsOrder', WHERE WHAT IT READS IS OF BULK AT MOST 1048576: true; the input reads as it did. -/
def fnMergeHitsOrderUptoRow : OpenClaim := { program := "ytnkflplbeagljaa", sum := "02a1641a6d76c1db3992b73babd3e035b36f2d45bd775d7d24ef38c2409088e0", func := "loop.example/vectorstore/laws.FnMergeHitsOrder", spec := "fnMergeHitsOrder", unfollowed := true, recurses := true, apart := false, narrowed := true }
def FnMergeHitsOrderUptoSaid : Prop := fnMergeHitsOrderUptoRow.holds Try.pinned (OpenSpec.upto fnMergeHitsOrderSpec)

/-- 'laws.FnMergeHitsStores', WHERE WHAT IT READS IS OF BULK AT MOST 1048576: true; the input reads as it did. -/
def fnMergeHitsStoresUptoRow : OpenClaim := { program := "ytnkflplbeagljaa", sum := "02a1641a6d76c1db3992b73babd3e035b36f2d45bd775d7d24ef38c2409088e0", func := "loop.example/vectorstore/laws.FnMergeHitsStores", spec := "fnMergeHitsStores", unfollowed := true, recurses := true, apart := false, narrowed := true }
def FnMergeHitsStoresUptoSaid : Prop := fnMergeHitsStoresUptoRow.holds Try.pinned (OpenSpec.upto fnMergeHitsStoresSpec)

/-- 'laws.FnRankScore', WHERE WHAT IT READS IS OF BULK AT MOST 1048576: true; the input reads as it did. -/
def fnRankScoreUptoRow : OpenClaim := { program := "ytnkflplbeagljaa", sum := "02a1641a6d76c1db3992b73babd3e035b36f2d45bd775d7d24ef38c2409088e0", func := "loop.example/vectorstore/laws.FnRankScore", spec := "fnRankScore", unfollowed := true, recurses := true, apart := false, narrowed := true }
def FnRankScoreUptoSaid : Prop := fnRankScoreUptoRow.holds Try.pinned (OpenSpec.upto fnRankScoreSpec)

/-- 'laws.FnFuseRanks', WHERE WHAT IT READS IS OF BULK AT MOST 1048576: true; the input reads as it did. -/
def fnFuseRanksUptoRow : OpenClaim := { program := "ytnkflplbeagljaa", sum := "02a1641a6d76c1db3992b73babd3e035b36f2d45bd775d7d24ef38c2409088e0", func := "loop.example/vectorstore/laws.FnFuseRanks", spec := "fnFuseRanks", unfollowed := true, recurses := true, apart := false, narrowed := true }
def FnFuseRanksUptoSaid : Prop := fnFuseRanksUptoRow.holds Try.pinned (OpenSpec.upto fnFuseRanksSpec)

end Rows
end Go.Proofs.Ytnkflplbeagljaa
