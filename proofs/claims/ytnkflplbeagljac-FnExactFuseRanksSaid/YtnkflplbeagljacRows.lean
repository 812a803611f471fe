/-
  No cell of these rows narrows 'for every input' (looked for: loops, veiled, ifaces, maps, wideKeys, modest, calm, conditions, laid).
  DERIVED. THE GIVEN ROWS OF THIS SEAT. 8 by the template 'for every input the law returns true; each argument reads behind the call as it read before'; 0 by the template 'total and deterministic' (their statements: YtnkflplbeagljacTotals.lean).
  GIVEN WITH THE SEED: the statements are not yours to turn. If you find one false, say at which input.
  Laid BY PROGRAM, IN A SANDBOX (cutbox-rows.mjs): the forced cells as the released guide's own fill.sh prints them over the translation 5688e8f4bc15fcc6… (all of the seat's roots in one cut). By AI agents, Wed Nov 11 2026. No macro, syntax, notation, axiom, sorry.
-/
import Derived.Test.YtnkflplbeagljacChecked
import GoSem.Claim
import GoSem.ClaimJoined
import GoSem.ClaimMapViews
import Derived.JoinedTies
import Derived.KernelRfl
namespace Go.Proofs.Ytnkflplbeagljac
/- THE CELL 'sum', in the pinned program and in every row, IS THE sha256 OF THE DUMP (.gsa) THAT YtnkflplbeagljacProg.lean LOADS. Nothing in Lean hashes anything: it is a label: what it is worth is what the hold of that sum in a sandbox is worth. -/
noncomputable def Try.pinned : Pinned := { name := "ytnkflplbeagljac", sum := "5688e8f4bc15fcc63b358ab902e90887b781974edb4474675a5e5f3a5a94d7f9", checked := Try.checked }
namespace Rows
def none {H : Type} : Left H := { results := [], args := [] }

/-- 'laws.FnCheckOfRange': WHATEVER THE INPUT: true; the input reads as it did. -/
def fnCheckOfRangeSpec : ChangeSpec := { name := "fnCheckOfRange", fn := fun _ => fun
  | [d] => { results := [.lit (.bool true)], args := [d] }
  | _ => none }
def fnCheckOfRangeRow : OpenClaim := { program := "ytnkflplbeagljac", sum := "5688e8f4bc15fcc63b358ab902e90887b781974edb4474675a5e5f3a5a94d7f9", func := "loop.example/vectorstore/laws.FnCheckOfRange", spec := "fnCheckOfRange", apart := false }
def FnCheckOfRangeSaid : Prop := fnCheckOfRangeRow.holds Try.pinned (OpenSpec.ofChange fnCheckOfRangeSpec)

/-- ITS FALSE NEIGHBOUR: 'it returns false'. Refute it at one input. -/
def fnCheckOfRangeWrong : ChangeSpec := { name := "fnCheckOfRange", fn := fun _ => fun
  | [d] => { results := [.lit (.bool false)], args := [d] }
  | _ => none }
def FnCheckOfRangeWrongFalsely : Prop := fnCheckOfRangeRow.holds Try.pinned (OpenSpec.ofChange fnCheckOfRangeWrong)

/-- 'laws.FnExactValidHits': WHATEVER THE INPUT: true; the input reads as it did. -/
def fnExactValidHitsSpec : ChangeSpec := { name := "fnExactValidHits", fn := fun _ => fun
  | [d] => { results := [.lit (.bool true)], args := [d] }
  | _ => none }
def fnExactValidHitsRow : OpenClaim := { program := "ytnkflplbeagljac", sum := "5688e8f4bc15fcc63b358ab902e90887b781974edb4474675a5e5f3a5a94d7f9", func := "loop.example/vectorstore/laws.FnExactValidHits", spec := "fnExactValidHits", unfollowed := true, recurses := true, apart := false }
def FnExactValidHitsSaid : Prop := fnExactValidHitsRow.holds Try.pinned (OpenSpec.ofChange fnExactValidHitsSpec)

/-- ITS FALSE NEIGHBOUR: 'it returns false'. Refute it at one input. -/
def fnExactValidHitsWrong : ChangeSpec := { name := "fnExactValidHits", fn := fun _ => fun
  | [d] => { results := [.lit (.bool false)], args := [d] }
  | _ => none }
def FnExactValidHitsWrongFalsely : Prop := fnExactValidHitsRow.holds Try.pinned (OpenSpec.ofChange fnExactValidHitsWrong)

/-- 'laws.FnExactMergeHits': WHATEVER THE INPUT: true; the input reads as it did. -/
def fnExactMergeHitsSpec : ChangeSpec := { name := "fnExactMergeHits", fn := fun _ => fun
  | [d1, d2, d3] => { results := [.lit (.bool true)], args := [d1, d2, d3] }
  | _ => none }
def fnExactMergeHitsRow : OpenClaim := { program := "ytnkflplbeagljac", sum := "5688e8f4bc15fcc63b358ab902e90887b781974edb4474675a5e5f3a5a94d7f9", func := "loop.example/vectorstore/laws.FnExactMergeHits", spec := "fnExactMergeHits", unfollowed := true, recurses := true, apart := false }
def FnExactMergeHitsSaid : Prop := fnExactMergeHitsRow.holds Try.pinned (OpenSpec.ofChange fnExactMergeHitsSpec)

/-- ITS FALSE NEIGHBOUR: 'it returns false'. Refute it at one input. -/
def fnExactMergeHitsWrong : ChangeSpec := { name := "fnExactMergeHits", fn := fun _ => fun
  | [d1, d2, d3] => { results := [.lit (.bool false)], args := [d1, d2, d3] }
  | _ => none }
def FnExactMergeHitsWrongFalsely : Prop := fnExactMergeHitsRow.holds Try.pinned (OpenSpec.ofChange fnExactMergeHitsWrong)

/-- 'laws.FnExactRankScore': WHATEVER THE INPUT: true; the input reads as it did. -/
def fnExactRankScoreSpec : ChangeSpec := { name := "fnExactRankScore", fn := fun _ => fun
  | [d1, d2] => { results := [.lit (.bool true)], args := [d1, d2] }
  | _ => none }
def fnExactRankScoreRow : OpenClaim := { program := "ytnkflplbeagljac", sum := "5688e8f4bc15fcc63b358ab902e90887b781974edb4474675a5e5f3a5a94d7f9", func := "loop.example/vectorstore/laws.FnExactRankScore", spec := "fnExactRankScore", unfollowed := true, recurses := true, apart := false }
def FnExactRankScoreSaid : Prop := fnExactRankScoreRow.holds Try.pinned (OpenSpec.ofChange fnExactRankScoreSpec)

/-- ITS FALSE NEIGHBOUR: 'it returns false'. Refute it at one input. -/
def fnExactRankScoreWrong : ChangeSpec := { name := "fnExactRankScore", fn := fun _ => fun
  | [d1, d2] => { results := [.lit (.bool false)], args := [d1, d2] }
  | _ => none }
def FnExactRankScoreWrongFalsely : Prop := fnExactRankScoreRow.holds Try.pinned (OpenSpec.ofChange fnExactRankScoreWrong)

/-- 'laws.FnExactFuseRanks': WHATEVER THE INPUT: true; the input reads as it did. -/
def fnExactFuseRanksSpec : ChangeSpec := { name := "fnExactFuseRanks", fn := fun _ => fun
  | [d1, d2] => { results := [.lit (.bool true)], args := [d1, d2] }
  | _ => none }
def fnExactFuseRanksRow : OpenClaim := { program := "ytnkflplbeagljac", sum := "5688e8f4bc15fcc63b358ab902e90887b781974edb4474675a5e5f3a5a94d7f9", func := "loop.example/vectorstore/laws.FnExactFuseRanks", spec := "fnExactFuseRanks", unfollowed := true, recurses := true, apart := false }
def FnExactFuseRanksSaid : Prop := fnExactFuseRanksRow.holds Try.pinned (OpenSpec.ofChange fnExactFuseRanksSpec)

/-- ITS FALSE NEIGHBOUR: 'it returns false'. Refute it at one input. -/
def fnExactFuseRanksWrong : ChangeSpec := { name := "fnExactFuseRanks", fn := fun _ => fun
  | [d1, d2] => { results := [.lit (.bool false)], args := [d1, d2] }
  | _ => none }
def FnExactFuseRanksWrongFalsely : Prop := fnExactFuseRanksRow.holds Try.pinned (OpenSpec.ofChange fnExactFuseRanksWrong)

/-- 'laws.FnExactRecallOf': WHATEVER THE INPUT: true; the input reads as it did. -/
def fnExactRecallOfSpec : ChangeSpec := { name := "fnExactRecallOf", fn := fun _ => fun
  | [d1, d2] => { results := [.lit (.bool true)], args := [d1, d2] }
  | _ => none }
def fnExactRecallOfRow : OpenClaim := { program := "ytnkflplbeagljac", sum := "5688e8f4bc15fcc63b358ab902e90887b781974edb4474675a5e5f3a5a94d7f9", func := "loop.example/vectorstore/laws.FnExactRecallOf", spec := "fnExactRecallOf", unfollowed := true, recurses := true, apart := false }
def FnExactRecallOfSaid : Prop := fnExactRecallOfRow.holds Try.pinned (OpenSpec.ofChange fnExactRecallOfSpec)

/-- ITS FALSE NEIGHBOUR: 'it returns false'. Refute it at one input. -/
def fnExactRecallOfWrong : ChangeSpec := { name := "fnExactRecallOf", fn := fun _ => fun
  | [d1, d2] => { results := [.lit (.bool false)], args := [d1, d2] }
  | _ => none }
def FnExactRecallOfWrongFalsely : Prop := fnExactRecallOfRow.holds Try.pinned (OpenSpec.ofChange fnExactRecallOfWrong)

/-- 'laws.FnExactCheckOf': WHATEVER THE INPUT: true; the input reads as it did. -/
def fnExactCheckOfSpec : ChangeSpec := { name := "fnExactCheckOf", fn := fun _ => fun
  | [d] => { results := [.lit (.bool true)], args := [d] }
  | _ => none }
def fnExactCheckOfRow : OpenClaim := { program := "ytnkflplbeagljac", sum := "5688e8f4bc15fcc63b358ab902e90887b781974edb4474675a5e5f3a5a94d7f9", func := "loop.example/vectorstore/laws.FnExactCheckOf", spec := "fnExactCheckOf", apart := false }
def FnExactCheckOfSaid : Prop := fnExactCheckOfRow.holds Try.pinned (OpenSpec.ofChange fnExactCheckOfSpec)

/-- ITS FALSE NEIGHBOUR: 'it returns false'. Refute it at one input. -/
def fnExactCheckOfWrong : ChangeSpec := { name := "fnExactCheckOf", fn := fun _ => fun
  | [d] => { results := [.lit (.bool false)], args := [d] }
  | _ => none }
def FnExactCheckOfWrongFalsely : Prop := fnExactCheckOfRow.holds Try.pinned (OpenSpec.ofChange fnExactCheckOfWrong)

/-- 'laws.FnExactFormatPage': WHATEVER THE INPUT: true; the input reads as it did. -/
def fnExactFormatPageSpec : ChangeSpec := { name := "fnExactFormatPage", fn := fun _ => fun
  | [d] => { results := [.lit (.bool true)], args := [d] }
  | _ => none }
def fnExactFormatPageRow : OpenClaim := { program := "ytnkflplbeagljac", sum := "5688e8f4bc15fcc63b358ab902e90887b781974edb4474675a5e5f3a5a94d7f9", func := "loop.example/vectorstore/laws.FnExactFormatPage", spec := "fnExactFormatPage", apart := false }
def FnExactFormatPageSaid : Prop := fnExactFormatPageRow.holds Try.pinned (OpenSpec.ofChange fnExactFormatPageSpec)

/-- ITS FALSE NEIGHBOUR: 'it returns false'. Refute it at one input. -/
def fnExactFormatPageWrong : ChangeSpec := { name := "fnExactFormatPage", fn := fun _ => fun
  | [d] => { results := [.lit (.bool false)], args := [d] }
  | _ => none }
def FnExactFormatPageWrongFalsely : Prop := fnExactFormatPageRow.holds Try.pinned (OpenSpec.ofChange fnExactFormatPageWrong)

/- THE SECOND FORM. 'bulk': how many values and letters a reading holds, each counted each time it is reached (what is shared counts as often as it is met; a slice's spare places count too). A statement '..UptoSaid' is the law's where the arguments, and the package variables that the reading takes, are together of bulk at most 1048576: NARROWER than '..Said'. Prove '..Said' where nothing that the law and all that it calls make is longer than what came in: it says more and counts as full. Else prove '..UptoSaid'. A law counts once. -/
mutual
def uptoBulk {H : Type} : DataW H → Nat
  | .lit (.string bytes) => bytes.length + 1
  | .lit _ => 1
  | .nil => 1
  | .ptr d => uptoBulk d + 1
  | .slice elems spare => uptoBulkAll elems + uptoBulkAll spare + 1
  | .agg parts => uptoBulkAll parts + 1
  | .iface _ d => uptoBulk d + 1
  | .map entries => uptoBulkEntries entries + 1
  | .held _ => 1
def uptoBulkAll {H : Type} : List (DataW H) → Nat
  | [] => 0
  | d :: r => uptoBulk d + uptoBulkAll r
def uptoBulkEntries {H : Type} : List (Lit × DataW H) → Nat
  | [] => 0
  | x :: r => uptoBulkEntry x + uptoBulkEntries r
def uptoBulkEntry {H : Type} : Lit × DataW H → Nat
  | (.string bytes, d) => bytes.length + uptoBulk d + 1
  | (_, d) => uptoBulk d + 1
 end
def uptoSmall : (H : Type) → List (DataW H) → Bool := fun _ ds => decide (uptoBulkAll ds ≤ 1048576)
def OpenSpec.upto (s : _root_.Go.ChangeSpec) : _root_.Go.OpenSpec := { _root_.Go.OpenSpec.ofChange s with cond := some uptoSmall }

/-- 'laws.FnCheckOfRange', WHERE WHAT IT READS IS OF BULK AT MOST 1048576: true; the input reads as it did. -/
def fnCheckOfRangeUptoRow : OpenClaim := { program := "ytnkflplbeagljac", sum := "5688e8f4bc15fcc63b358ab902e90887b781974edb4474675a5e5f3a5a94d7f9", func := "loop.example/vectorstore/laws.FnCheckOfRange", spec := "fnCheckOfRange", apart := false, narrowed := true }
def FnCheckOfRangeUptoSaid : Prop := fnCheckOfRangeUptoRow.holds Try.pinned (OpenSpec.upto fnCheckOfRangeSpec)

/-- 'laws.FnExactValidHits', WHERE WHAT IT READS IS OF BULK AT MOST 1048576: true; the input reads as it did. -/
def fnExactValidHitsUptoRow : OpenClaim := { program := "ytnkflplbeagljac", sum := "5688e8f4bc15fcc63b358ab902e90887b781974edb4474675a5e5f3a5a94d7f9", func := "loop.example/vectorstore/laws.FnExactValidHits", spec := "fnExactValidHits", unfollowed := true, recurses := true, apart := false, narrowed := true }
def FnExactValidHitsUptoSaid : Prop := fnExactValidHitsUptoRow.holds Try.pinned (OpenSpec.upto fnExactValidHitsSpec)

/-- 'laws.FnExactMergeHits', WHERE WHAT IT READS IS OF BULK AT MOST 1048576: true; the input reads as it did. -/
def fnExactMergeHitsUptoRow : OpenClaim := { program := "ytnkflplbeagljac", sum := "5688e8f4bc15fcc63b358ab902e90887b781974edb4474675a5e5f3a5a94d7f9", func := "loop.example/vectorstore/laws.FnExactMergeHits", spec := "fnExactMergeHits", unfollowed := true, recurses := true, apart := false, narrowed := true }
def FnExactMergeHitsUptoSaid : Prop := fnExactMergeHitsUptoRow.holds Try.pinned (OpenSpec.upto fnExactMergeHitsSpec)

/-- 'laws.FnExactRankScore', WHERE WHAT IT READS IS OF BULK AT MOST 1048576: true; the input reads as it did. -/
def fnExactRankScoreUptoRow : OpenClaim := { program := "ytnkflplbeagljac", sum := "5688e8f4bc15fcc63b358ab902e90887b781974edb4474675a5e5f3a5a94d7f9", func := "loop.example/vectorstore/laws.FnExactRankScore", spec := "fnExactRankScore", unfollowed := true, recurses := true, apart := false, narrowed := true }
def FnExactRankScoreUptoSaid : Prop := fnExactRankScoreUptoRow.holds Try.pinned (OpenSpec.upto fnExactRankScoreSpec)

/-- 'laws.FnExactFuseRanks', WHERE WHAT IT READS IS OF BULK AT MOST 1048576: true; the input reads as it did. -/
def fnExactFuseRanksUptoRow : OpenClaim := { program := "ytnkflplbeagljac", sum := "5688e8f4bc15fcc63b358ab902e90887b781974edb4474675a5e5f3a5a94d7f9", func := "loop.example/vectorstore/laws.FnExactFuseRanks", spec := "fnExactFuseRanks", unfollowed := true, recurses := true, apart := false, narrowed := true }
def FnExactFuseRanksUptoSaid : Prop := fnExactFuseRanksUptoRow.holds Try.pinned (OpenSpec.upto fnExactFuseRanksSpec)

/-- 'laws.FnExactRecallOf', WHERE WHAT IT READS IS OF BULK AT MOST 1048576: true; the input reads as it did. -/
def fnExactRecallOfUptoRow : OpenClaim := { program := "ytnkflplbeagljac", sum := "5688e8f4bc15fcc63b358ab902e90887b781974edb4474675a5e5f3a5a94d7f9", func := "loop.example/vectorstore/laws.FnExactRecallOf", spec := "fnExactRecallOf", unfollowed := true, recurses := true, apart := false, narrowed := true }
def FnExactRecallOfUptoSaid : Prop := fnExactRecallOfUptoRow.holds Try.pinned (OpenSpec.upto fnExactRecallOfSpec)

/-- 'laws.FnExactCheckOf', WHERE WHAT IT READS IS OF BULK AT MOST 1048576: true; the input reads as it did. -/
def fnExactCheckOfUptoRow : OpenClaim := { program := "ytnkflplbeagljac", sum := "5688e8f4bc15fcc63b358ab902e90887b781974edb4474675a5e5f3a5a94d7f9", func := "loop.example/vectorstore/laws.FnExactCheckOf", spec := "fnExactCheckOf", apart := false, narrowed := true }
def FnExactCheckOfUptoSaid : Prop := fnExactCheckOfUptoRow.holds Try.pinned (OpenSpec.upto fnExactCheckOfSpec)

/-- 'laws.FnExactFormatPage', WHERE WHAT IT READS IS OF BULK AT MOST 1048576: true; the input reads as it did. -/
def fnExactFormatPageUptoRow : OpenClaim := { program := "ytnkflplbeagljac", sum := "5688e8f4bc15fcc63b358ab902e90887b781974edb4474675a5e5f3a5a94d7f9", func := "loop.example/vectorstore/laws.FnExactFormatPage", spec := "fnExactFormatPage", apart := false, narrowed := true }
def FnExactFormatPageUptoSaid : Prop := fnExactFormatPageUptoRow.holds Try.pinned (OpenSpec.upto fnExactFormatPageSpec)

end Rows
end Go.Proofs.Ytnkflplbeagljac
