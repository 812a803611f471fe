/-
  No cell of these rows narrows 'for every input' (looked for: loops, veiled, ifaces, maps, wideKeys, modest, calm, conditions, laid).
  DERIVED. THE GIVEN ROWS OF THIS SEAT. 8 by the template 'for every input the law returns true; each argument reads behind the call as it read before'; 0 by the template 'total and deterministic' (their statements: YtnkflplbeagljabTotals.lean).
  GIVEN WITH THE SEED: the statements are not yours to turn. If you find one false, say at which input.
  Laid BY PROGRAM, IN A SANDBOX (cutbox-rows.mjs): the forced cells as the released guide's own fill.sh prints them over the translation d009d0327fb04f1b… (all of the seat's roots in one cut). By AI agents, Wed Nov 11 2026. No macro, syntax, notation, axiom, sorry.
-/
import Derived.Test.YtnkflplbeagljabChecked
import GoSem.Claim
import GoSem.ClaimJoined
import GoSem.ClaimMapViews
import Derived.JoinedTies
import Derived.KernelRfl
namespace Go.Proofs.Ytnkflplbeagljab
/- THE CELL 'sum', in the pinned program and in every row, IS THE sha256 OF THE DUMP (.gsa) THAT YtnkflplbeagljabProg.lean LOADS. Nothing in Lean hashes anything: it is a label: what it is worth is what the hold of that sum in a sandbox is worth. -/
noncomputable def Try.pinned : Pinned := { name := "ytnkflplbeagljab", sum := "d009d0327fb04f1bb74866b738c7e96679cef3dd738d7016927ade7656c982b8", checked := Try.checked }
namespace Rows
def none {H : Type} : Left H := { results := [], args := [] }

/-- 'laws.FnFuseRanksSelf': WHATEVER THE INPUT: true; the input reads as it did. -/
def fnFuseRanksSelfSpec : ChangeSpec := { name := "fnFuseRanksSelf", fn := fun _ => fun
  | [d] => { results := [.lit (.bool true)], args := [d] }
  | _ => none }
def fnFuseRanksSelfRow : OpenClaim := { program := "ytnkflplbeagljab", sum := "d009d0327fb04f1bb74866b738c7e96679cef3dd738d7016927ade7656c982b8", func := "loop.example/vectorstore/laws.FnFuseRanksSelf", spec := "fnFuseRanksSelf", unfollowed := true, recurses := true, apart := false }
def FnFuseRanksSelfSaid : Prop := fnFuseRanksSelfRow.holds Try.pinned (OpenSpec.ofChange fnFuseRanksSelfSpec)

/-- ITS FALSE NEIGHBOUR: 'it returns false'. Refute it at one input. -/
def fnFuseRanksSelfWrong : ChangeSpec := { name := "fnFuseRanksSelf", fn := fun _ => fun
  | [d] => { results := [.lit (.bool false)], args := [d] }
  | _ => none }
def FnFuseRanksSelfWrongFalsely : Prop := fnFuseRanksSelfRow.holds Try.pinned (OpenSpec.ofChange fnFuseRanksSelfWrong)

/-- 'laws.FnRecallOf': WHATEVER THE INPUT: true; the input reads as it did. -/
def fnRecallOfSpec : ChangeSpec := { name := "fnRecallOf", fn := fun _ => fun
  | [d] => { results := [.lit (.bool true)], args := [d] }
  | _ => none }
def fnRecallOfRow : OpenClaim := { program := "ytnkflplbeagljab", sum := "d009d0327fb04f1bb74866b738c7e96679cef3dd738d7016927ade7656c982b8", func := "loop.example/vectorstore/laws.FnRecallOf", spec := "fnRecallOf", unfollowed := true, recurses := true, apart := false }
def FnRecallOfSaid : Prop := fnRecallOfRow.holds Try.pinned (OpenSpec.ofChange fnRecallOfSpec)

/-- ITS FALSE NEIGHBOUR: 'it returns false'. Refute it at one input. -/
def fnRecallOfWrong : ChangeSpec := { name := "fnRecallOf", fn := fun _ => fun
  | [d] => { results := [.lit (.bool false)], args := [d] }
  | _ => none }
def FnRecallOfWrongFalsely : Prop := fnRecallOfRow.holds Try.pinned (OpenSpec.ofChange fnRecallOfWrong)

/-- 'laws.FnRecallOfPart': WHATEVER THE INPUT: true; the input reads as it did. -/
def fnRecallOfPartSpec : ChangeSpec := { name := "fnRecallOfPart", fn := fun _ => fun
  | [d] => { results := [.lit (.bool true)], args := [d] }
  | _ => none }
def fnRecallOfPartRow : OpenClaim := { program := "ytnkflplbeagljab", sum := "d009d0327fb04f1bb74866b738c7e96679cef3dd738d7016927ade7656c982b8", func := "loop.example/vectorstore/laws.FnRecallOfPart", spec := "fnRecallOfPart", unfollowed := true, recurses := true, apart := false }
def FnRecallOfPartSaid : Prop := fnRecallOfPartRow.holds Try.pinned (OpenSpec.ofChange fnRecallOfPartSpec)

/-- ITS FALSE NEIGHBOUR: 'it returns false'. Refute it at one input. -/
def fnRecallOfPartWrong : ChangeSpec := { name := "fnRecallOfPart", fn := fun _ => fun
  | [d] => { results := [.lit (.bool false)], args := [d] }
  | _ => none }
def FnRecallOfPartWrongFalsely : Prop := fnRecallOfPartRow.holds Try.pinned (OpenSpec.ofChange fnRecallOfPartWrong)

/-- 'laws.FnCheckOf': WHATEVER THE INPUT: true; the input reads as it did. -/
def fnCheckOfSpec : ChangeSpec := { name := "fnCheckOf", fn := fun _ => fun
  | [d] => { results := [.lit (.bool true)], args := [d] }
  | _ => none }
def fnCheckOfRow : OpenClaim := { program := "ytnkflplbeagljab", sum := "d009d0327fb04f1bb74866b738c7e96679cef3dd738d7016927ade7656c982b8", func := "loop.example/vectorstore/laws.FnCheckOf", spec := "fnCheckOf", apart := false }
def FnCheckOfSaid : Prop := fnCheckOfRow.holds Try.pinned (OpenSpec.ofChange fnCheckOfSpec)

/-- ITS FALSE NEIGHBOUR: 'it returns false'. Refute it at one input. -/
def fnCheckOfWrong : ChangeSpec := { name := "fnCheckOf", fn := fun _ => fun
  | [d] => { results := [.lit (.bool false)], args := [d] }
  | _ => none }
def FnCheckOfWrongFalsely : Prop := fnCheckOfRow.holds Try.pinned (OpenSpec.ofChange fnCheckOfWrong)

/-- 'laws.FnCheckOfChange': WHATEVER THE INPUT: true; the input reads as it did. -/
def fnCheckOfChangeSpec : ChangeSpec := { name := "fnCheckOfChange", fn := fun _ => fun
  | [d] => { results := [.lit (.bool true)], args := [d] }
  | _ => none }
def fnCheckOfChangeRow : OpenClaim := { program := "ytnkflplbeagljab", sum := "d009d0327fb04f1bb74866b738c7e96679cef3dd738d7016927ade7656c982b8", func := "loop.example/vectorstore/laws.FnCheckOfChange", spec := "fnCheckOfChange", apart := false }
def FnCheckOfChangeSaid : Prop := fnCheckOfChangeRow.holds Try.pinned (OpenSpec.ofChange fnCheckOfChangeSpec)

/-- ITS FALSE NEIGHBOUR: 'it returns false'. Refute it at one input. -/
def fnCheckOfChangeWrong : ChangeSpec := { name := "fnCheckOfChange", fn := fun _ => fun
  | [d] => { results := [.lit (.bool false)], args := [d] }
  | _ => none }
def FnCheckOfChangeWrongFalsely : Prop := fnCheckOfChangeRow.holds Try.pinned (OpenSpec.ofChange fnCheckOfChangeWrong)

/-- 'laws.FnMergeHitsThree': WHATEVER THE INPUT: true; the input reads as it did. -/
def fnMergeHitsThreeSpec : ChangeSpec := { name := "fnMergeHitsThree", fn := fun _ => fun
  | [d] => { results := [.lit (.bool true)], args := [d] }
  | _ => none }
def fnMergeHitsThreeRow : OpenClaim := { program := "ytnkflplbeagljab", sum := "d009d0327fb04f1bb74866b738c7e96679cef3dd738d7016927ade7656c982b8", func := "loop.example/vectorstore/laws.FnMergeHitsThree", spec := "fnMergeHitsThree", unfollowed := true, recurses := true, apart := false }
def FnMergeHitsThreeSaid : Prop := fnMergeHitsThreeRow.holds Try.pinned (OpenSpec.ofChange fnMergeHitsThreeSpec)

/-- ITS FALSE NEIGHBOUR: 'it returns false'. Refute it at one input. -/
def fnMergeHitsThreeWrong : ChangeSpec := { name := "fnMergeHitsThree", fn := fun _ => fun
  | [d] => { results := [.lit (.bool false)], args := [d] }
  | _ => none }
def FnMergeHitsThreeWrongFalsely : Prop := fnMergeHitsThreeRow.holds Try.pinned (OpenSpec.ofChange fnMergeHitsThreeWrong)

/-- 'laws.FnRankScoreFirst': WHATEVER THE INPUT: true; the input reads as it did. -/
def fnRankScoreFirstSpec : ChangeSpec := { name := "fnRankScoreFirst", fn := fun _ => fun
  | [d] => { results := [.lit (.bool true)], args := [d] }
  | _ => none }
def fnRankScoreFirstRow : OpenClaim := { program := "ytnkflplbeagljab", sum := "d009d0327fb04f1bb74866b738c7e96679cef3dd738d7016927ade7656c982b8", func := "loop.example/vectorstore/laws.FnRankScoreFirst", spec := "fnRankScoreFirst", unfollowed := true, recurses := true, apart := false }
def FnRankScoreFirstSaid : Prop := fnRankScoreFirstRow.holds Try.pinned (OpenSpec.ofChange fnRankScoreFirstSpec)

/-- ITS FALSE NEIGHBOUR: 'it returns false'. Refute it at one input. -/
def fnRankScoreFirstWrong : ChangeSpec := { name := "fnRankScoreFirst", fn := fun _ => fun
  | [d] => { results := [.lit (.bool false)], args := [d] }
  | _ => none }
def FnRankScoreFirstWrongFalsely : Prop := fnRankScoreFirstRow.holds Try.pinned (OpenSpec.ofChange fnRankScoreFirstWrong)

/-- 'laws.FnRecallOfNearest': WHATEVER THE INPUT: true; the input reads as it did. -/
def fnRecallOfNearestSpec : ChangeSpec := { name := "fnRecallOfNearest", fn := fun _ => fun
  | [d] => { results := [.lit (.bool true)], args := [d] }
  | _ => none }
def fnRecallOfNearestRow : OpenClaim := { program := "ytnkflplbeagljab", sum := "d009d0327fb04f1bb74866b738c7e96679cef3dd738d7016927ade7656c982b8", func := "loop.example/vectorstore/laws.FnRecallOfNearest", spec := "fnRecallOfNearest", unfollowed := true, recurses := true, apart := false }
def FnRecallOfNearestSaid : Prop := fnRecallOfNearestRow.holds Try.pinned (OpenSpec.ofChange fnRecallOfNearestSpec)

/-- ITS FALSE NEIGHBOUR: 'it returns false'. Refute it at one input. -/
def fnRecallOfNearestWrong : ChangeSpec := { name := "fnRecallOfNearest", fn := fun _ => fun
  | [d] => { results := [.lit (.bool false)], args := [d] }
  | _ => none }
def FnRecallOfNearestWrongFalsely : Prop := fnRecallOfNearestRow.holds Try.pinned (OpenSpec.ofChange fnRecallOfNearestWrong)

/- THE SECOND FORM. 'bulk': how many values and letters a reading holds, each counted each time it is reached (what is shared counts as often as it is met; a slice's spare places count too). A statement '..UptoSaid' is the law's where the arguments, and the package variables that the reading takes, are together of bulk at most 1048576: NARROWER than '..Said'. Prove '..Said' where nothing that the law and all that it calls make is longer than what came in: it says more and counts as full. Else prove '..UptoSaid'. A law counts once. -/
mutual
def uptoBulk {H : Type} : DataW H → Nat
  | .lit (.string bytes) => bytes.length + 1
  | .lit _ => 1
  | .nil => 1
  | .ptr d => uptoBulk d + 1
  | .slice elems spare => uptoBulkAll elems + uptoBulkAll spare + 1
  | .agg parts => uptoBulkAll parts + 1
  | .iface _ d => uptoBulk d + 1
  | .map entries => uptoBulkEntries entries + 1
  | .held _ => 1
def uptoBulkAll {H : Type} : List (DataW H) → Nat
  | [] => 0
  | d :: r => uptoBulk d + uptoBulkAll r
def uptoBulkEntries {H : Type} : List (Lit × DataW H) → Nat
  | [] => 0
  | x :: r => uptoBulkEntry x + uptoBulkEntries r
def uptoBulkEntry {H : Type} : Lit × DataW H → Nat
  | (.string bytes, d) => bytes.length + uptoBulk d + 1
  | (_, d) => uptoBulk d + 1
 end
def uptoSmall : (H : Type) → List (DataW H) → Bool := fun _ ds => decide (uptoBulkAll ds ≤ 1048576)
def OpenSpec.upto (s : _root_.Go.ChangeSpec) : _root_.Go.OpenSpec := { _root_.Go.OpenSpec.ofChange s with cond := some uptoSmall }

/-- 'laws.FnFuseRanksSelf', WHERE WHAT IT READS IS OF BULK AT MOST 1048576: true; the input reads as it did. -/
def fnFuseRanksSelfUptoRow : OpenClaim := { program := "ytnkflplbeagljab", sum := "d009d0327fb04f1bb74866b738c7e96679cef3dd738d7016927ade7656c982b8", func := "loop.example/vectorstore/laws.FnFuseRanksSelf", spec := "fnFuseRanksSelf", unfollowed := true, recurses := true, apart := false, narrowed := true }
def FnFuseRanksSelfUptoSaid : Prop := fnFuseRanksSelfUptoRow.holds Try.pinned (OpenSpec.upto fnFuseRanksSelfSpec)

/-- 'laws.FnRecallOf', WHERE WHAT IT READS IS OF BULK AT MOST 1048576: true; the input reads as it did. -/
def fnRecallOfUptoRow : OpenClaim := { program := "ytnkflplbeagljab", sum := "d009d0327fb04f1bb74866b738c7e96679cef3dd738d7016927ade7656c982b8", func := "loop.example/vectorstore/laws.FnRecallOf", spec := "fnRecallOf", unfollowed := true, recurses := true, apart := false, narrowed := true }
def FnRecallOfUptoSaid : Prop := fnRecallOfUptoRow.holds Try.pinned (OpenSpec.upto fnRecallOfSpec)

/-- 'laws.FnRecallOfPart', WHERE WHAT IT READS IS OF BULK AT MOST 1048576: true; the input reads as it did. -/
def fnRecallOfPartUptoRow : OpenClaim := { program := "ytnkflplbeagljab", sum := "d009d0327fb04f1bb74866b738c7e96679cef3dd738d7016927ade7656c982b8", func := "loop.example/vectorstore/laws.FnRecallOfPart", spec := "fnRecallOfPart", unfollowed := true, recurses := true, apart := false, narrowed := true }
def FnRecallOfPartUptoSaid : Prop := fnRecallOfPartUptoRow.holds Try.pinned (OpenSpec.upto fnRecallOfPartSpec)

/-- 'laws.FnCheckOf', WHERE WHAT IT READS IS OF BULK AT MOST 1048576: true; the input reads as it did. -/
def fnCheckOfUptoRow : OpenClaim := { program := "ytnkflplbeagljab", sum := "d009d0327fb04f1bb74866b738c7e96679cef3dd738d7016927ade7656c982b8", func := "loop.example/vectorstore/laws.FnCheckOf", spec := "fnCheckOf", apart := false, narrowed := true }
def FnCheckOfUptoSaid : Prop := fnCheckOfUptoRow.holds Try.pinned (OpenSpec.upto fnCheckOfSpec)

/-- 'laws.FnCheckOfChange', WHERE WHAT IT READS IS OF BULK AT MOST 1048576: true; the input reads as it did. -/
def fnCheckOfChangeUptoRow : OpenClaim := { program := "ytnkflplbeagljab", sum := "d009d0327fb04f1bb74866b738c7e96679cef3dd738d7016927ade7656c982b8", func := "loop.example/vectorstore/laws.FnCheckOfChange", spec := "fnCheckOfChange", apart := false, narrowed := true }
def FnCheckOfChangeUptoSaid : Prop := fnCheckOfChangeUptoRow.holds Try.pinned (OpenSpec.upto fnCheckOfChangeSpec)

/-- 'laws.FnMergeHitsThree', WHERE WHAT IT READS IS OF BULK AT MOST 1048576: true; the input reads as it did. -/
def fnMergeHitsThreeUptoRow : OpenClaim := { program := "ytnkflplbeagljab", sum := "d009d0327fb04f1bb74866b738c7e96679cef3dd738d7016927ade7656c982b8", func := "loop.example/vectorstore/laws.FnMergeHitsThree", spec := "fnMergeHitsThree", unfollowed := true, recurses := true, apart := false, narrowed := true }
def FnMergeHitsThreeUptoSaid : Prop := fnMergeHitsThreeUptoRow.holds Try.pinned (OpenSpec.upto fnMergeHitsThreeSpec)

/-- 'laws.FnRankScoreFirst', WHERE WHAT IT READS IS OF BULK AT MOST 1048576: true; the input reads as it did. -/
def fnRankScoreFirstUptoRow : OpenClaim := { program := "ytnkflplbeagljab", sum := "d009d0327fb04f1bb74866b738c7e96679cef3dd738d7016927ade7656c982b8", func := "loop.example/vectorstore/laws.FnRankScoreFirst", spec := "fnRankScoreFirst", unfollowed := true, recurses := true, apart := false, narrowed := true }
def FnRankScoreFirstUptoSaid : Prop := fnRankScoreFirstUptoRow.holds Try.pinned (OpenSpec.upto fnRankScoreFirstSpec)

/-- 'laws.FnRecallOfNearest', WHERE WHAT IT READS IS OF BULK AT MOST 1048576: true; the input reads as it did. -/
def fnRecallOfNearestUptoRow : OpenClaim := { program := "ytnkflplbeagljab", sum := "d009d0327fb04f1bb74866b738c7e96679cef3dd738d7016927ade7656c982b8", func := "loop.example/vectorstore/laws.FnRecallOfNearest", spec := "fnRecallOfNearest", unfollowed := true, recurses := true, apart := false, narrowed := true }
def FnRecallOfNearestUptoSaid : Prop := fnRecallOfNearestUptoRow.holds Try.pinned (OpenSpec.upto fnRecallOfNearestSpec)

end Rows
end Go.Proofs.Ytnkflplbeagljab
