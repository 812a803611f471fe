/-
  No cell of these rows narrows 'for every input' (looked for: loops, veiled, ifaces, maps, wideKeys, modest, calm, conditions, laid).
  DERIVED. THE GIVEN ROWS OF THIS SEAT. 3 by the template 'for every input the law returns true; each argument reads behind the call as it read before'; 0 by the template 'total and deterministic' (their statements: YtbbddfckcpfoaabTotals.lean).
  GIVEN WITH THE SEED: the statements are not yours to turn. If you find one false, say at which input.
  Laid BY PROGRAM, IN A SANDBOX (cutbox-rows.mjs): the forced cells as the released guide's own fill.sh prints them over the translation 7884f519d8c46e80… (all of the seat's roots in one cut). By AI agents, Wed Nov 11 2026. No macro, syntax, notation, axiom, sorry.
-/
import Derived.Test.YtbbddfckcpfoaabChecked
import GoSem.Claim
import GoSem.ClaimJoined
import GoSem.ClaimMapViews
import Derived.JoinedTies
import Derived.KernelRfl
namespace Go.Proofs.Ytbbddfckcpfoaab
/- THE CELL 'sum', in the pinned program and in every row, IS THE sha256 OF THE DUMP (.gsa) THAT YtbbddfckcpfoaabProg.lean LOADS. Nothing in Lean hashes anything: it is a label: what it is worth is what the hold of that sum in a sandbox is worth. -/
noncomputable def Try.pinned : Pinned := { name := "ytbbddfckcpfoaab", sum := "7884f519d8c46e802c98478b4b7f56eace688f174f3637630f7ebad22b94431f", checked := Try.checked }
namespace Rows
def none {H : Type} : Left H := { results := [], args := [] }

/-- 'laws.FnBucketOfOwn': WHATEVER THE INPUT: true; the input reads as it did. -/
def fnBucketOfOwnSpec : ChangeSpec := { name := "fnBucketOfOwn", fn := fun _ => fun
  | [d] => { results := [.lit (.bool true)], args := [d] }
  | _ => none }
def fnBucketOfOwnRow : OpenClaim := { program := "ytbbddfckcpfoaab", sum := "7884f519d8c46e802c98478b4b7f56eace688f174f3637630f7ebad22b94431f", func := "loop.example/vectorstore/laws.FnBucketOfOwn", spec := "fnBucketOfOwn", unfollowed := true, recurses := true, apart := false }
def FnBucketOfOwnSaid : Prop := fnBucketOfOwnRow.holds Try.pinned (OpenSpec.ofChange fnBucketOfOwnSpec)

/-- ITS FALSE NEIGHBOUR: 'it returns false'. Refute it at one input. -/
def fnBucketOfOwnWrong : ChangeSpec := { name := "fnBucketOfOwn", fn := fun _ => fun
  | [d] => { results := [.lit (.bool false)], args := [d] }
  | _ => none }
def FnBucketOfOwnWrongFalsely : Prop := fnBucketOfOwnRow.holds Try.pinned (OpenSpec.ofChange fnBucketOfOwnWrong)

/-- 'laws.FnExactFilterNearest': WHATEVER THE INPUT: true; the input reads as it did. -/
def fnExactFilterNearestSpec : ChangeSpec := { name := "fnExactFilterNearest", fn := fun _ => fun
  | [d1, d2, d3, d4, d5] => { results := [.lit (.bool true)], args := [d1, d2, d3, d4, d5] }
  | _ => none }
def fnExactFilterNearestRow : OpenClaim := { program := "ytbbddfckcpfoaab", sum := "7884f519d8c46e802c98478b4b7f56eace688f174f3637630f7ebad22b94431f", func := "loop.example/vectorstore/laws.FnExactFilterNearest", spec := "fnExactFilterNearest", unfollowed := true, recurses := true, apart := false }
def FnExactFilterNearestSaid : Prop := fnExactFilterNearestRow.holds Try.pinned (OpenSpec.ofChange fnExactFilterNearestSpec)

/-- ITS FALSE NEIGHBOUR: 'it returns false'. Refute it at one input. -/
def fnExactFilterNearestWrong : ChangeSpec := { name := "fnExactFilterNearest", fn := fun _ => fun
  | [d1, d2, d3, d4, d5] => { results := [.lit (.bool false)], args := [d1, d2, d3, d4, d5] }
  | _ => none }
def FnExactFilterNearestWrongFalsely : Prop := fnExactFilterNearestRow.holds Try.pinned (OpenSpec.ofChange fnExactFilterNearestWrong)

/-- 'laws.FnExactBucketOf': WHATEVER THE INPUT: true; the input reads as it did. -/
def fnExactBucketOfSpec : ChangeSpec := { name := "fnExactBucketOf", fn := fun _ => fun
  | [d1, d2, d3, d4] => { results := [.lit (.bool true)], args := [d1, d2, d3, d4] }
  | _ => none }
def fnExactBucketOfRow : OpenClaim := { program := "ytbbddfckcpfoaab", sum := "7884f519d8c46e802c98478b4b7f56eace688f174f3637630f7ebad22b94431f", func := "loop.example/vectorstore/laws.FnExactBucketOf", spec := "fnExactBucketOf", unfollowed := true, recurses := true, apart := false }
def FnExactBucketOfSaid : Prop := fnExactBucketOfRow.holds Try.pinned (OpenSpec.ofChange fnExactBucketOfSpec)

/-- ITS FALSE NEIGHBOUR: 'it returns false'. Refute it at one input. -/
def fnExactBucketOfWrong : ChangeSpec := { name := "fnExactBucketOf", fn := fun _ => fun
  | [d1, d2, d3, d4] => { results := [.lit (.bool false)], args := [d1, d2, d3, d4] }
  | _ => none }
def FnExactBucketOfWrongFalsely : Prop := fnExactBucketOfRow.holds Try.pinned (OpenSpec.ofChange fnExactBucketOfWrong)

/- THE SECOND FORM. 'bulk': how many values and letters a reading holds, each counted each time it is reached (what is shared counts as often as it is met; a slice's spare places count too). A statement '..UptoSaid' is the law's where the arguments, and the package variables that the reading takes, are together of bulk at most 1048576: NARROWER than '..Said'. Prove '..Said' where nothing that the law and all that it calls make is longer than what came in: it says more and counts as full. Else prove '..UptoSaid'. A law counts once. -/
mutual
def uptoBulk {H : Type} : DataW H → Nat
  | .lit (.string bytes) => bytes.length + 1
  | .lit _ => 1
  | .nil => 1
  | .ptr d => uptoBulk d + 1
  | .slice elems spare => uptoBulkAll elems + uptoBulkAll spare + 1
  | .agg parts => uptoBulkAll parts + 1
  | .iface _ d => uptoBulk d + 1
  | .map entries => uptoBulkEntries entries + 1
  | .held _ => 1
def uptoBulkAll {H : Type} : List (DataW H) → Nat
  | [] => 0
  | d :: r => uptoBulk d + uptoBulkAll r
def uptoBulkEntries {H : Type} : List (Lit × DataW H) → Nat
  | [] => 0
  | x :: r => uptoBulkEntry x + uptoBulkEntries r
def uptoBulkEntry {H : Type} : Lit × DataW H → Nat
  | (.string bytes, d) => bytes.length + uptoBulk d + 1
  | (_, d) => uptoBulk d + 1
 end
def uptoSmall : (H : Type) → List (DataW H) → Bool := fun _ ds => decide (uptoBulkAll ds ≤ 1048576)
def OpenSpec.upto (s : _root_.Go.ChangeSpec) : _root_.Go.OpenSpec := { _root_.Go.OpenSpec.ofChange s with cond := some uptoSmall }

/-- 'laws.FnBucketOfOwn', WHERE WHAT IT READS IS OF BULK AT MOST 1048576: true; the input reads as it did. -/
def fnBucketOfOwnUptoRow : OpenClaim := { program := "ytbbddfckcpfoaab", sum := "7884f519d8c46e802c98478b4b7f56eace688f174f3637630f7ebad22b94431f", func := "loop.example/vectorstore/laws.FnBucketOfOwn", spec := "fnBucketOfOwn", unfollowed := true, recurses := true, apart := false, narrowed := true }
def FnBucketOfOwnUptoSaid : Prop := fnBucketOfOwnUptoRow.holds Try.pinned (OpenSpec.upto fnBucketOfOwnSpec)

/-- 'laws.FnExactFilterNearest', WHERE WHAT IT READS IS OF BULK AT MOST 1048576: true; the input reads as it did. -/
def fnExactFilterNearestUptoRow : OpenClaim := { program := "ytbbddfckcpfoaab", sum := "7884f519d8c46e802c98478b4b7f56eace688f174f3637630f7ebad22b94431f", func := "loop.example/vectorstore/laws.FnExactFilterNearest", spec := "fnExactFilterNearest", unfollowed := true, recurses := true, apart := false, narrowed := true }
def FnExactFilterNearestUptoSaid : Prop := fnExactFilterNearestUptoRow.holds Try.pinned (OpenSpec.upto fnExactFilterNearestSpec)

/-- 'laws.FnExactBucketOf', WHERE WHAT IT READS IS OF BULK AT MOST 1048576: true; the input reads as it did. -/
def fnExactBucketOfUptoRow : OpenClaim := { program := "ytbbddfckcpfoaab", sum := "7884f519d8c46e802c98478b4b7f56eace688f174f3637630f7ebad22b94431f", func := "loop.example/vectorstore/laws.FnExactBucketOf", spec := "fnExactBucketOf", unfollowed := true, recurses := true, apart := false, narrowed := true }
def FnExactBucketOfUptoSaid : Prop := fnExactBucketOfUptoRow.holds Try.pinned (OpenSpec.upto fnExactBucketOfSpec)

end Rows
end Go.Proofs.Ytbbddfckcpfoaab
