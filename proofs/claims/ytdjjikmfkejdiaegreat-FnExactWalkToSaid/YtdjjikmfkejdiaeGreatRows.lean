/-
  No cell of these rows narrows 'for every input' (looked for: loops, veiled, ifaces, maps, wideKeys, modest, calm, conditions, laid).
  DERIVED. THE GIVEN ROWS OF THIS SEAT. 4 by the template 'for every input the law returns true; each argument reads behind the call as it read before'; 0 by the template 'total and deterministic' (their statements: YtdjjikmfkejdiaeGreatTotals.lean).
  GIVEN WITH THE SEED: the statements are not yours to turn. If you find one false, say at which input.
  Laid BY PROGRAM, IN A SANDBOX (cutbox-rows.mjs): the forced cells as the released guide's own fill.sh prints them over the translation 259fa7d88b006ad4… (all of the seat's roots in one cut). By AI agents, Wed Nov 11 2026. No macro, syntax, notation, axiom, sorry.
-/
import Derived.Test.YtdjjikmfkejdiaeGreatChecked
import GoSem.Claim
import GoSem.ClaimJoined
import GoSem.ClaimMapViews
import Derived.JoinedTies
import Derived.KernelRfl
namespace Go.Proofs.YtdjjikmfkejdiaeGreat
/- THE CELL 'sum', in the pinned program and in every row, IS THE sha256 OF THE DUMP (.gsa) THAT YtdjjikmfkejdiaeGreatProg.lean LOADS. Nothing in Lean hashes anything: it is a label: what it is worth is what the hold of that sum in a sandbox is worth. -/
noncomputable def Tryz.pinned : Pinned := { name := "ytdjjikmfkejdiaegreat", sum := "259fa7d88b006ad4182f2d98665c3dc978df1d2d79d81258c750a4779e99bda1", checked := Tryz.checked }
namespace Rows
def none {H : Type} : Left H := { results := [], args := [] }

/-- 'laws.FnExactCodeNearest': WHATEVER THE INPUT: true; the input reads as it did. -/
def fnExactCodeNearestSpec : ChangeSpec := { name := "fnExactCodeNearest", fn := fun _ => fun
  | [d1, d2, d3, d4] => { results := [.lit (.bool true)], args := [d1, d2, d3, d4] }
  | _ => none }
def fnExactCodeNearestRow : OpenClaim := { program := "ytdjjikmfkejdiaegreat", sum := "259fa7d88b006ad4182f2d98665c3dc978df1d2d79d81258c750a4779e99bda1", func := "loop.example/vectorstore/laws.FnExactCodeNearest", spec := "fnExactCodeNearest", unfollowed := true, recurses := true, apart := false }
def FnExactCodeNearestSaid : Prop := fnExactCodeNearestRow.holds Tryz.pinned (OpenSpec.ofChange fnExactCodeNearestSpec)

/-- ITS FALSE NEIGHBOUR: 'it returns false'. Refute it at one input. -/
def fnExactCodeNearestWrong : ChangeSpec := { name := "fnExactCodeNearest", fn := fun _ => fun
  | [d1, d2, d3, d4] => { results := [.lit (.bool false)], args := [d1, d2, d3, d4] }
  | _ => none }
def FnExactCodeNearestWrongFalsely : Prop := fnExactCodeNearestRow.holds Tryz.pinned (OpenSpec.ofChange fnExactCodeNearestWrong)

/-- 'laws.FnExactRerankNearest': WHATEVER THE INPUT: true; the input reads as it did. -/
def fnExactRerankNearestSpec : ChangeSpec := { name := "fnExactRerankNearest", fn := fun _ => fun
  | [d1, d2, d3, d4, d5] => { results := [.lit (.bool true)], args := [d1, d2, d3, d4, d5] }
  | _ => none }
def fnExactRerankNearestRow : OpenClaim := { program := "ytdjjikmfkejdiaegreat", sum := "259fa7d88b006ad4182f2d98665c3dc978df1d2d79d81258c750a4779e99bda1", func := "loop.example/vectorstore/laws.FnExactRerankNearest", spec := "fnExactRerankNearest", unfollowed := true, recurses := true, apart := false }
def FnExactRerankNearestSaid : Prop := fnExactRerankNearestRow.holds Tryz.pinned (OpenSpec.ofChange fnExactRerankNearestSpec)

/-- ITS FALSE NEIGHBOUR: 'it returns false'. Refute it at one input. -/
def fnExactRerankNearestWrong : ChangeSpec := { name := "fnExactRerankNearest", fn := fun _ => fun
  | [d1, d2, d3, d4, d5] => { results := [.lit (.bool false)], args := [d1, d2, d3, d4, d5] }
  | _ => none }
def FnExactRerankNearestWrongFalsely : Prop := fnExactRerankNearestRow.holds Tryz.pinned (OpenSpec.ofChange fnExactRerankNearestWrong)

/-- 'laws.FnExactHashNearest': WHATEVER THE INPUT: true; the input reads as it did. -/
def fnExactHashNearestSpec : ChangeSpec := { name := "fnExactHashNearest", fn := fun _ => fun
  | [d1, d2, d3, d4, d5] => { results := [.lit (.bool true)], args := [d1, d2, d3, d4, d5] }
  | _ => none }
def fnExactHashNearestRow : OpenClaim := { program := "ytdjjikmfkejdiaegreat", sum := "259fa7d88b006ad4182f2d98665c3dc978df1d2d79d81258c750a4779e99bda1", func := "loop.example/vectorstore/laws.FnExactHashNearest", spec := "fnExactHashNearest", unfollowed := true, recurses := true, apart := false }
def FnExactHashNearestSaid : Prop := fnExactHashNearestRow.holds Tryz.pinned (OpenSpec.ofChange fnExactHashNearestSpec)

/-- ITS FALSE NEIGHBOUR: 'it returns false'. Refute it at one input. -/
def fnExactHashNearestWrong : ChangeSpec := { name := "fnExactHashNearest", fn := fun _ => fun
  | [d1, d2, d3, d4, d5] => { results := [.lit (.bool false)], args := [d1, d2, d3, d4, d5] }
  | _ => none }
def FnExactHashNearestWrongFalsely : Prop := fnExactHashNearestRow.holds Tryz.pinned (OpenSpec.ofChange fnExactHashNearestWrong)

/-- 'laws.FnExactWalkTo': WHATEVER THE INPUT: true; the input reads as it did. -/
def fnExactWalkToSpec : ChangeSpec := { name := "fnExactWalkTo", fn := fun _ => fun
  | [d1, d2, d3, d4, d5] => { results := [.lit (.bool true)], args := [d1, d2, d3, d4, d5] }
  | _ => none }
def fnExactWalkToRow : OpenClaim := { program := "ytdjjikmfkejdiaegreat", sum := "259fa7d88b006ad4182f2d98665c3dc978df1d2d79d81258c750a4779e99bda1", func := "loop.example/vectorstore/laws.FnExactWalkTo", spec := "fnExactWalkTo", unfollowed := true, recurses := true, apart := false }
def FnExactWalkToSaid : Prop := fnExactWalkToRow.holds Tryz.pinned (OpenSpec.ofChange fnExactWalkToSpec)

/-- ITS FALSE NEIGHBOUR: 'it returns false'. Refute it at one input. -/
def fnExactWalkToWrong : ChangeSpec := { name := "fnExactWalkTo", fn := fun _ => fun
  | [d1, d2, d3, d4, d5] => { results := [.lit (.bool false)], args := [d1, d2, d3, d4, d5] }
  | _ => none }
def FnExactWalkToWrongFalsely : Prop := fnExactWalkToRow.holds Tryz.pinned (OpenSpec.ofChange fnExactWalkToWrong)

/- THE SECOND FORM. 'bulk': how many values and letters a reading holds, each counted each time it is reached (what is shared counts as often as it is met; a slice's spare places count too). A statement '..UptoSaid' is the law's where the arguments, and the package variables that the reading takes, are together of bulk at most 1048576: NARROWER than '..Said'. Prove '..Said' where nothing that the law and all that it calls make is longer than what came in: it says more and counts as full. Else prove '..UptoSaid'. A law counts once. -/
mutual
def uptoBulk {H : Type} : DataW H → Nat
  | .lit (.string bytes) => bytes.length + 1
  | .lit _ => 1
  | .nil => 1
  | .ptr d => uptoBulk d + 1
  | .slice elems spare => uptoBulkAll elems + uptoBulkAll spare + 1
  | .agg parts => uptoBulkAll parts + 1
  | .iface _ d => uptoBulk d + 1
  | .map entries => uptoBulkEntries entries + 1
  | .held _ => 1
def uptoBulkAll {H : Type} : List (DataW H) → Nat
  | [] => 0
  | d :: r => uptoBulk d + uptoBulkAll r
def uptoBulkEntries {H : Type} : List (Lit × DataW H) → Nat
  | [] => 0
  | x :: r => uptoBulkEntry x + uptoBulkEntries r
def uptoBulkEntry {H : Type} : Lit × DataW H → Nat
  | (.string bytes, d) => bytes.length + uptoBulk d + 1
  | (_, d) => uptoBulk d + 1
 end
def uptoSmall : (H : Type) → List (DataW H) → Bool := fun _ ds => decide (uptoBulkAll ds ≤ 1048576)
def OpenSpec.upto (s : _root_.Go.ChangeSpec) : _root_.Go.OpenSpec := { _root_.Go.OpenSpec.ofChange s with cond := some uptoSmall }

/-- 'laws.FnExactCodeNearest', WHERE WHAT IT READS IS OF BULK AT MOST 1048576: true; the input reads as it did. -/
def fnExactCodeNearestUptoRow : OpenClaim := { program := "ytdjjikmfkejdiaegreat", sum := "259fa7d88b006ad4182f2d98665c3dc978df1d2d79d81258c750a4779e99bda1", func := "loop.example/vectorstore/laws.FnExactCodeNearest", spec := "fnExactCodeNearest", unfollowed := true, recurses := true, apart := false, narrowed := true }
def FnExactCodeNearestUptoSaid : Prop := fnExactCodeNearestUptoRow.holds Tryz.pinned (OpenSpec.upto fnExactCodeNearestSpec)

/-- 'laws.FnExactRerankNearest', WHERE WHAT IT READS IS OF BULK AT MOST 1048576: true; the input reads as it did. -/
def fnExactRerankNearestUptoRow : OpenClaim := { program := "ytdjjikmfkejdiaegreat", sum := "259fa7d88b006ad4182f2d98665c3dc978df1d2d79d81258c750a4779e99bda1", func := "loop.example/vectorstore/laws.FnExactRerankNearest", spec := "fnExactRerankNearest", unfollowed := true, recurses := true, apart := false, narrowed := true }
def FnExactRerankNearestUptoSaid : Prop := fnExactRerankNearestUptoRow.holds Tryz.pinned (OpenSpec.upto fnExactRerankNearestSpec)

/-- 'laws.FnExactHashNearest', WHERE WHAT IT READS IS OF BULK AT MOST 1048576: true; the input reads as it did. -/
def fnExactHashNearestUptoRow : OpenClaim := { program := "ytdjjikmfkejdiaegreat", sum := "259fa7d88b006ad4182f2d98665c3dc978df1d2d79d81258c750a4779e99bda1", func := "loop.example/vectorstore/laws.FnExactHashNearest", spec := "fnExactHashNearest", unfollowed := true, recurses := true, apart := false, narrowed := true }
def FnExactHashNearestUptoSaid : Prop := fnExactHashNearestUptoRow.holds Tryz.pinned (OpenSpec.upto fnExactHashNearestSpec)

/-- 'laws.FnExactWalkTo', WHERE WHAT IT READS IS OF BULK AT MOST 1048576: true; the input reads as it did. -/
def fnExactWalkToUptoRow : OpenClaim := { program := "ytdjjikmfkejdiaegreat", sum := "259fa7d88b006ad4182f2d98665c3dc978df1d2d79d81258c750a4779e99bda1", func := "loop.example/vectorstore/laws.FnExactWalkTo", spec := "fnExactWalkTo", unfollowed := true, recurses := true, apart := false, narrowed := true }
def FnExactWalkToUptoSaid : Prop := fnExactWalkToUptoRow.holds Tryz.pinned (OpenSpec.upto fnExactWalkToSpec)

end Rows
end Go.Proofs.YtdjjikmfkejdiaeGreat
