/-
  No cell of these rows narrows 'for every input' (looked for: loops, veiled, ifaces, maps, wideKeys, modest, calm, conditions, laid).
  DERIVED. THE GIVEN ROWS OF THIS SEAT. 7 by the template 'for every input the law returns true; each argument reads behind the call as it read before'; 0 by the template 'total and deterministic' (their statements: YtdjjikmfkejdiaeTotals.lean).
  GIVEN WITH THE SEED: the statements are not yours to turn. If you find one false, say at which input.
  Laid BY PROGRAM, IN A SANDBOX (cutbox-rows.mjs): the forced cells as the released guide's own fill.sh prints them over the translation 2a4c3e9c0b406e34… (all of the seat's roots in one cut). By AI agents, Wed Nov 11 2026. No macro, syntax, notation, axiom, sorry.
-/
import Derived.Test.YtdjjikmfkejdiaeChecked
import GoSem.Claim
import GoSem.ClaimJoined
import GoSem.ClaimMapViews
import Derived.JoinedTies
import Derived.KernelRfl
namespace Go.Proofs.Ytdjjikmfkejdiae
/- THE CELL 'sum', in the pinned program and in every row, IS THE sha256 OF THE DUMP (.gsa) THAT YtdjjikmfkejdiaeProg.lean LOADS. Nothing in Lean hashes anything: it is a label: what it is worth is what the hold of that sum in a sandbox is worth. -/
noncomputable def Try.pinned : Pinned := { name := "ytdjjikmfkejdiae", sum := "2a4c3e9c0b406e34a86f4ebd391df5e1b0d2df1f06f2ef74c488f99344719d30", checked := Try.checked }
namespace Rows
def none {H : Type} : Left H := { results := [], args := [] }

/-- 'laws.FnExactWithinDist': WHATEVER THE INPUT: true; the input reads as it did. -/
def fnExactWithinDistSpec : ChangeSpec := { name := "fnExactWithinDist", fn := fun _ => fun
  | [d1, d2, d3, d4] => { results := [.lit (.bool true)], args := [d1, d2, d3, d4] }
  | _ => none }
def fnExactWithinDistRow : OpenClaim := { program := "ytdjjikmfkejdiae", sum := "2a4c3e9c0b406e34a86f4ebd391df5e1b0d2df1f06f2ef74c488f99344719d30", func := "loop.example/vectorstore/laws.FnExactWithinDist", spec := "fnExactWithinDist", unfollowed := true, recurses := true, apart := false }
def FnExactWithinDistSaid : Prop := fnExactWithinDistRow.holds Try.pinned (OpenSpec.ofChange fnExactWithinDistSpec)

/-- ITS FALSE NEIGHBOUR: 'it returns false'. Refute it at one input. -/
def fnExactWithinDistWrong : ChangeSpec := { name := "fnExactWithinDist", fn := fun _ => fun
  | [d1, d2, d3, d4] => { results := [.lit (.bool false)], args := [d1, d2, d3, d4] }
  | _ => none }
def FnExactWithinDistWrongFalsely : Prop := fnExactWithinDistRow.holds Try.pinned (OpenSpec.ofChange fnExactWithinDistWrong)

/-- 'laws.FnExactBuildTree': WHATEVER THE INPUT: true; the input reads as it did. -/
def fnExactBuildTreeSpec : ChangeSpec := { name := "fnExactBuildTree", fn := fun _ => fun
  | [d1, d2] => { results := [.lit (.bool true)], args := [d1, d2] }
  | _ => none }
def fnExactBuildTreeRow : OpenClaim := { program := "ytdjjikmfkejdiae", sum := "2a4c3e9c0b406e34a86f4ebd391df5e1b0d2df1f06f2ef74c488f99344719d30", func := "loop.example/vectorstore/laws.FnExactBuildTree", spec := "fnExactBuildTree", unfollowed := true, recurses := true, apart := false }
def FnExactBuildTreeSaid : Prop := fnExactBuildTreeRow.holds Try.pinned (OpenSpec.ofChange fnExactBuildTreeSpec)

/-- ITS FALSE NEIGHBOUR: 'it returns false'. Refute it at one input. -/
def fnExactBuildTreeWrong : ChangeSpec := { name := "fnExactBuildTree", fn := fun _ => fun
  | [d1, d2] => { results := [.lit (.bool false)], args := [d1, d2] }
  | _ => none }
def FnExactBuildTreeWrongFalsely : Prop := fnExactBuildTreeRow.holds Try.pinned (OpenSpec.ofChange fnExactBuildTreeWrong)

/-- 'laws.FnExactIsTreeOf': WHATEVER THE INPUT: true; the input reads as it did. -/
def fnExactIsTreeOfSpec : ChangeSpec := { name := "fnExactIsTreeOf", fn := fun _ => fun
  | [d1, d2, d3] => { results := [.lit (.bool true)], args := [d1, d2, d3] }
  | _ => none }
def fnExactIsTreeOfRow : OpenClaim := { program := "ytdjjikmfkejdiae", sum := "2a4c3e9c0b406e34a86f4ebd391df5e1b0d2df1f06f2ef74c488f99344719d30", func := "loop.example/vectorstore/laws.FnExactIsTreeOf", spec := "fnExactIsTreeOf", unfollowed := true, recurses := true, apart := false }
def FnExactIsTreeOfSaid : Prop := fnExactIsTreeOfRow.holds Try.pinned (OpenSpec.ofChange fnExactIsTreeOfSpec)

/-- ITS FALSE NEIGHBOUR: 'it returns false'. Refute it at one input. -/
def fnExactIsTreeOfWrong : ChangeSpec := { name := "fnExactIsTreeOf", fn := fun _ => fun
  | [d1, d2, d3] => { results := [.lit (.bool false)], args := [d1, d2, d3] }
  | _ => none }
def FnExactIsTreeOfWrongFalsely : Prop := fnExactIsTreeOfRow.holds Try.pinned (OpenSpec.ofChange fnExactIsTreeOfWrong)

/-- 'laws.FnExactTreeVisits': WHATEVER THE INPUT: true; the input reads as it did. -/
def fnExactTreeVisitsSpec : ChangeSpec := { name := "fnExactTreeVisits", fn := fun _ => fun
  | [d1, d2, d3, d4] => { results := [.lit (.bool true)], args := [d1, d2, d3, d4] }
  | _ => none }
def fnExactTreeVisitsRow : OpenClaim := { program := "ytdjjikmfkejdiae", sum := "2a4c3e9c0b406e34a86f4ebd391df5e1b0d2df1f06f2ef74c488f99344719d30", func := "loop.example/vectorstore/laws.FnExactTreeVisits", spec := "fnExactTreeVisits", unfollowed := true, recurses := true, apart := false }
def FnExactTreeVisitsSaid : Prop := fnExactTreeVisitsRow.holds Try.pinned (OpenSpec.ofChange fnExactTreeVisitsSpec)

/-- ITS FALSE NEIGHBOUR: 'it returns false'. Refute it at one input. -/
def fnExactTreeVisitsWrong : ChangeSpec := { name := "fnExactTreeVisits", fn := fun _ => fun
  | [d1, d2, d3, d4] => { results := [.lit (.bool false)], args := [d1, d2, d3, d4] }
  | _ => none }
def FnExactTreeVisitsWrongFalsely : Prop := fnExactTreeVisitsRow.holds Try.pinned (OpenSpec.ofChange fnExactTreeVisitsWrong)

/-- 'laws.FnExactValidCentres': WHATEVER THE INPUT: true; the input reads as it did. -/
def fnExactValidCentresSpec : ChangeSpec := { name := "fnExactValidCentres", fn := fun _ => fun
  | [d] => { results := [.lit (.bool true)], args := [d] }
  | _ => none }
def fnExactValidCentresRow : OpenClaim := { program := "ytdjjikmfkejdiae", sum := "2a4c3e9c0b406e34a86f4ebd391df5e1b0d2df1f06f2ef74c488f99344719d30", func := "loop.example/vectorstore/laws.FnExactValidCentres", spec := "fnExactValidCentres", apart := false }
def FnExactValidCentresSaid : Prop := fnExactValidCentresRow.holds Try.pinned (OpenSpec.ofChange fnExactValidCentresSpec)

/-- ITS FALSE NEIGHBOUR: 'it returns false'. Refute it at one input. -/
def fnExactValidCentresWrong : ChangeSpec := { name := "fnExactValidCentres", fn := fun _ => fun
  | [d] => { results := [.lit (.bool false)], args := [d] }
  | _ => none }
def FnExactValidCentresWrongFalsely : Prop := fnExactValidCentresRow.holds Try.pinned (OpenSpec.ofChange fnExactValidCentresWrong)

/-- 'laws.FnExactCentreOf': WHATEVER THE INPUT: true; the input reads as it did. -/
def fnExactCentreOfSpec : ChangeSpec := { name := "fnExactCentreOf", fn := fun _ => fun
  | [d1, d2] => { results := [.lit (.bool true)], args := [d1, d2] }
  | _ => none }
def fnExactCentreOfRow : OpenClaim := { program := "ytdjjikmfkejdiae", sum := "2a4c3e9c0b406e34a86f4ebd391df5e1b0d2df1f06f2ef74c488f99344719d30", func := "loop.example/vectorstore/laws.FnExactCentreOf", spec := "fnExactCentreOf", apart := false }
def FnExactCentreOfSaid : Prop := fnExactCentreOfRow.holds Try.pinned (OpenSpec.ofChange fnExactCentreOfSpec)

/-- ITS FALSE NEIGHBOUR: 'it returns false'. Refute it at one input. -/
def fnExactCentreOfWrong : ChangeSpec := { name := "fnExactCentreOf", fn := fun _ => fun
  | [d1, d2] => { results := [.lit (.bool false)], args := [d1, d2] }
  | _ => none }
def FnExactCentreOfWrongFalsely : Prop := fnExactCentreOfRow.holds Try.pinned (OpenSpec.ofChange fnExactCentreOfWrong)

/-- 'laws.FnExactProbeOrder': WHATEVER THE INPUT: true; the input reads as it did. -/
def fnExactProbeOrderSpec : ChangeSpec := { name := "fnExactProbeOrder", fn := fun _ => fun
  | [d1, d2, d3] => { results := [.lit (.bool true)], args := [d1, d2, d3] }
  | _ => none }
def fnExactProbeOrderRow : OpenClaim := { program := "ytdjjikmfkejdiae", sum := "2a4c3e9c0b406e34a86f4ebd391df5e1b0d2df1f06f2ef74c488f99344719d30", func := "loop.example/vectorstore/laws.FnExactProbeOrder", spec := "fnExactProbeOrder", unfollowed := true, recurses := true, apart := false }
def FnExactProbeOrderSaid : Prop := fnExactProbeOrderRow.holds Try.pinned (OpenSpec.ofChange fnExactProbeOrderSpec)

/-- ITS FALSE NEIGHBOUR: 'it returns false'. Refute it at one input. -/
def fnExactProbeOrderWrong : ChangeSpec := { name := "fnExactProbeOrder", fn := fun _ => fun
  | [d1, d2, d3] => { results := [.lit (.bool false)], args := [d1, d2, d3] }
  | _ => none }
def FnExactProbeOrderWrongFalsely : Prop := fnExactProbeOrderRow.holds Try.pinned (OpenSpec.ofChange fnExactProbeOrderWrong)

/- THE SECOND FORM. 'bulk': how many values and letters a reading holds, each counted each time it is reached (what is shared counts as often as it is met; a slice's spare places count too). A statement '..UptoSaid' is the law's where the arguments, and the package variables that the reading takes, are together of bulk at most 1048576: NARROWER than '..Said'. Prove '..Said' where nothing that the law and all that it calls make is longer than what came in: it says more and counts as full. Else prove '..UptoSaid'. A law counts once. -/
mutual
def uptoBulk {H : Type} : DataW H → Nat
  | .lit (.string bytes) => bytes.length + 1
  | .lit _ => 1
  | .nil => 1
  | .ptr d => uptoBulk d + 1
  | .slice elems spare => uptoBulkAll elems + uptoBulkAll spare + 1
  | .agg parts => uptoBulkAll parts + 1
  | .iface _ d => uptoBulk d + 1
  | .map entries => uptoBulkEntries entries + 1
  | .held _ => 1
def uptoBulkAll {H : Type} : List (DataW H) → Nat
  | [] => 0
  | d :: r => uptoBulk d + uptoBulkAll r
def uptoBulkEntries {H : Type} : List (Lit × DataW H) → Nat
  | [] => 0
  | x :: r => uptoBulkEntry x + uptoBulkEntries r
def uptoBulkEntry {H : Type} : Lit × DataW H → Nat
  | (.string bytes, d) => bytes.length + uptoBulk d + 1
  | (_, d) => uptoBulk d + 1
 end
def uptoSmall : (H : Type) → List (DataW H) → Bool := fun _ ds => decide (uptoBulkAll ds ≤ 1048576)
def OpenSpec.upto (s : _root_.Go.ChangeSpec) : _root_.Go.OpenSpec := { _root_.Go.OpenSpec.ofChange s with cond := some uptoSmall }

/-- 'laws.FnExactWithinDist', WHERE WHAT IT READS IS OF BULK AT MOST 1048576: true; the input reads as it did. -/
def fnExactWithinDistUptoRow : OpenClaim := { program := "ytdjjikmfkejdiae", sum := "2a4c3e9c0b406e34a86f4ebd391df5e1b0d2df1f06f2ef74c488f99344719d30", func := "loop.example/vectorstore/laws.FnExactWithinDist", spec := "fnExactWithinDist", unfollowed := true, recurses := true, apart := false, narrowed := true }
def FnExactWithinDistUptoSaid : Prop := fnExactWithinDistUptoRow.holds Try.pinned (OpenSpec.upto fnExactWithinDistSpec)

/-- 'laws.FnExactBuildTree', WHERE WHAT IT READS IS OF BULK AT MOST 1048576: true; the input reads as it did. -/
def fnExactBuildTreeUptoRow : OpenClaim := { program := "ytdjjikmfkejdiae", sum := "2a4c3e9c0b406e34a86f4ebd391df5e1b0d2df1f06f2ef74c488f99344719d30", func := "loop.example/vectorstore/laws.FnExactBuildTree", spec := "fnExactBuildTree", unfollowed := true, recurses := true, apart := false, narrowed := true }
def FnExactBuildTreeUptoSaid : Prop := fnExactBuildTreeUptoRow.holds Try.pinned (OpenSpec.upto fnExactBuildTreeSpec)

/-- 'laws.FnExactIsTreeOf', WHERE WHAT IT READS IS OF BULK AT MOST 1048576: true; the input reads as it did. -/
def fnExactIsTreeOfUptoRow : OpenClaim := { program := "ytdjjikmfkejdiae", sum := "2a4c3e9c0b406e34a86f4ebd391df5e1b0d2df1f06f2ef74c488f99344719d30", func := "loop.example/vectorstore/laws.FnExactIsTreeOf", spec := "fnExactIsTreeOf", unfollowed := true, recurses := true, apart := false, narrowed := true }
def FnExactIsTreeOfUptoSaid : Prop := fnExactIsTreeOfUptoRow.holds Try.pinned (OpenSpec.upto fnExactIsTreeOfSpec)

/-- 'laws.FnExactTreeVisits', WHERE WHAT IT READS IS OF BULK AT MOST 1048576: true; the input reads as it did. -/
def fnExactTreeVisitsUptoRow : OpenClaim := { program := "ytdjjikmfkejdiae", sum := "2a4c3e9c0b406e34a86f4ebd391df5e1b0d2df1f06f2ef74c488f99344719d30", func := "loop.example/vectorstore/laws.FnExactTreeVisits", spec := "fnExactTreeVisits", unfollowed := true, recurses := true, apart := false, narrowed := true }
def FnExactTreeVisitsUptoSaid : Prop := fnExactTreeVisitsUptoRow.holds Try.pinned (OpenSpec.upto fnExactTreeVisitsSpec)

/-- 'laws.FnExactValidCentres', WHERE WHAT IT READS IS OF BULK AT MOST 1048576: true; the input reads as it did. -/
def fnExactValidCentresUptoRow : OpenClaim := { program := "ytdjjikmfkejdiae", sum := "2a4c3e9c0b406e34a86f4ebd391df5e1b0d2df1f06f2ef74c488f99344719d30", func := "loop.example/vectorstore/laws.FnExactValidCentres", spec := "fnExactValidCentres", apart := false, narrowed := true }
def FnExactValidCentresUptoSaid : Prop := fnExactValidCentresUptoRow.holds Try.pinned (OpenSpec.upto fnExactValidCentresSpec)

/-- 'laws.FnExactCentreOf', WHERE WHAT IT READS IS OF BULK AT MOST 1048576: true; the input reads as it did. -/
def fnExactCentreOfUptoRow : OpenClaim := { program := "ytdjjikmfkejdiae", sum := "2a4c3e9c0b406e34a86f4ebd391df5e1b0d2df1f06f2ef74c488f99344719d30", func := "loop.example/vectorstore/laws.FnExactCentreOf", spec := "fnExactCentreOf", apart := false, narrowed := true }
def FnExactCentreOfUptoSaid : Prop := fnExactCentreOfUptoRow.holds Try.pinned (OpenSpec.upto fnExactCentreOfSpec)

/-- 'laws.FnExactProbeOrder', WHERE WHAT IT READS IS OF BULK AT MOST 1048576: true; the input reads as it did. -/
def fnExactProbeOrderUptoRow : OpenClaim := { program := "ytdjjikmfkejdiae", sum := "2a4c3e9c0b406e34a86f4ebd391df5e1b0d2df1f06f2ef74c488f99344719d30", func := "loop.example/vectorstore/laws.FnExactProbeOrder", spec := "fnExactProbeOrder", unfollowed := true, recurses := true, apart := false, narrowed := true }
def FnExactProbeOrderUptoSaid : Prop := fnExactProbeOrderUptoRow.holds Try.pinned (OpenSpec.upto fnExactProbeOrderSpec)

end Rows
end Go.Proofs.Ytdjjikmfkejdiae
