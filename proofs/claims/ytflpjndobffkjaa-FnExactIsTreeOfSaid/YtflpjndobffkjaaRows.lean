/-
  No cell of these rows narrows 'for every input' (looked for: loops, veiled, ifaces, maps, wideKeys, modest, calm, conditions, laid).
  DERIVED. THE GIVEN ROWS OF THIS SEAT. 9 by the template 'for every input the law returns true; each argument reads behind the call as it read before'; 0 by the template 'total and deterministic' (their statements: YtflpjndobffkjaaTotals.lean).
  GIVEN WITH THE SEED: the statements are not yours to turn. If you find one false, say at which input.
  Laid BY PROGRAM, IN A SANDBOX (cutbox-rows.mjs): the forced cells as the released guide's own fill.sh prints them over the translation 095c5581656dbfda… (all of the seat's roots in one cut). By AI agents, Wed Nov 11 2026. No macro, syntax, notation, axiom, sorry.
-/
import Derived.Test.YtflpjndobffkjaaChecked
import GoSem.Claim
import GoSem.ClaimJoined
import GoSem.ClaimMapViews
import Derived.JoinedTies
import Derived.KernelRfl
namespace Go.Proofs.Ytflpjndobffkjaa
/- THE CELL 'sum', in the pinned program and in every row, IS THE sha256 OF THE DUMP (.gsa) THAT YtflpjndobffkjaaProg.lean LOADS. Nothing in Lean hashes anything: it is a label: what it is worth is what the hold of that sum in a sandbox is worth. -/
noncomputable def Try.pinned : Pinned := { name := "ytflpjndobffkjaa", sum := "095c5581656dbfdafde590fc23d309bc83d097f559bebdff00220772f62448c3", checked := Try.checked }
namespace Rows
def none {H : Type} : Left H := { results := [], args := [] }

/-- 'laws.FnBuildTree': WHATEVER THE INPUT: true; the input reads as it did. -/
def fnBuildTreeSpec : ChangeSpec := { name := "fnBuildTree", fn := fun _ => fun
  | [d] => { results := [.lit (.bool true)], args := [d] }
  | _ => none }
def fnBuildTreeRow : OpenClaim := { program := "ytflpjndobffkjaa", sum := "095c5581656dbfdafde590fc23d309bc83d097f559bebdff00220772f62448c3", func := "loop.example/vectorstore/laws.FnBuildTree", spec := "fnBuildTree", unfollowed := true, recurses := true, apart := false }
def FnBuildTreeSaid : Prop := fnBuildTreeRow.holds Try.pinned (OpenSpec.ofChange fnBuildTreeSpec)

/-- ITS FALSE NEIGHBOUR: 'it returns false'. Refute it at one input. -/
def fnBuildTreeWrong : ChangeSpec := { name := "fnBuildTree", fn := fun _ => fun
  | [d] => { results := [.lit (.bool false)], args := [d] }
  | _ => none }
def FnBuildTreeWrongFalsely : Prop := fnBuildTreeRow.holds Try.pinned (OpenSpec.ofChange fnBuildTreeWrong)

/-- 'laws.FnBuildTreeRadius': WHATEVER THE INPUT: true; the input reads as it did. -/
def fnBuildTreeRadiusSpec : ChangeSpec := { name := "fnBuildTreeRadius", fn := fun _ => fun
  | [d] => { results := [.lit (.bool true)], args := [d] }
  | _ => none }
def fnBuildTreeRadiusRow : OpenClaim := { program := "ytflpjndobffkjaa", sum := "095c5581656dbfdafde590fc23d309bc83d097f559bebdff00220772f62448c3", func := "loop.example/vectorstore/laws.FnBuildTreeRadius", spec := "fnBuildTreeRadius", unfollowed := true, recurses := true, apart := false }
def FnBuildTreeRadiusSaid : Prop := fnBuildTreeRadiusRow.holds Try.pinned (OpenSpec.ofChange fnBuildTreeRadiusSpec)

/-- ITS FALSE NEIGHBOUR: 'it returns false'. Refute it at one input. -/
def fnBuildTreeRadiusWrong : ChangeSpec := { name := "fnBuildTreeRadius", fn := fun _ => fun
  | [d] => { results := [.lit (.bool false)], args := [d] }
  | _ => none }
def FnBuildTreeRadiusWrongFalsely : Prop := fnBuildTreeRadiusRow.holds Try.pinned (OpenSpec.ofChange fnBuildTreeRadiusWrong)

/-- 'laws.FnIsTreeOf': WHATEVER THE INPUT: true; the input reads as it did. -/
def fnIsTreeOfSpec : ChangeSpec := { name := "fnIsTreeOf", fn := fun _ => fun
  | [d] => { results := [.lit (.bool true)], args := [d] }
  | _ => none }
def fnIsTreeOfRow : OpenClaim := { program := "ytflpjndobffkjaa", sum := "095c5581656dbfdafde590fc23d309bc83d097f559bebdff00220772f62448c3", func := "loop.example/vectorstore/laws.FnIsTreeOf", spec := "fnIsTreeOf", unfollowed := true, recurses := true, apart := false }
def FnIsTreeOfSaid : Prop := fnIsTreeOfRow.holds Try.pinned (OpenSpec.ofChange fnIsTreeOfSpec)

/-- ITS FALSE NEIGHBOUR: 'it returns false'. Refute it at one input. -/
def fnIsTreeOfWrong : ChangeSpec := { name := "fnIsTreeOf", fn := fun _ => fun
  | [d] => { results := [.lit (.bool false)], args := [d] }
  | _ => none }
def FnIsTreeOfWrongFalsely : Prop := fnIsTreeOfRow.holds Try.pinned (OpenSpec.ofChange fnIsTreeOfWrong)

/-- 'laws.FnTreeVisitsAll': WHATEVER THE INPUT: true; the input reads as it did. -/
def fnTreeVisitsAllSpec : ChangeSpec := { name := "fnTreeVisitsAll", fn := fun _ => fun
  | [d] => { results := [.lit (.bool true)], args := [d] }
  | _ => none }
def fnTreeVisitsAllRow : OpenClaim := { program := "ytflpjndobffkjaa", sum := "095c5581656dbfdafde590fc23d309bc83d097f559bebdff00220772f62448c3", func := "loop.example/vectorstore/laws.FnTreeVisitsAll", spec := "fnTreeVisitsAll", unfollowed := true, recurses := true, apart := false }
def FnTreeVisitsAllSaid : Prop := fnTreeVisitsAllRow.holds Try.pinned (OpenSpec.ofChange fnTreeVisitsAllSpec)

/-- ITS FALSE NEIGHBOUR: 'it returns false'. Refute it at one input. -/
def fnTreeVisitsAllWrong : ChangeSpec := { name := "fnTreeVisitsAll", fn := fun _ => fun
  | [d] => { results := [.lit (.bool false)], args := [d] }
  | _ => none }
def FnTreeVisitsAllWrongFalsely : Prop := fnTreeVisitsAllRow.holds Try.pinned (OpenSpec.ofChange fnTreeVisitsAllWrong)

/-- 'laws.FnTreeVisitsOwn': WHATEVER THE INPUT: true; the input reads as it did. -/
def fnTreeVisitsOwnSpec : ChangeSpec := { name := "fnTreeVisitsOwn", fn := fun _ => fun
  | [d] => { results := [.lit (.bool true)], args := [d] }
  | _ => none }
def fnTreeVisitsOwnRow : OpenClaim := { program := "ytflpjndobffkjaa", sum := "095c5581656dbfdafde590fc23d309bc83d097f559bebdff00220772f62448c3", func := "loop.example/vectorstore/laws.FnTreeVisitsOwn", spec := "fnTreeVisitsOwn", unfollowed := true, recurses := true, apart := false }
def FnTreeVisitsOwnSaid : Prop := fnTreeVisitsOwnRow.holds Try.pinned (OpenSpec.ofChange fnTreeVisitsOwnSpec)

/-- ITS FALSE NEIGHBOUR: 'it returns false'. Refute it at one input. -/
def fnTreeVisitsOwnWrong : ChangeSpec := { name := "fnTreeVisitsOwn", fn := fun _ => fun
  | [d] => { results := [.lit (.bool false)], args := [d] }
  | _ => none }
def FnTreeVisitsOwnWrongFalsely : Prop := fnTreeVisitsOwnRow.holds Try.pinned (OpenSpec.ofChange fnTreeVisitsOwnWrong)

/-- 'laws.FnTreeVisitsMore': WHATEVER THE INPUT: true; the input reads as it did. -/
def fnTreeVisitsMoreSpec : ChangeSpec := { name := "fnTreeVisitsMore", fn := fun _ => fun
  | [d] => { results := [.lit (.bool true)], args := [d] }
  | _ => none }
def fnTreeVisitsMoreRow : OpenClaim := { program := "ytflpjndobffkjaa", sum := "095c5581656dbfdafde590fc23d309bc83d097f559bebdff00220772f62448c3", func := "loop.example/vectorstore/laws.FnTreeVisitsMore", spec := "fnTreeVisitsMore", unfollowed := true, recurses := true, apart := false }
def FnTreeVisitsMoreSaid : Prop := fnTreeVisitsMoreRow.holds Try.pinned (OpenSpec.ofChange fnTreeVisitsMoreSpec)

/-- ITS FALSE NEIGHBOUR: 'it returns false'. Refute it at one input. -/
def fnTreeVisitsMoreWrong : ChangeSpec := { name := "fnTreeVisitsMore", fn := fun _ => fun
  | [d] => { results := [.lit (.bool false)], args := [d] }
  | _ => none }
def FnTreeVisitsMoreWrongFalsely : Prop := fnTreeVisitsMoreRow.holds Try.pinned (OpenSpec.ofChange fnTreeVisitsMoreWrong)

/-- 'laws.FnExactBuildTree': WHATEVER THE INPUT: true; the input reads as it did. -/
def fnExactBuildTreeSpec : ChangeSpec := { name := "fnExactBuildTree", fn := fun _ => fun
  | [d1, d2] => { results := [.lit (.bool true)], args := [d1, d2] }
  | _ => none }
def fnExactBuildTreeRow : OpenClaim := { program := "ytflpjndobffkjaa", sum := "095c5581656dbfdafde590fc23d309bc83d097f559bebdff00220772f62448c3", func := "loop.example/vectorstore/laws.FnExactBuildTree", spec := "fnExactBuildTree", unfollowed := true, recurses := true, apart := false }
def FnExactBuildTreeSaid : Prop := fnExactBuildTreeRow.holds Try.pinned (OpenSpec.ofChange fnExactBuildTreeSpec)

/-- ITS FALSE NEIGHBOUR: 'it returns false'. Refute it at one input. -/
def fnExactBuildTreeWrong : ChangeSpec := { name := "fnExactBuildTree", fn := fun _ => fun
  | [d1, d2] => { results := [.lit (.bool false)], args := [d1, d2] }
  | _ => none }
def FnExactBuildTreeWrongFalsely : Prop := fnExactBuildTreeRow.holds Try.pinned (OpenSpec.ofChange fnExactBuildTreeWrong)

/-- 'laws.FnExactIsTreeOf': WHATEVER THE INPUT: true; the input reads as it did. -/
def fnExactIsTreeOfSpec : ChangeSpec := { name := "fnExactIsTreeOf", fn := fun _ => fun
  | [d1, d2, d3] => { results := [.lit (.bool true)], args := [d1, d2, d3] }
  | _ => none }
def fnExactIsTreeOfRow : OpenClaim := { program := "ytflpjndobffkjaa", sum := "095c5581656dbfdafde590fc23d309bc83d097f559bebdff00220772f62448c3", func := "loop.example/vectorstore/laws.FnExactIsTreeOf", spec := "fnExactIsTreeOf", unfollowed := true, recurses := true, apart := false }
def FnExactIsTreeOfSaid : Prop := fnExactIsTreeOfRow.holds Try.pinned (OpenSpec.ofChange fnExactIsTreeOfSpec)

/-- ITS FALSE NEIGHBOUR: 'it returns false'. Refute it at one input. -/
def fnExactIsTreeOfWrong : ChangeSpec := { name := "fnExactIsTreeOf", fn := fun _ => fun
  | [d1, d2, d3] => { results := [.lit (.bool false)], args := [d1, d2, d3] }
  | _ => none }
def FnExactIsTreeOfWrongFalsely : Prop := fnExactIsTreeOfRow.holds Try.pinned (OpenSpec.ofChange fnExactIsTreeOfWrong)

/-- 'laws.FnExactTreeVisits': WHATEVER THE INPUT: true; the input reads as it did. -/
def fnExactTreeVisitsSpec : ChangeSpec := { name := "fnExactTreeVisits", fn := fun _ => fun
  | [d1, d2, d3, d4] => { results := [.lit (.bool true)], args := [d1, d2, d3, d4] }
  | _ => none }
def fnExactTreeVisitsRow : OpenClaim := { program := "ytflpjndobffkjaa", sum := "095c5581656dbfdafde590fc23d309bc83d097f559bebdff00220772f62448c3", func := "loop.example/vectorstore/laws.FnExactTreeVisits", spec := "fnExactTreeVisits", unfollowed := true, recurses := true, apart := false }
def FnExactTreeVisitsSaid : Prop := fnExactTreeVisitsRow.holds Try.pinned (OpenSpec.ofChange fnExactTreeVisitsSpec)

/-- ITS FALSE NEIGHBOUR: 'it returns false'. Refute it at one input. -/
def fnExactTreeVisitsWrong : ChangeSpec := { name := "fnExactTreeVisits", fn := fun _ => fun
  | [d1, d2, d3, d4] => { results := [.lit (.bool false)], args := [d1, d2, d3, d4] }
  | _ => none }
def FnExactTreeVisitsWrongFalsely : Prop := fnExactTreeVisitsRow.holds Try.pinned (OpenSpec.ofChange fnExactTreeVisitsWrong)

/- THE SECOND FORM. 'bulk': how many values and letters a reading holds, each counted each time it is reached (what is shared counts as often as it is met; a slice's spare places count too). A statement '..UptoSaid' is the law's where the arguments, and the package variables that the reading takes, are together of bulk at most 1048576: NARROWER than '..Said'. Prove '..Said' where nothing that the law and all that it calls make is longer than what came in: it says more and counts as full. Else prove '..UptoSaid'. A law counts once. -/
mutual
def uptoBulk {H : Type} : DataW H → Nat
  | .lit (.string bytes) => bytes.length + 1
  | .lit _ => 1
  | .nil => 1
  | .ptr d => uptoBulk d + 1
  | .slice elems spare => uptoBulkAll elems + uptoBulkAll spare + 1
  | .agg parts => uptoBulkAll parts + 1
  | .iface _ d => uptoBulk d + 1
  | .map entries => uptoBulkEntries entries + 1
  | .held _ => 1
def uptoBulkAll {H : Type} : List (DataW H) → Nat
  | [] => 0
  | d :: r => uptoBulk d + uptoBulkAll r
def uptoBulkEntries {H : Type} : List (Lit × DataW H) → Nat
  | [] => 0
  | x :: r => uptoBulkEntry x + uptoBulkEntries r
def uptoBulkEntry {H : Type} : Lit × DataW H → Nat
  | (.string bytes, d) => bytes.length + uptoBulk d + 1
  | (_, d) => uptoBulk d + 1
 end
def uptoSmall : (H : Type) → List (DataW H) → Bool := fun _ ds => decide (uptoBulkAll ds ≤ 1048576)
def OpenSpec.upto (s : _root_.Go.ChangeSpec) : _root_.Go.OpenSpec := { _root_.Go.OpenSpec.ofChange s with cond := some uptoSmall }

/-- 'laws.FnBuildTree', WHERE WHAT IT READS IS OF BULK AT MOST 1048576: true; the input reads as it did. -/
def fnBuildTreeUptoRow : OpenClaim := { program := "ytflpjndobffkjaa", sum := "095c5581656dbfdafde590fc23d309bc83d097f559bebdff00220772f62448c3", func := "loop.example/vectorstore/laws.FnBuildTree", spec := "fnBuildTree", unfollowed := true, recurses := true, apart := false, narrowed := true }
def FnBuildTreeUptoSaid : Prop := fnBuildTreeUptoRow.holds Try.pinned (OpenSpec.upto fnBuildTreeSpec)

/-- 'laws.FnBuildTreeRadius', WHERE WHAT IT READS IS OF BULK AT MOST 1048576: true; the input reads as it did. -/
def fnBuildTreeRadiusUptoRow : OpenClaim := { program := "ytflpjndobffkjaa", sum := "095c5581656dbfdafde590fc23d309bc83d097f559bebdff00220772f62448c3", func := "loop.example/vectorstore/laws.FnBuildTreeRadius", spec := "fnBuildTreeRadius", unfollowed := true, recurses := true, apart := false, narrowed := true }
def FnBuildTreeRadiusUptoSaid : Prop := fnBuildTreeRadiusUptoRow.holds Try.pinned (OpenSpec.upto fnBuildTreeRadiusSpec)

/-- 'laws.FnIsTreeOf', WHERE WHAT IT READS IS OF BULK AT MOST 1048576: true; the input reads as it did. -/
def fnIsTreeOfUptoRow : OpenClaim := { program := "ytflpjndobffkjaa", sum := "095c5581656dbfdafde590fc23d309bc83d097f559bebdff00220772f62448c3", func := "loop.example/vectorstore/laws.FnIsTreeOf", spec := "fnIsTreeOf", unfollowed := true, recurses := true, apart := false, narrowed := true }
def FnIsTreeOfUptoSaid : Prop := fnIsTreeOfUptoRow.holds Try.pinned (OpenSpec.upto fnIsTreeOfSpec)

/-- 'laws.FnTreeVisitsAll', WHERE WHAT IT READS IS OF BULK AT MOST 1048576: true; the input reads as it did. -/
def fnTreeVisitsAllUptoRow : OpenClaim := { program := "ytflpjndobffkjaa", sum := "095c5581656dbfdafde590fc23d309bc83d097f559bebdff00220772f62448c3", func := "loop.example/vectorstore/laws.FnTreeVisitsAll", spec := "fnTreeVisitsAll", unfollowed := true, recurses := true, apart := false, narrowed := true }
def FnTreeVisitsAllUptoSaid : Prop := fnTreeVisitsAllUptoRow.holds Try.pinned (OpenSpec.upto fnTreeVisitsAllSpec)

/-- 'laws.FnTreeVisitsOwn', WHERE WHAT IT READS IS OF BULK AT MOST 1048576: true; the input reads as it did. -/
def fnTreeVisitsOwnUptoRow : OpenClaim := { program := "ytflpjndobffkjaa", sum := "095c5581656dbfdafde590fc23d309bc83d097f559bebdff00220772f62448c3", func := "loop.example/vectorstore/laws.FnTreeVisitsOwn", spec := "fnTreeVisitsOwn", unfollowed := true, recurses := true, apart := false, narrowed := true }
def FnTreeVisitsOwnUptoSaid : Prop := fnTreeVisitsOwnUptoRow.holds Try.pinned (OpenSpec.upto fnTreeVisitsOwnSpec)

/-- 'laws.FnTreeVisitsMore', WHERE WHAT IT READS IS OF BULK AT MOST 1048576: true; the input reads as it did. -/
def fnTreeVisitsMoreUptoRow : OpenClaim := { program := "ytflpjndobffkjaa", sum := "095c5581656dbfdafde590fc23d309bc83d097f559bebdff00220772f62448c3", func := "loop.example/vectorstore/laws.FnTreeVisitsMore", spec := "fnTreeVisitsMore", unfollowed := true, recurses := true, apart := false, narrowed := true }
def FnTreeVisitsMoreUptoSaid : Prop := fnTreeVisitsMoreUptoRow.holds Try.pinned (OpenSpec.upto fnTreeVisitsMoreSpec)

/-- 'laws.FnExactBuildTree', WHERE WHAT IT READS IS OF BULK AT MOST 1048576: true; the input reads as it did. -/
def fnExactBuildTreeUptoRow : OpenClaim := { program := "ytflpjndobffkjaa", sum := "095c5581656dbfdafde590fc23d309bc83d097f559bebdff00220772f62448c3", func := "loop.example/vectorstore/laws.FnExactBuildTree", spec := "fnExactBuildTree", unfollowed := true, recurses := true, apart := false, narrowed := true }
def FnExactBuildTreeUptoSaid : Prop := fnExactBuildTreeUptoRow.holds Try.pinned (OpenSpec.upto fnExactBuildTreeSpec)

/-- 'laws.FnExactIsTreeOf', WHERE WHAT IT READS IS OF BULK AT MOST 1048576: true; the input reads as it did. -/
def fnExactIsTreeOfUptoRow : OpenClaim := { program := "ytflpjndobffkjaa", sum := "095c5581656dbfdafde590fc23d309bc83d097f559bebdff00220772f62448c3", func := "loop.example/vectorstore/laws.FnExactIsTreeOf", spec := "fnExactIsTreeOf", unfollowed := true, recurses := true, apart := false, narrowed := true }
def FnExactIsTreeOfUptoSaid : Prop := fnExactIsTreeOfUptoRow.holds Try.pinned (OpenSpec.upto fnExactIsTreeOfSpec)

/-- 'laws.FnExactTreeVisits', WHERE WHAT IT READS IS OF BULK AT MOST 1048576: true; the input reads as it did. -/
def fnExactTreeVisitsUptoRow : OpenClaim := { program := "ytflpjndobffkjaa", sum := "095c5581656dbfdafde590fc23d309bc83d097f559bebdff00220772f62448c3", func := "loop.example/vectorstore/laws.FnExactTreeVisits", spec := "fnExactTreeVisits", unfollowed := true, recurses := true, apart := false, narrowed := true }
def FnExactTreeVisitsUptoSaid : Prop := fnExactTreeVisitsUptoRow.holds Try.pinned (OpenSpec.upto fnExactTreeVisitsSpec)

end Rows
end Go.Proofs.Ytflpjndobffkjaa
