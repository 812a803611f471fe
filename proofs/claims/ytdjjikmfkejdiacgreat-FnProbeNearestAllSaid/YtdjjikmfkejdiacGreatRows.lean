/-
  No cell of these rows narrows 'for every input' (looked for: loops, veiled, ifaces, maps, wideKeys, modest, calm, conditions, laid).
  DERIVED. THE GIVEN ROWS OF THIS SEAT. 3 by the template 'for every input the law returns true; each argument reads behind the call as it read before'; 0 by the template 'total and deterministic' (their statements: YtdjjikmfkejdiacGreatTotals.lean).
  GIVEN WITH THE SEED: the statements are not yours to turn. If you find one false, say at which input.
  Laid BY PROGRAM, IN A SANDBOX (cutbox-rows.mjs): the forced cells as the released guide's own fill.sh prints them over the translation 5c0164c8c36cc4d2… (all of the seat's roots in one cut). By AI agents, Wed Nov 11 2026. No macro, syntax, notation, axiom, sorry.
-/
import Derived.Test.YtdjjikmfkejdiacGreatChecked
import GoSem.Claim
import GoSem.ClaimJoined
import GoSem.ClaimMapViews
import Derived.JoinedTies
import Derived.KernelRfl
namespace Go.Proofs.YtdjjikmfkejdiacGreat
/- THE CELL 'sum', in the pinned program and in every row, IS THE sha256 OF THE DUMP (.gsa) THAT YtdjjikmfkejdiacGreatProg.lean LOADS. Nothing in Lean hashes anything: it is a label: what it is worth is what the hold of that sum in a sandbox is worth. -/
noncomputable def Tryz.pinned : Pinned := { name := "ytdjjikmfkejdiacgreat", sum := "5c0164c8c36cc4d2fe412f31d9f027635b8ff94a0def43405894b5a1205bdd81", checked := Tryz.checked }
namespace Rows
def none {H : Type} : Left H := { results := [], args := [] }

/-- 'laws.FnProbeNearestAll': WHATEVER THE INPUT: true; the input reads as it did. -/
def fnProbeNearestAllSpec : ChangeSpec := { name := "fnProbeNearestAll", fn := fun _ => fun
  | [d] => { results := [.lit (.bool true)], args := [d] }
  | _ => none }
def fnProbeNearestAllRow : OpenClaim := { program := "ytdjjikmfkejdiacgreat", sum := "5c0164c8c36cc4d2fe412f31d9f027635b8ff94a0def43405894b5a1205bdd81", func := "loop.example/vectorstore/laws.FnProbeNearestAll", spec := "fnProbeNearestAll", unfollowed := true, recurses := true, apart := false }
def FnProbeNearestAllSaid : Prop := fnProbeNearestAllRow.holds Tryz.pinned (OpenSpec.ofChange fnProbeNearestAllSpec)

/-- ITS FALSE NEIGHBOUR: 'it returns false'. Refute it at one input. -/
def fnProbeNearestAllWrong : ChangeSpec := { name := "fnProbeNearestAll", fn := fun _ => fun
  | [d] => { results := [.lit (.bool false)], args := [d] }
  | _ => none }
def FnProbeNearestAllWrongFalsely : Prop := fnProbeNearestAllRow.holds Tryz.pinned (OpenSpec.ofChange fnProbeNearestAllWrong)

/-- 'laws.FnProbeNearestMore': WHATEVER THE INPUT: true; the input reads as it did. -/
def fnProbeNearestMoreSpec : ChangeSpec := { name := "fnProbeNearestMore", fn := fun _ => fun
  | [d] => { results := [.lit (.bool true)], args := [d] }
  | _ => none }
def fnProbeNearestMoreRow : OpenClaim := { program := "ytdjjikmfkejdiacgreat", sum := "5c0164c8c36cc4d2fe412f31d9f027635b8ff94a0def43405894b5a1205bdd81", func := "loop.example/vectorstore/laws.FnProbeNearestMore", spec := "fnProbeNearestMore", unfollowed := true, recurses := true, apart := false }
def FnProbeNearestMoreSaid : Prop := fnProbeNearestMoreRow.holds Tryz.pinned (OpenSpec.ofChange fnProbeNearestMoreSpec)

/-- ITS FALSE NEIGHBOUR: 'it returns false'. Refute it at one input. -/
def fnProbeNearestMoreWrong : ChangeSpec := { name := "fnProbeNearestMore", fn := fun _ => fun
  | [d] => { results := [.lit (.bool false)], args := [d] }
  | _ => none }
def FnProbeNearestMoreWrongFalsely : Prop := fnProbeNearestMoreRow.holds Tryz.pinned (OpenSpec.ofChange fnProbeNearestMoreWrong)

/-- 'laws.FnNearestPut': WHATEVER THE INPUT: true; the input reads as it did. -/
def fnNearestPutSpec : ChangeSpec := { name := "fnNearestPut", fn := fun _ => fun
  | [d] => { results := [.lit (.bool true)], args := [d] }
  | _ => none }
def fnNearestPutRow : OpenClaim := { program := "ytdjjikmfkejdiacgreat", sum := "5c0164c8c36cc4d2fe412f31d9f027635b8ff94a0def43405894b5a1205bdd81", func := "loop.example/vectorstore/laws.FnNearestPut", spec := "fnNearestPut", inPlace := ["slices.overlaps[loop.example/vectorstore/impl.Item]"], unfollowed := true, recurses := true, apart := false }
def FnNearestPutSaid : Prop := fnNearestPutRow.holds Tryz.pinned (OpenSpec.ofChange fnNearestPutSpec)

/-- ITS FALSE NEIGHBOUR: 'it returns false'. Refute it at one input. -/
def fnNearestPutWrong : ChangeSpec := { name := "fnNearestPut", fn := fun _ => fun
  | [d] => { results := [.lit (.bool false)], args := [d] }
  | _ => none }
def FnNearestPutWrongFalsely : Prop := fnNearestPutRow.holds Tryz.pinned (OpenSpec.ofChange fnNearestPutWrong)

/- THE SECOND FORM. 'bulk': how many values and letters a reading holds, each counted each time it is reached (what is shared counts as often as it is met; a slice's spare places count too). A statement '..UptoSaid' is the law's where the arguments, and the package variables that the reading takes, are together of bulk at most 1048576: NARROWER than '..Said'. Prove '..Said' where nothing that the law and all that it calls make is longer than what came in: it says more and counts as full. Else prove '..UptoSaid'. A law counts once. -/
mutual
def uptoBulk {H : Type} : DataW H → Nat
  | .lit (.string bytes) => bytes.length + 1
  | .lit _ => 1
  | .nil => 1
  | .ptr d => uptoBulk d + 1
  | .slice elems spare => uptoBulkAll elems + uptoBulkAll spare + 1
  | .agg parts => uptoBulkAll parts + 1
  | .iface _ d => uptoBulk d + 1
  | .map entries => uptoBulkEntries entries + 1
  | .held _ => 1
def uptoBulkAll {H : Type} : List (DataW H) → Nat
  | [] => 0
  | d :: r => uptoBulk d + uptoBulkAll r
def uptoBulkEntries {H : Type} : List (Lit × DataW H) → Nat
  | [] => 0
  | x :: r => uptoBulkEntry x + uptoBulkEntries r
def uptoBulkEntry {H : Type} : Lit × DataW H → Nat
  | (.string bytes, d) => bytes.length + uptoBulk d + 1
  | (_, d) => uptoBulk d + 1
 end
def uptoSmall : (H : Type) → List (DataW H) → Bool := fun _ ds => decide (uptoBulkAll ds ≤ 1048576)
def OpenSpec.upto (s : _root_.Go.ChangeSpec) : _root_.Go.OpenSpec := { _root_.Go.OpenSpec.ofChange s with cond := some uptoSmall }

/-- 'laws.FnProbeNearestAll', WHERE WHAT IT READS IS OF BULK AT MOST 1048576: true; the input reads as it did. -/
def fnProbeNearestAllUptoRow : OpenClaim := { program := "ytdjjikmfkejdiacgreat", sum := "5c0164c8c36cc4d2fe412f31d9f027635b8ff94a0def43405894b5a1205bdd81", func := "loop.example/vectorstore/laws.FnProbeNearestAll", spec := "fnProbeNearestAll", unfollowed := true, recurses := true, apart := false, narrowed := true }
def FnProbeNearestAllUptoSaid : Prop := fnProbeNearestAllUptoRow.holds Tryz.pinned (OpenSpec.upto fnProbeNearestAllSpec)

/-- 'laws.FnProbeNearestMore', WHERE WHAT IT READS IS OF BULK AT MOST 1048576: true; the input reads as it did. -/
def fnProbeNearestMoreUptoRow : OpenClaim := { program := "ytdjjikmfkejdiacgreat", sum := "5c0164c8c36cc4d2fe412f31d9f027635b8ff94a0def43405894b5a1205bdd81", func := "loop.example/vectorstore/laws.FnProbeNearestMore", spec := "fnProbeNearestMore", unfollowed := true, recurses := true, apart := false, narrowed := true }
def FnProbeNearestMoreUptoSaid : Prop := fnProbeNearestMoreUptoRow.holds Tryz.pinned (OpenSpec.upto fnProbeNearestMoreSpec)

/-- 'laws.FnNearestPut', WHERE WHAT IT READS IS OF BULK AT MOST 1048576: true; the input reads as it did. -/
def fnNearestPutUptoRow : OpenClaim := { program := "ytdjjikmfkejdiacgreat", sum := "5c0164c8c36cc4d2fe412f31d9f027635b8ff94a0def43405894b5a1205bdd81", func := "loop.example/vectorstore/laws.FnNearestPut", spec := "fnNearestPut", inPlace := ["slices.overlaps[loop.example/vectorstore/impl.Item]"], unfollowed := true, recurses := true, apart := false, narrowed := true }
def FnNearestPutUptoSaid : Prop := fnNearestPutUptoRow.holds Tryz.pinned (OpenSpec.upto fnNearestPutSpec)

end Rows
end Go.Proofs.YtdjjikmfkejdiacGreat
