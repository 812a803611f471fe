/-
  No cell of these rows narrows 'for every input' (looked for: loops, veiled, ifaces, maps, wideKeys, modest, calm, conditions, laid).
  DERIVED. THE GIVEN ROWS OF THIS SEAT. 6 by the template 'for every input the law returns true; each argument reads behind the call as it read before'; 0 by the template 'total and deterministic' (their statements: YtjmaadoeholmiaaGreatTotals.lean).
  GIVEN WITH THE SEED: the statements are not yours to turn. If you find one false, say at which input.
  Laid BY PROGRAM, IN A SANDBOX (cutbox-rows.mjs): the forced cells as the released guide's own fill.sh prints them over the translation 8a2a11a1812d5ebc… (all of the seat's roots in one cut). By AI agents, Wed Nov 11 2026. No macro, syntax, notation, axiom, sorry.
-/
import Derived.Test.YtjmaadoeholmiaaGreatChecked
import GoSem.Claim
import GoSem.ClaimJoined
import GoSem.ClaimMapViews
import Derived.JoinedTies
import Derived.KernelRfl
namespace Go.Proofs.YtjmaadoeholmiaaGreat
/- THE CELL 'sum', in the pinned program and in every row, IS THE sha256 OF THE DUMP (.gsa) THAT YtjmaadoeholmiaaGreatProg.lean LOADS. Nothing in Lean hashes anything: it is a label: what it is worth is what the hold of that sum in a sandbox is worth. -/
noncomputable def Tryz.pinned : Pinned := { name := "ytjmaadoeholmiaagreat", sum := "8a2a11a1812d5ebc8d85bc2db8e4cfdff0c166dd92cd19d2b290b31478c357cb", checked := Tryz.checked }
namespace Rows
def none {H : Type} : Left H := { results := [], args := [] }

/-- 'laws.FnLinksOf': WHATEVER THE INPUT: true; the input reads as it did. -/
def fnLinksOfSpec : ChangeSpec := { name := "fnLinksOf", fn := fun _ => fun
  | [d] => { results := [.lit (.bool true)], args := [d] }
  | _ => none }
def fnLinksOfRow : OpenClaim := { program := "ytjmaadoeholmiaagreat", sum := "8a2a11a1812d5ebc8d85bc2db8e4cfdff0c166dd92cd19d2b290b31478c357cb", func := "loop.example/vectorstore/laws.FnLinksOf", spec := "fnLinksOf", unfollowed := true, recurses := true, apart := false }
def FnLinksOfSaid : Prop := fnLinksOfRow.holds Tryz.pinned (OpenSpec.ofChange fnLinksOfSpec)

/-- ITS FALSE NEIGHBOUR: 'it returns false'. Refute it at one input. -/
def fnLinksOfWrong : ChangeSpec := { name := "fnLinksOf", fn := fun _ => fun
  | [d] => { results := [.lit (.bool false)], args := [d] }
  | _ => none }
def FnLinksOfWrongFalsely : Prop := fnLinksOfRow.holds Tryz.pinned (OpenSpec.ofChange fnLinksOfWrong)

/-- 'laws.FnWalkTo': WHATEVER THE INPUT: true; the input reads as it did. -/
def fnWalkToSpec : ChangeSpec := { name := "fnWalkTo", fn := fun _ => fun
  | [d] => { results := [.lit (.bool true)], args := [d] }
  | _ => none }
def fnWalkToRow : OpenClaim := { program := "ytjmaadoeholmiaagreat", sum := "8a2a11a1812d5ebc8d85bc2db8e4cfdff0c166dd92cd19d2b290b31478c357cb", func := "loop.example/vectorstore/laws.FnWalkTo", spec := "fnWalkTo", unfollowed := true, recurses := true, apart := false }
def FnWalkToSaid : Prop := fnWalkToRow.holds Tryz.pinned (OpenSpec.ofChange fnWalkToSpec)

/-- ITS FALSE NEIGHBOUR: 'it returns false'. Refute it at one input. -/
def fnWalkToWrong : ChangeSpec := { name := "fnWalkTo", fn := fun _ => fun
  | [d] => { results := [.lit (.bool false)], args := [d] }
  | _ => none }
def FnWalkToWrongFalsely : Prop := fnWalkToRow.holds Tryz.pinned (OpenSpec.ofChange fnWalkToWrong)

/-- 'laws.FnWalkToEnd': WHATEVER THE INPUT: true; the input reads as it did. -/
def fnWalkToEndSpec : ChangeSpec := { name := "fnWalkToEnd", fn := fun _ => fun
  | [d] => { results := [.lit (.bool true)], args := [d] }
  | _ => none }
def fnWalkToEndRow : OpenClaim := { program := "ytjmaadoeholmiaagreat", sum := "8a2a11a1812d5ebc8d85bc2db8e4cfdff0c166dd92cd19d2b290b31478c357cb", func := "loop.example/vectorstore/laws.FnWalkToEnd", spec := "fnWalkToEnd", unfollowed := true, recurses := true, apart := false }
def FnWalkToEndSaid : Prop := fnWalkToEndRow.holds Tryz.pinned (OpenSpec.ofChange fnWalkToEndSpec)

/-- ITS FALSE NEIGHBOUR: 'it returns false'. Refute it at one input. -/
def fnWalkToEndWrong : ChangeSpec := { name := "fnWalkToEnd", fn := fun _ => fun
  | [d] => { results := [.lit (.bool false)], args := [d] }
  | _ => none }
def FnWalkToEndWrongFalsely : Prop := fnWalkToEndRow.holds Tryz.pinned (OpenSpec.ofChange fnWalkToEndWrong)

/-- 'laws.FnWalkToNearest': WHATEVER THE INPUT: true; the input reads as it did. -/
def fnWalkToNearestSpec : ChangeSpec := { name := "fnWalkToNearest", fn := fun _ => fun
  | [d] => { results := [.lit (.bool true)], args := [d] }
  | _ => none }
def fnWalkToNearestRow : OpenClaim := { program := "ytjmaadoeholmiaagreat", sum := "8a2a11a1812d5ebc8d85bc2db8e4cfdff0c166dd92cd19d2b290b31478c357cb", func := "loop.example/vectorstore/laws.FnWalkToNearest", spec := "fnWalkToNearest", unfollowed := true, recurses := true, apart := false }
def FnWalkToNearestSaid : Prop := fnWalkToNearestRow.holds Tryz.pinned (OpenSpec.ofChange fnWalkToNearestSpec)

/-- ITS FALSE NEIGHBOUR: 'it returns false'. Refute it at one input. -/
def fnWalkToNearestWrong : ChangeSpec := { name := "fnWalkToNearest", fn := fun _ => fun
  | [d] => { results := [.lit (.bool false)], args := [d] }
  | _ => none }
def FnWalkToNearestWrongFalsely : Prop := fnWalkToNearestRow.holds Tryz.pinned (OpenSpec.ofChange fnWalkToNearestWrong)

/-- 'laws.FnReachedFrom': WHATEVER THE INPUT: true; the input reads as it did. -/
def fnReachedFromSpec : ChangeSpec := { name := "fnReachedFrom", fn := fun _ => fun
  | [d] => { results := [.lit (.bool true)], args := [d] }
  | _ => none }
def fnReachedFromRow : OpenClaim := { program := "ytjmaadoeholmiaagreat", sum := "8a2a11a1812d5ebc8d85bc2db8e4cfdff0c166dd92cd19d2b290b31478c357cb", func := "loop.example/vectorstore/laws.FnReachedFrom", spec := "fnReachedFrom", unfollowed := true, recurses := true, apart := false }
def FnReachedFromSaid : Prop := fnReachedFromRow.holds Tryz.pinned (OpenSpec.ofChange fnReachedFromSpec)

/-- ITS FALSE NEIGHBOUR: 'it returns false'. Refute it at one input. -/
def fnReachedFromWrong : ChangeSpec := { name := "fnReachedFrom", fn := fun _ => fun
  | [d] => { results := [.lit (.bool false)], args := [d] }
  | _ => none }
def FnReachedFromWrongFalsely : Prop := fnReachedFromRow.holds Tryz.pinned (OpenSpec.ofChange fnReachedFromWrong)

/-- 'laws.FnReachedFromClosed': WHATEVER THE INPUT: true; the input reads as it did. -/
def fnReachedFromClosedSpec : ChangeSpec := { name := "fnReachedFromClosed", fn := fun _ => fun
  | [d] => { results := [.lit (.bool true)], args := [d] }
  | _ => none }
def fnReachedFromClosedRow : OpenClaim := { program := "ytjmaadoeholmiaagreat", sum := "8a2a11a1812d5ebc8d85bc2db8e4cfdff0c166dd92cd19d2b290b31478c357cb", func := "loop.example/vectorstore/laws.FnReachedFromClosed", spec := "fnReachedFromClosed", unfollowed := true, recurses := true, apart := false }
def FnReachedFromClosedSaid : Prop := fnReachedFromClosedRow.holds Tryz.pinned (OpenSpec.ofChange fnReachedFromClosedSpec)

/-- ITS FALSE NEIGHBOUR: 'it returns false'. Refute it at one input. -/
def fnReachedFromClosedWrong : ChangeSpec := { name := "fnReachedFromClosed", fn := fun _ => fun
  | [d] => { results := [.lit (.bool false)], args := [d] }
  | _ => none }
def FnReachedFromClosedWrongFalsely : Prop := fnReachedFromClosedRow.holds Tryz.pinned (OpenSpec.ofChange fnReachedFromClosedWrong)

/- THE SECOND FORM. 'bulk': how many values and letters a reading holds, each counted each time it is reached (what is shared counts as often as it is met; a slice's spare places count too). A statement '..UptoSaid' is the law's where the arguments, and the package variables that the reading takes, are together of bulk at most 1048576: NARROWER than '..Said'. Prove '..Said' where nothing that the law and all that it calls make is longer than what came in: it says more and counts as full. Else prove '..UptoSaid'. A law counts once. -/
mutual
def uptoBulk {H : Type} : DataW H → Nat
  | .lit (.string bytes) => bytes.length + 1
  | .lit _ => 1
  | .nil => 1
  | .ptr d => uptoBulk d + 1
  | .slice elems spare => uptoBulkAll elems + uptoBulkAll spare + 1
  | .agg parts => uptoBulkAll parts + 1
  | .iface _ d => uptoBulk d + 1
  | .map entries => uptoBulkEntries entries + 1
  | .held _ => 1
def uptoBulkAll {H : Type} : List (DataW H) → Nat
  | [] => 0
  | d :: r => uptoBulk d + uptoBulkAll r
def uptoBulkEntries {H : Type} : List (Lit × DataW H) → Nat
  | [] => 0
  | x :: r => uptoBulkEntry x + uptoBulkEntries r
def uptoBulkEntry {H : Type} : Lit × DataW H → Nat
  | (.string bytes, d) => bytes.length + uptoBulk d + 1
  | (_, d) => uptoBulk d + 1
 end
def uptoSmall : (H : Type) → List (DataW H) → Bool := fun _ ds => decide (uptoBulkAll ds ≤ 1048576)
def OpenSpec.upto (s : _root_.Go.ChangeSpec) : _root_.Go.OpenSpec := { _root_.Go.OpenSpec.ofChange s with cond := some uptoSmall }

/-- 'laws.FnLinksOf', WHERE WHAT IT READS IS OF BULK AT MOST 1048576: true; the input reads as it did. -/
def fnLinksOfUptoRow : OpenClaim := { program := "ytjmaadoeholmiaagreat", sum := "8a2a11a1812d5ebc8d85bc2db8e4cfdff0c166dd92cd19d2b290b31478c357cb", func := "loop.example/vectorstore/laws.FnLinksOf", spec := "fnLinksOf", unfollowed := true, recurses := true, apart := false, narrowed := true }
def FnLinksOfUptoSaid : Prop := fnLinksOfUptoRow.holds Tryz.pinned (OpenSpec.upto fnLinksOfSpec)

/-- 'laws.FnWalkTo', WHERE WHAT IT READS IS OF BULK AT MOST 1048576: true; the input reads as it did. -/
def fnWalkToUptoRow : OpenClaim := { program := "ytjmaadoeholmiaagreat", sum := "8a2a11a1812d5ebc8d85bc2db8e4cfdff0c166dd92cd19d2b290b31478c357cb", func := "loop.example/vectorstore/laws.FnWalkTo", spec := "fnWalkTo", unfollowed := true, recurses := true, apart := false, narrowed := true }
def FnWalkToUptoSaid : Prop := fnWalkToUptoRow.holds Tryz.pinned (OpenSpec.upto fnWalkToSpec)

/-- 'laws.FnWalkToEnd', WHERE WHAT IT READS IS OF BULK AT MOST 1048576: true; the input reads as it did. -/
def fnWalkToEndUptoRow : OpenClaim := { program := "ytjmaadoeholmiaagreat", sum := "8a2a11a1812d5ebc8d85bc2db8e4cfdff0c166dd92cd19d2b290b31478c357cb", func := "loop.example/vectorstore/laws.FnWalkToEnd", spec := "fnWalkToEnd", unfollowed := true, recurses := true, apart := false, narrowed := true }
def FnWalkToEndUptoSaid : Prop := fnWalkToEndUptoRow.holds Tryz.pinned (OpenSpec.upto fnWalkToEndSpec)

/-- 'laws.FnWalkToNearest', WHERE WHAT IT READS IS OF BULK AT MOST 1048576: true; the input reads as it did. -/
def fnWalkToNearestUptoRow : OpenClaim := { program := "ytjmaadoeholmiaagreat", sum := "8a2a11a1812d5ebc8d85bc2db8e4cfdff0c166dd92cd19d2b290b31478c357cb", func := "loop.example/vectorstore/laws.FnWalkToNearest", spec := "fnWalkToNearest", unfollowed := true, recurses := true, apart := false, narrowed := true }
def FnWalkToNearestUptoSaid : Prop := fnWalkToNearestUptoRow.holds Tryz.pinned (OpenSpec.upto fnWalkToNearestSpec)

/-- 'laws.FnReachedFrom', WHERE WHAT IT READS IS OF BULK AT MOST 1048576: true; the input reads as it did. -/
def fnReachedFromUptoRow : OpenClaim := { program := "ytjmaadoeholmiaagreat", sum := "8a2a11a1812d5ebc8d85bc2db8e4cfdff0c166dd92cd19d2b290b31478c357cb", func := "loop.example/vectorstore/laws.FnReachedFrom", spec := "fnReachedFrom", unfollowed := true, recurses := true, apart := false, narrowed := true }
def FnReachedFromUptoSaid : Prop := fnReachedFromUptoRow.holds Tryz.pinned (OpenSpec.upto fnReachedFromSpec)

/-- 'laws.FnReachedFromClosed', WHERE WHAT IT READS IS OF BULK AT MOST 1048576: true; the input reads as it did. -/
def fnReachedFromClosedUptoRow : OpenClaim := { program := "ytjmaadoeholmiaagreat", sum := "8a2a11a1812d5ebc8d85bc2db8e4cfdff0c166dd92cd19d2b290b31478c357cb", func := "loop.example/vectorstore/laws.FnReachedFromClosed", spec := "fnReachedFromClosed", unfollowed := true, recurses := true, apart := false, narrowed := true }
def FnReachedFromClosedUptoSaid : Prop := fnReachedFromClosedUptoRow.holds Tryz.pinned (OpenSpec.upto fnReachedFromClosedSpec)

end Rows
end Go.Proofs.YtjmaadoeholmiaaGreat
