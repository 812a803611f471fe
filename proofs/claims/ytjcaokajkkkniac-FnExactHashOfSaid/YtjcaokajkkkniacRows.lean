/-
  No cell of these rows narrows 'for every input' (looked for: loops, veiled, ifaces, maps, wideKeys, modest, calm, conditions, laid).
  DERIVED. THE GIVEN ROWS OF THIS SEAT. 5 by the template 'for every input the law returns true; each argument reads behind the call as it read before'; 0 by the template 'total and deterministic' (their statements: YtjcaokajkkkniacTotals.lean).
  GIVEN WITH THE SEED: the statements are not yours to turn. If you find one false, say at which input.
  Laid BY PROGRAM, IN A SANDBOX (cutbox-rows.mjs): the forced cells as the released guide's own fill.sh prints them over the translation 639c715e7fd593fd… (all of the seat's roots in one cut). By AI agents, Wed Nov 11 2026. No macro, syntax, notation, axiom, sorry.
-/
import Derived.Test.YtjcaokajkkkniacChecked
import GoSem.Claim
import GoSem.ClaimJoined
import GoSem.ClaimMapViews
import Derived.JoinedTies
import Derived.KernelRfl
namespace Go.Proofs.Ytjcaokajkkkniac
/- THE CELL 'sum', in the pinned program and in every row, IS THE sha256 OF THE DUMP (.gsa) THAT YtjcaokajkkkniacProg.lean LOADS. Nothing in Lean hashes anything: it is a label: what it is worth is what the hold of that sum in a sandbox is worth. -/
noncomputable def Try.pinned : Pinned := { name := "ytjcaokajkkkniac", sum := "639c715e7fd593fdf55ba0c77fd4f533fe3444a3786a0fd87f56b96874e64549", checked := Try.checked }
namespace Rows
def none {H : Type} : Left H := { results := [], args := [] }

/-- 'laws.FnExactCodeDistances': WHATEVER THE INPUT: true; the input reads as it did. -/
def fnExactCodeDistancesSpec : ChangeSpec := { name := "fnExactCodeDistances", fn := fun _ => fun
  | [d1, d2] => { results := [.lit (.bool true)], args := [d1, d2] }
  | _ => none }
def fnExactCodeDistancesRow : OpenClaim := { program := "ytjcaokajkkkniac", sum := "639c715e7fd593fdf55ba0c77fd4f533fe3444a3786a0fd87f56b96874e64549", func := "loop.example/vectorstore/laws.FnExactCodeDistances", spec := "fnExactCodeDistances", apart := false }
def FnExactCodeDistancesSaid : Prop := fnExactCodeDistancesRow.holds Try.pinned (OpenSpec.ofChange fnExactCodeDistancesSpec)

/-- ITS FALSE NEIGHBOUR: 'it returns false'. Refute it at one input. -/
def fnExactCodeDistancesWrong : ChangeSpec := { name := "fnExactCodeDistances", fn := fun _ => fun
  | [d1, d2] => { results := [.lit (.bool false)], args := [d1, d2] }
  | _ => none }
def FnExactCodeDistancesWrongFalsely : Prop := fnExactCodeDistancesRow.holds Try.pinned (OpenSpec.ofChange fnExactCodeDistancesWrong)

/-- 'laws.FnExactValidPlanes': WHATEVER THE INPUT: true; the input reads as it did. -/
def fnExactValidPlanesSpec : ChangeSpec := { name := "fnExactValidPlanes", fn := fun _ => fun
  | [d] => { results := [.lit (.bool true)], args := [d] }
  | _ => none }
def fnExactValidPlanesRow : OpenClaim := { program := "ytjcaokajkkkniac", sum := "639c715e7fd593fdf55ba0c77fd4f533fe3444a3786a0fd87f56b96874e64549", func := "loop.example/vectorstore/laws.FnExactValidPlanes", spec := "fnExactValidPlanes", apart := false }
def FnExactValidPlanesSaid : Prop := fnExactValidPlanesRow.holds Try.pinned (OpenSpec.ofChange fnExactValidPlanesSpec)

/-- ITS FALSE NEIGHBOUR: 'it returns false'. Refute it at one input. -/
def fnExactValidPlanesWrong : ChangeSpec := { name := "fnExactValidPlanes", fn := fun _ => fun
  | [d] => { results := [.lit (.bool false)], args := [d] }
  | _ => none }
def FnExactValidPlanesWrongFalsely : Prop := fnExactValidPlanesRow.holds Try.pinned (OpenSpec.ofChange fnExactValidPlanesWrong)

/-- 'laws.FnExactHashOf': WHATEVER THE INPUT: true; the input reads as it did. -/
def fnExactHashOfSpec : ChangeSpec := { name := "fnExactHashOf", fn := fun _ => fun
  | [d1, d2] => { results := [.lit (.bool true)], args := [d1, d2] }
  | _ => none }
def fnExactHashOfRow : OpenClaim := { program := "ytjcaokajkkkniac", sum := "639c715e7fd593fdf55ba0c77fd4f533fe3444a3786a0fd87f56b96874e64549", func := "loop.example/vectorstore/laws.FnExactHashOf", spec := "fnExactHashOf", apart := false }
def FnExactHashOfSaid : Prop := fnExactHashOfRow.holds Try.pinned (OpenSpec.ofChange fnExactHashOfSpec)

/-- ITS FALSE NEIGHBOUR: 'it returns false'. Refute it at one input. -/
def fnExactHashOfWrong : ChangeSpec := { name := "fnExactHashOf", fn := fun _ => fun
  | [d1, d2] => { results := [.lit (.bool false)], args := [d1, d2] }
  | _ => none }
def FnExactHashOfWrongFalsely : Prop := fnExactHashOfRow.holds Try.pinned (OpenSpec.ofChange fnExactHashOfWrong)

/-- 'laws.FnExactBitsApart': WHATEVER THE INPUT: true; the input reads as it did. -/
def fnExactBitsApartSpec : ChangeSpec := { name := "fnExactBitsApart", fn := fun _ => fun
  | [d1, d2] => { results := [.lit (.bool true)], args := [d1, d2] }
  | _ => none }
def fnExactBitsApartRow : OpenClaim := { program := "ytjcaokajkkkniac", sum := "639c715e7fd593fdf55ba0c77fd4f533fe3444a3786a0fd87f56b96874e64549", func := "loop.example/vectorstore/laws.FnExactBitsApart", spec := "fnExactBitsApart", apart := false }
def FnExactBitsApartSaid : Prop := fnExactBitsApartRow.holds Try.pinned (OpenSpec.ofChange fnExactBitsApartSpec)

/-- ITS FALSE NEIGHBOUR: 'it returns false'. Refute it at one input. -/
def fnExactBitsApartWrong : ChangeSpec := { name := "fnExactBitsApart", fn := fun _ => fun
  | [d1, d2] => { results := [.lit (.bool false)], args := [d1, d2] }
  | _ => none }
def FnExactBitsApartWrongFalsely : Prop := fnExactBitsApartRow.holds Try.pinned (OpenSpec.ofChange fnExactBitsApartWrong)

/-- 'laws.FnExactBucketOf': WHATEVER THE INPUT: true; the input reads as it did. -/
def fnExactBucketOfSpec : ChangeSpec := { name := "fnExactBucketOf", fn := fun _ => fun
  | [d1, d2, d3, d4] => { results := [.lit (.bool true)], args := [d1, d2, d3, d4] }
  | _ => none }
def fnExactBucketOfRow : OpenClaim := { program := "ytjcaokajkkkniac", sum := "639c715e7fd593fdf55ba0c77fd4f533fe3444a3786a0fd87f56b96874e64549", func := "loop.example/vectorstore/laws.FnExactBucketOf", spec := "fnExactBucketOf", unfollowed := true, recurses := true, apart := false }
def FnExactBucketOfSaid : Prop := fnExactBucketOfRow.holds Try.pinned (OpenSpec.ofChange fnExactBucketOfSpec)

/-- ITS FALSE NEIGHBOUR: 'it returns false'. Refute it at one input. -/
def fnExactBucketOfWrong : ChangeSpec := { name := "fnExactBucketOf", fn := fun _ => fun
  | [d1, d2, d3, d4] => { results := [.lit (.bool false)], args := [d1, d2, d3, d4] }
  | _ => none }
def FnExactBucketOfWrongFalsely : Prop := fnExactBucketOfRow.holds Try.pinned (OpenSpec.ofChange fnExactBucketOfWrong)

/- THE SECOND FORM. 'bulk': how many values and letters a reading holds, each counted each time it is reached (what is shared counts as often as it is met; a slice's spare places count too). A statement '..UptoSaid' is the law's where the arguments, and the package variables that the reading takes, are together of bulk at most 1048576: NARROWER than '..Said'. Prove '..Said' where nothing that the law and all that it calls make is longer than what came in: it says more and counts as full. Else prove '..UptoSaid'. A law counts once. -/
mutual
def uptoBulk {H : Type} : DataW H → Nat
  | .lit (.string bytes) => bytes.length + 1
  | .lit _ => 1
  | .nil => 1
  | .ptr d => uptoBulk d + 1
  | .slice elems spare => uptoBulkAll elems + uptoBulkAll spare + 1
  | .agg parts => uptoBulkAll parts + 1
  | .iface _ d => uptoBulk d + 1
  | .map entries => uptoBulkEntries entries + 1
  | .held _ => 1
def uptoBulkAll {H : Type} : List (DataW H) → Nat
  | [] => 0
  | d :: r => uptoBulk d + uptoBulkAll r
def uptoBulkEntries {H : Type} : List (Lit × DataW H) → Nat
  | [] => 0
  | x :: r => uptoBulkEntry x + uptoBulkEntries r
def uptoBulkEntry {H : Type} : Lit × DataW H → Nat
  | (.string bytes, d) => bytes.length + uptoBulk d + 1
  | (_, d) => uptoBulk d + 1
 end
def uptoSmall : (H : Type) → List (DataW H) → Bool := fun _ ds => decide (uptoBulkAll ds ≤ 1048576)
def OpenSpec.upto (s : _root_.Go.ChangeSpec) : _root_.Go.OpenSpec := { _root_.Go.OpenSpec.ofChange s with cond := some uptoSmall }

/-- 'laws.FnExactCodeDistances', WHERE WHAT IT READS IS OF BULK AT MOST 1048576: true; the input reads as it did. -/
def fnExactCodeDistancesUptoRow : OpenClaim := { program := "ytjcaokajkkkniac", sum := "639c715e7fd593fdf55ba0c77fd4f533fe3444a3786a0fd87f56b96874e64549", func := "loop.example/vectorstore/laws.FnExactCodeDistances", spec := "fnExactCodeDistances", apart := false, narrowed := true }
def FnExactCodeDistancesUptoSaid : Prop := fnExactCodeDistancesUptoRow.holds Try.pinned (OpenSpec.upto fnExactCodeDistancesSpec)

/-- 'laws.FnExactValidPlanes', WHERE WHAT IT READS IS OF BULK AT MOST 1048576: true; the input reads as it did. -/
def fnExactValidPlanesUptoRow : OpenClaim := { program := "ytjcaokajkkkniac", sum := "639c715e7fd593fdf55ba0c77fd4f533fe3444a3786a0fd87f56b96874e64549", func := "loop.example/vectorstore/laws.FnExactValidPlanes", spec := "fnExactValidPlanes", apart := false, narrowed := true }
def FnExactValidPlanesUptoSaid : Prop := fnExactValidPlanesUptoRow.holds Try.pinned (OpenSpec.upto fnExactValidPlanesSpec)

/-- 'laws.FnExactHashOf', WHERE WHAT IT READS IS OF BULK AT MOST 1048576: true; the input reads as it did. -/
def fnExactHashOfUptoRow : OpenClaim := { program := "ytjcaokajkkkniac", sum := "639c715e7fd593fdf55ba0c77fd4f533fe3444a3786a0fd87f56b96874e64549", func := "loop.example/vectorstore/laws.FnExactHashOf", spec := "fnExactHashOf", apart := false, narrowed := true }
def FnExactHashOfUptoSaid : Prop := fnExactHashOfUptoRow.holds Try.pinned (OpenSpec.upto fnExactHashOfSpec)

/-- 'laws.FnExactBitsApart', WHERE WHAT IT READS IS OF BULK AT MOST 1048576: true; the input reads as it did. -/
def fnExactBitsApartUptoRow : OpenClaim := { program := "ytjcaokajkkkniac", sum := "639c715e7fd593fdf55ba0c77fd4f533fe3444a3786a0fd87f56b96874e64549", func := "loop.example/vectorstore/laws.FnExactBitsApart", spec := "fnExactBitsApart", apart := false, narrowed := true }
def FnExactBitsApartUptoSaid : Prop := fnExactBitsApartUptoRow.holds Try.pinned (OpenSpec.upto fnExactBitsApartSpec)

/-- 'laws.FnExactBucketOf', WHERE WHAT IT READS IS OF BULK AT MOST 1048576: true; the input reads as it did. -/
def fnExactBucketOfUptoRow : OpenClaim := { program := "ytjcaokajkkkniac", sum := "639c715e7fd593fdf55ba0c77fd4f533fe3444a3786a0fd87f56b96874e64549", func := "loop.example/vectorstore/laws.FnExactBucketOf", spec := "fnExactBucketOf", unfollowed := true, recurses := true, apart := false, narrowed := true }
def FnExactBucketOfUptoSaid : Prop := fnExactBucketOfUptoRow.holds Try.pinned (OpenSpec.upto fnExactBucketOfSpec)

end Rows
end Go.Proofs.Ytjcaokajkkkniac
