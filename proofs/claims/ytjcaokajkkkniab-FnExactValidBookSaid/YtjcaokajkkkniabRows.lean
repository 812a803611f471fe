/-
  No cell of these rows narrows 'for every input' (looked for: loops, veiled, ifaces, maps, wideKeys, modest, calm, conditions, laid).
  DERIVED. THE GIVEN ROWS OF THIS SEAT. 11 by the template 'for every input the law returns true; each argument reads behind the call as it read before'; 0 by the template 'total and deterministic' (their statements: YtjcaokajkkkniabTotals.lean).
  GIVEN WITH THE SEED: the statements are not yours to turn. If you find one false, say at which input.
  Laid BY PROGRAM, IN A SANDBOX (cutbox-rows.mjs): the forced cells as the released guide's own fill.sh prints them over the translation e2e1e2fc2020e120… (all of the seat's roots in one cut). By AI agents, Wed Nov 11 2026. No macro, syntax, notation, axiom, sorry.
-/
import Derived.Test.YtjcaokajkkkniabChecked
import GoSem.Claim
import GoSem.ClaimJoined
import GoSem.ClaimMapViews
import Derived.JoinedTies
import Derived.KernelRfl
namespace Go.Proofs.Ytjcaokajkkkniab
/- THE CELL 'sum', in the pinned program and in every row, IS THE sha256 OF THE DUMP (.gsa) THAT YtjcaokajkkkniabProg.lean LOADS. Nothing in Lean hashes anything: it is a label: what it is worth is what the hold of that sum in a sandbox is worth. -/
noncomputable def Try.pinned : Pinned := { name := "ytjcaokajkkkniab", sum := "e2e1e2fc2020e1209a027ccc960ef17c16a9ec911efa0e0cfbcf56a0e1cba771", checked := Try.checked }
namespace Rows
def none {H : Type} : Left H := { results := [], args := [] }

/-- 'laws.FnBitsApartWay': WHATEVER THE INPUT: true; the input reads as it did. -/
def fnBitsApartWaySpec : ChangeSpec := { name := "fnBitsApartWay", fn := fun _ => fun
  | [d] => { results := [.lit (.bool true)], args := [d] }
  | _ => none }
def fnBitsApartWayRow : OpenClaim := { program := "ytjcaokajkkkniab", sum := "e2e1e2fc2020e1209a027ccc960ef17c16a9ec911efa0e0cfbcf56a0e1cba771", func := "loop.example/vectorstore/laws.FnBitsApartWay", spec := "fnBitsApartWay", apart := false }
def FnBitsApartWaySaid : Prop := fnBitsApartWayRow.holds Try.pinned (OpenSpec.ofChange fnBitsApartWaySpec)

/-- ITS FALSE NEIGHBOUR: 'it returns false'. Refute it at one input. -/
def fnBitsApartWayWrong : ChangeSpec := { name := "fnBitsApartWay", fn := fun _ => fun
  | [d] => { results := [.lit (.bool false)], args := [d] }
  | _ => none }
def FnBitsApartWayWrongFalsely : Prop := fnBitsApartWayRow.holds Try.pinned (OpenSpec.ofChange fnBitsApartWayWrong)

/-- 'laws.FnBucketOf': WHATEVER THE INPUT: true; the input reads as it did. -/
def fnBucketOfSpec : ChangeSpec := { name := "fnBucketOf", fn := fun _ => fun
  | [d] => { results := [.lit (.bool true)], args := [d] }
  | _ => none }
def fnBucketOfRow : OpenClaim := { program := "ytjcaokajkkkniab", sum := "e2e1e2fc2020e1209a027ccc960ef17c16a9ec911efa0e0cfbcf56a0e1cba771", func := "loop.example/vectorstore/laws.FnBucketOf", spec := "fnBucketOf", unfollowed := true, recurses := true, apart := false }
def FnBucketOfSaid : Prop := fnBucketOfRow.holds Try.pinned (OpenSpec.ofChange fnBucketOfSpec)

/-- ITS FALSE NEIGHBOUR: 'it returns false'. Refute it at one input. -/
def fnBucketOfWrong : ChangeSpec := { name := "fnBucketOf", fn := fun _ => fun
  | [d] => { results := [.lit (.bool false)], args := [d] }
  | _ => none }
def FnBucketOfWrongFalsely : Prop := fnBucketOfRow.holds Try.pinned (OpenSpec.ofChange fnBucketOfWrong)

/-- 'laws.FnBucketOfMore': WHATEVER THE INPUT: true; the input reads as it did. -/
def fnBucketOfMoreSpec : ChangeSpec := { name := "fnBucketOfMore", fn := fun _ => fun
  | [d] => { results := [.lit (.bool true)], args := [d] }
  | _ => none }
def fnBucketOfMoreRow : OpenClaim := { program := "ytjcaokajkkkniab", sum := "e2e1e2fc2020e1209a027ccc960ef17c16a9ec911efa0e0cfbcf56a0e1cba771", func := "loop.example/vectorstore/laws.FnBucketOfMore", spec := "fnBucketOfMore", unfollowed := true, recurses := true, apart := false }
def FnBucketOfMoreSaid : Prop := fnBucketOfMoreRow.holds Try.pinned (OpenSpec.ofChange fnBucketOfMoreSpec)

/-- ITS FALSE NEIGHBOUR: 'it returns false'. Refute it at one input. -/
def fnBucketOfMoreWrong : ChangeSpec := { name := "fnBucketOfMore", fn := fun _ => fun
  | [d] => { results := [.lit (.bool false)], args := [d] }
  | _ => none }
def FnBucketOfMoreWrongFalsely : Prop := fnBucketOfMoreRow.holds Try.pinned (OpenSpec.ofChange fnBucketOfMoreWrong)

/-- 'laws.FnEncodeVectorHalves': WHATEVER THE INPUT: true; the input reads as it did. -/
def fnEncodeVectorHalvesSpec : ChangeSpec := { name := "fnEncodeVectorHalves", fn := fun _ => fun
  | [d] => { results := [.lit (.bool true)], args := [d] }
  | _ => none }
def fnEncodeVectorHalvesRow : OpenClaim := { program := "ytjcaokajkkkniab", sum := "e2e1e2fc2020e1209a027ccc960ef17c16a9ec911efa0e0cfbcf56a0e1cba771", func := "loop.example/vectorstore/laws.FnEncodeVectorHalves", spec := "fnEncodeVectorHalves", apart := false }
def FnEncodeVectorHalvesSaid : Prop := fnEncodeVectorHalvesRow.holds Try.pinned (OpenSpec.ofChange fnEncodeVectorHalvesSpec)

/-- ITS FALSE NEIGHBOUR: 'it returns false'. Refute it at one input. -/
def fnEncodeVectorHalvesWrong : ChangeSpec := { name := "fnEncodeVectorHalves", fn := fun _ => fun
  | [d] => { results := [.lit (.bool false)], args := [d] }
  | _ => none }
def FnEncodeVectorHalvesWrongFalsely : Prop := fnEncodeVectorHalvesRow.holds Try.pinned (OpenSpec.ofChange fnEncodeVectorHalvesWrong)

/-- 'laws.FnDecodeVectorAll': WHATEVER THE INPUT: true; the input reads as it did. -/
def fnDecodeVectorAllSpec : ChangeSpec := { name := "fnDecodeVectorAll", fn := fun _ => fun
  | [d] => { results := [.lit (.bool true)], args := [d] }
  | _ => none }
def fnDecodeVectorAllRow : OpenClaim := { program := "ytjcaokajkkkniab", sum := "e2e1e2fc2020e1209a027ccc960ef17c16a9ec911efa0e0cfbcf56a0e1cba771", func := "loop.example/vectorstore/laws.FnDecodeVectorAll", spec := "fnDecodeVectorAll", apart := false }
def FnDecodeVectorAllSaid : Prop := fnDecodeVectorAllRow.holds Try.pinned (OpenSpec.ofChange fnDecodeVectorAllSpec)

/-- ITS FALSE NEIGHBOUR: 'it returns false'. Refute it at one input. -/
def fnDecodeVectorAllWrong : ChangeSpec := { name := "fnDecodeVectorAll", fn := fun _ => fun
  | [d] => { results := [.lit (.bool false)], args := [d] }
  | _ => none }
def FnDecodeVectorAllWrongFalsely : Prop := fnDecodeVectorAllRow.holds Try.pinned (OpenSpec.ofChange fnDecodeVectorAllWrong)

/-- 'laws.FnHashOfPlane': WHATEVER THE INPUT: true; the input reads as it did. -/
def fnHashOfPlaneSpec : ChangeSpec := { name := "fnHashOfPlane", fn := fun _ => fun
  | [d] => { results := [.lit (.bool true)], args := [d] }
  | _ => none }
def fnHashOfPlaneRow : OpenClaim := { program := "ytjcaokajkkkniab", sum := "e2e1e2fc2020e1209a027ccc960ef17c16a9ec911efa0e0cfbcf56a0e1cba771", func := "loop.example/vectorstore/laws.FnHashOfPlane", spec := "fnHashOfPlane", apart := false }
def FnHashOfPlaneSaid : Prop := fnHashOfPlaneRow.holds Try.pinned (OpenSpec.ofChange fnHashOfPlaneSpec)

/-- ITS FALSE NEIGHBOUR: 'it returns false'. Refute it at one input. -/
def fnHashOfPlaneWrong : ChangeSpec := { name := "fnHashOfPlane", fn := fun _ => fun
  | [d] => { results := [.lit (.bool false)], args := [d] }
  | _ => none }
def FnHashOfPlaneWrongFalsely : Prop := fnHashOfPlaneRow.holds Try.pinned (OpenSpec.ofChange fnHashOfPlaneWrong)

/-- 'laws.FnHashOfScale': WHATEVER THE INPUT: true; the input reads as it did. -/
def fnHashOfScaleSpec : ChangeSpec := { name := "fnHashOfScale", fn := fun _ => fun
  | [d] => { results := [.lit (.bool true)], args := [d] }
  | _ => none }
def fnHashOfScaleRow : OpenClaim := { program := "ytjcaokajkkkniab", sum := "e2e1e2fc2020e1209a027ccc960ef17c16a9ec911efa0e0cfbcf56a0e1cba771", func := "loop.example/vectorstore/laws.FnHashOfScale", spec := "fnHashOfScale", apart := false }
def FnHashOfScaleSaid : Prop := fnHashOfScaleRow.holds Try.pinned (OpenSpec.ofChange fnHashOfScaleSpec)

/-- ITS FALSE NEIGHBOUR: 'it returns false'. Refute it at one input. -/
def fnHashOfScaleWrong : ChangeSpec := { name := "fnHashOfScale", fn := fun _ => fun
  | [d] => { results := [.lit (.bool false)], args := [d] }
  | _ => none }
def FnHashOfScaleWrongFalsely : Prop := fnHashOfScaleRow.holds Try.pinned (OpenSpec.ofChange fnHashOfScaleWrong)

/-- 'laws.FnBucketOfOwn': WHATEVER THE INPUT: true; the input reads as it did. -/
def fnBucketOfOwnSpec : ChangeSpec := { name := "fnBucketOfOwn", fn := fun _ => fun
  | [d] => { results := [.lit (.bool true)], args := [d] }
  | _ => none }
def fnBucketOfOwnRow : OpenClaim := { program := "ytjcaokajkkkniab", sum := "e2e1e2fc2020e1209a027ccc960ef17c16a9ec911efa0e0cfbcf56a0e1cba771", func := "loop.example/vectorstore/laws.FnBucketOfOwn", spec := "fnBucketOfOwn", unfollowed := true, recurses := true, apart := false }
def FnBucketOfOwnSaid : Prop := fnBucketOfOwnRow.holds Try.pinned (OpenSpec.ofChange fnBucketOfOwnSpec)

/-- ITS FALSE NEIGHBOUR: 'it returns false'. Refute it at one input. -/
def fnBucketOfOwnWrong : ChangeSpec := { name := "fnBucketOfOwn", fn := fun _ => fun
  | [d] => { results := [.lit (.bool false)], args := [d] }
  | _ => none }
def FnBucketOfOwnWrongFalsely : Prop := fnBucketOfOwnRow.holds Try.pinned (OpenSpec.ofChange fnBucketOfOwnWrong)

/-- 'laws.FnExactValidBook': WHATEVER THE INPUT: true; the input reads as it did. -/
def fnExactValidBookSpec : ChangeSpec := { name := "fnExactValidBook", fn := fun _ => fun
  | [d] => { results := [.lit (.bool true)], args := [d] }
  | _ => none }
def fnExactValidBookRow : OpenClaim := { program := "ytjcaokajkkkniab", sum := "e2e1e2fc2020e1209a027ccc960ef17c16a9ec911efa0e0cfbcf56a0e1cba771", func := "loop.example/vectorstore/laws.FnExactValidBook", spec := "fnExactValidBook", apart := false }
def FnExactValidBookSaid : Prop := fnExactValidBookRow.holds Try.pinned (OpenSpec.ofChange fnExactValidBookSpec)

/-- ITS FALSE NEIGHBOUR: 'it returns false'. Refute it at one input. -/
def fnExactValidBookWrong : ChangeSpec := { name := "fnExactValidBook", fn := fun _ => fun
  | [d] => { results := [.lit (.bool false)], args := [d] }
  | _ => none }
def FnExactValidBookWrongFalsely : Prop := fnExactValidBookRow.holds Try.pinned (OpenSpec.ofChange fnExactValidBookWrong)

/-- 'laws.FnExactEncodeVector': WHATEVER THE INPUT: true; the input reads as it did. -/
def fnExactEncodeVectorSpec : ChangeSpec := { name := "fnExactEncodeVector", fn := fun _ => fun
  | [d1, d2] => { results := [.lit (.bool true)], args := [d1, d2] }
  | _ => none }
def fnExactEncodeVectorRow : OpenClaim := { program := "ytjcaokajkkkniab", sum := "e2e1e2fc2020e1209a027ccc960ef17c16a9ec911efa0e0cfbcf56a0e1cba771", func := "loop.example/vectorstore/laws.FnExactEncodeVector", spec := "fnExactEncodeVector", apart := false }
def FnExactEncodeVectorSaid : Prop := fnExactEncodeVectorRow.holds Try.pinned (OpenSpec.ofChange fnExactEncodeVectorSpec)

/-- ITS FALSE NEIGHBOUR: 'it returns false'. Refute it at one input. -/
def fnExactEncodeVectorWrong : ChangeSpec := { name := "fnExactEncodeVector", fn := fun _ => fun
  | [d1, d2] => { results := [.lit (.bool false)], args := [d1, d2] }
  | _ => none }
def FnExactEncodeVectorWrongFalsely : Prop := fnExactEncodeVectorRow.holds Try.pinned (OpenSpec.ofChange fnExactEncodeVectorWrong)

/-- 'laws.FnExactDecodeVector': WHATEVER THE INPUT: true; the input reads as it did. -/
def fnExactDecodeVectorSpec : ChangeSpec := { name := "fnExactDecodeVector", fn := fun _ => fun
  | [d1, d2] => { results := [.lit (.bool true)], args := [d1, d2] }
  | _ => none }
def fnExactDecodeVectorRow : OpenClaim := { program := "ytjcaokajkkkniab", sum := "e2e1e2fc2020e1209a027ccc960ef17c16a9ec911efa0e0cfbcf56a0e1cba771", func := "loop.example/vectorstore/laws.FnExactDecodeVector", spec := "fnExactDecodeVector", apart := false }
def FnExactDecodeVectorSaid : Prop := fnExactDecodeVectorRow.holds Try.pinned (OpenSpec.ofChange fnExactDecodeVectorSpec)

/-- ITS FALSE NEIGHBOUR: 'it returns false'. Refute it at one input. -/
def fnExactDecodeVectorWrong : ChangeSpec := { name := "fnExactDecodeVector", fn := fun _ => fun
  | [d1, d2] => { results := [.lit (.bool false)], args := [d1, d2] }
  | _ => none }
def FnExactDecodeVectorWrongFalsely : Prop := fnExactDecodeVectorRow.holds Try.pinned (OpenSpec.ofChange fnExactDecodeVectorWrong)

/- THE SECOND FORM. 'bulk': how many values and letters a reading holds, each counted each time it is reached (what is shared counts as often as it is met; a slice's spare places count too). A statement '..UptoSaid' is the law's where the arguments, and the package variables that the reading takes, are together of bulk at most 1048576: NARROWER than '..Said'. Prove '..Said' where nothing that the law and all that it calls make is longer than what came in: it says more and counts as full. Else prove '..UptoSaid'. A law counts once. -/
mutual
def uptoBulk {H : Type} : DataW H → Nat
  | .lit (.string bytes) => bytes.length + 1
  | .lit _ => 1
  | .nil => 1
  | .ptr d => uptoBulk d + 1
  | .slice elems spare => uptoBulkAll elems + uptoBulkAll spare + 1
  | .agg parts => uptoBulkAll parts + 1
  | .iface _ d => uptoBulk d + 1
  | .map entries => uptoBulkEntries entries + 1
  | .held _ => 1
def uptoBulkAll {H : Type} : List (DataW H) → Nat
  | [] => 0
  | d :: r => uptoBulk d + uptoBulkAll r
def uptoBulkEntries {H : Type} : List (Lit × DataW H) → Nat
  | [] => 0
  | x :: r => uptoBulkEntry x + uptoBulkEntries r
def uptoBulkEntry {H : Type} : Lit × DataW H → Nat
  | (.string bytes, d) => bytes.length + uptoBulk d + 1
  | (_, d) => uptoBulk d + 1
 end
def uptoSmall : (H : Type) → List (DataW H) → Bool := fun _ ds => decide (uptoBulkAll ds ≤ 1048576)
def OpenSpec.upto (s : _root_.Go.ChangeSpec) : _root_.Go.OpenSpec := { _root_.Go.OpenSpec.ofChange s with cond := some uptoSmall }

/-- 'laws.FnBitsApartWay', WHERE WHAT IT READS IS OF BULK AT MOST 1048576: true; the input reads as it did. -/
def fnBitsApartWayUptoRow : OpenClaim := { program := "ytjcaokajkkkniab", sum := "e2e1e2fc2020e1209a027ccc960ef17c16a9ec911efa0e0cfbcf56a0e1cba771", func := "loop.example/vectorstore/laws.FnBitsApartWay", spec := "fnBitsApartWay", apart := false, narrowed := true }
def FnBitsApartWayUptoSaid : Prop := fnBitsApartWayUptoRow.holds Try.pinned (OpenSpec.upto fnBitsApartWaySpec)

/-- 'laws.FnBucketOf', WHERE WHAT IT READS IS OF BULK AT MOST 1048576: true; the input reads as it did. -/
def fnBucketOfUptoRow : OpenClaim := { program := "ytjcaokajkkkniab", sum := "e2e1e2fc2020e1209a027ccc960ef17c16a9ec911efa0e0cfbcf56a0e1cba771", func := "loop.example/vectorstore/laws.FnBucketOf", spec := "fnBucketOf", unfollowed := true, recurses := true, apart := false, narrowed := true }
def FnBucketOfUptoSaid : Prop := fnBucketOfUptoRow.holds Try.pinned (OpenSpec.upto fnBucketOfSpec)

/-- 'laws.FnBucketOfMore', WHERE WHAT IT READS IS OF BULK AT MOST 1048576: true; the input reads as it did. -/
def fnBucketOfMoreUptoRow : OpenClaim := { program := "ytjcaokajkkkniab", sum := "e2e1e2fc2020e1209a027ccc960ef17c16a9ec911efa0e0cfbcf56a0e1cba771", func := "loop.example/vectorstore/laws.FnBucketOfMore", spec := "fnBucketOfMore", unfollowed := true, recurses := true, apart := false, narrowed := true }
def FnBucketOfMoreUptoSaid : Prop := fnBucketOfMoreUptoRow.holds Try.pinned (OpenSpec.upto fnBucketOfMoreSpec)

/-- 'laws.FnEncodeVectorHalves', WHERE WHAT IT READS IS OF BULK AT MOST 1048576: true; the input reads as it did. -/
def fnEncodeVectorHalvesUptoRow : OpenClaim := { program := "ytjcaokajkkkniab", sum := "e2e1e2fc2020e1209a027ccc960ef17c16a9ec911efa0e0cfbcf56a0e1cba771", func := "loop.example/vectorstore/laws.FnEncodeVectorHalves", spec := "fnEncodeVectorHalves", apart := false, narrowed := true }
def FnEncodeVectorHalvesUptoSaid : Prop := fnEncodeVectorHalvesUptoRow.holds Try.pinned (OpenSpec.upto fnEncodeVectorHalvesSpec)

/-- 'laws.FnDecodeVectorAll', WHERE WHAT IT READS IS OF BULK AT MOST 1048576: true; the input reads as it did. -/
def fnDecodeVectorAllUptoRow : OpenClaim := { program := "ytjcaokajkkkniab", sum := "e2e1e2fc2020e1209a027ccc960ef17c16a9ec911efa0e0cfbcf56a0e1cba771", func := "loop.example/vectorstore/laws.FnDecodeVectorAll", spec := "fnDecodeVectorAll", apart := false, narrowed := true }
def FnDecodeVectorAllUptoSaid : Prop := fnDecodeVectorAllUptoRow.holds Try.pinned (OpenSpec.upto fnDecodeVectorAllSpec)

/-- 'laws.FnHashOfPlane', WHERE WHAT IT READS IS OF BULK AT MOST 1048576: true; the input reads as it did. -/
def fnHashOfPlaneUptoRow : OpenClaim := { program := "ytjcaokajkkkniab", sum := "e2e1e2fc2020e1209a027ccc960ef17c16a9ec911efa0e0cfbcf56a0e1cba771", func := "loop.example/vectorstore/laws.FnHashOfPlane", spec := "fnHashOfPlane", apart := false, narrowed := true }
def FnHashOfPlaneUptoSaid : Prop := fnHashOfPlaneUptoRow.holds Try.pinned (OpenSpec.upto fnHashOfPlaneSpec)

/-- 'laws.FnHashOfScale', WHERE WHAT IT READS IS OF BULK AT MOST 1048576: true; the input reads as it did. -/
def fnHashOfScaleUptoRow : OpenClaim := { program := "ytjcaokajkkkniab", sum := "e2e1e2fc2020e1209a027ccc960ef17c16a9ec911efa0e0cfbcf56a0e1cba771", func := "loop.example/vectorstore/laws.FnHashOfScale", spec := "fnHashOfScale", apart := false, narrowed := true }
def FnHashOfScaleUptoSaid : Prop := fnHashOfScaleUptoRow.holds Try.pinned (OpenSpec.upto fnHashOfScaleSpec)

/-- 'laws.FnBucketOfOwn', WHERE WHAT IT READS IS OF BULK AT MOST 1048576: true; the input reads as it did. -/
def fnBucketOfOwnUptoRow : OpenClaim := { program := "ytjcaokajkkkniab", sum := "e2e1e2fc2020e1209a027ccc960ef17c16a9ec911efa0e0cfbcf56a0e1cba771", func := "loop.example/vectorstore/laws.FnBucketOfOwn", spec := "fnBucketOfOwn", unfollowed := true, recurses := true, apart := false, narrowed := true }
def FnBucketOfOwnUptoSaid : Prop := fnBucketOfOwnUptoRow.holds Try.pinned (OpenSpec.upto fnBucketOfOwnSpec)

/-- 'laws.FnExactValidBook', WHERE WHAT IT READS IS OF BULK AT MOST 1048576: true; the input reads as it did. -/
def fnExactValidBookUptoRow : OpenClaim := { program := "ytjcaokajkkkniab", sum := "e2e1e2fc2020e1209a027ccc960ef17c16a9ec911efa0e0cfbcf56a0e1cba771", func := "loop.example/vectorstore/laws.FnExactValidBook", spec := "fnExactValidBook", apart := false, narrowed := true }
def FnExactValidBookUptoSaid : Prop := fnExactValidBookUptoRow.holds Try.pinned (OpenSpec.upto fnExactValidBookSpec)

/-- 'laws.FnExactEncodeVector', WHERE WHAT IT READS IS OF BULK AT MOST 1048576: true; the input reads as it did. -/
def fnExactEncodeVectorUptoRow : OpenClaim := { program := "ytjcaokajkkkniab", sum := "e2e1e2fc2020e1209a027ccc960ef17c16a9ec911efa0e0cfbcf56a0e1cba771", func := "loop.example/vectorstore/laws.FnExactEncodeVector", spec := "fnExactEncodeVector", apart := false, narrowed := true }
def FnExactEncodeVectorUptoSaid : Prop := fnExactEncodeVectorUptoRow.holds Try.pinned (OpenSpec.upto fnExactEncodeVectorSpec)

/-- 'laws.FnExactDecodeVector', WHERE WHAT IT READS IS OF BULK AT MOST 1048576: true; the input reads as it did. -/
def fnExactDecodeVectorUptoRow : OpenClaim := { program := "ytjcaokajkkkniab", sum := "e2e1e2fc2020e1209a027ccc960ef17c16a9ec911efa0e0cfbcf56a0e1cba771", func := "loop.example/vectorstore/laws.FnExactDecodeVector", spec := "fnExactDecodeVector", apart := false, narrowed := true }
def FnExactDecodeVectorUptoSaid : Prop := fnExactDecodeVectorUptoRow.holds Try.pinned (OpenSpec.upto fnExactDecodeVectorSpec)

end Rows
end Go.Proofs.Ytjcaokajkkkniab
