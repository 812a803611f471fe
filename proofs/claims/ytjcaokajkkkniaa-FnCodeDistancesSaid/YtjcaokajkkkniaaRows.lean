/-
  No cell of these rows narrows 'for every input' (looked for: loops, veiled, ifaces, maps, wideKeys, modest, calm, conditions, laid).
  DERIVED. THE GIVEN ROWS OF THIS SEAT. 10 by the template 'for every input the law returns true; each argument reads behind the call as it read before'; 0 by the template 'total and deterministic' (their statements: YtjcaokajkkkniaaTotals.lean).
  GIVEN WITH THE SEED: the statements are not yours to turn. If you find one false, say at which input.
  Laid BY PROGRAM, IN A SANDBOX (cutbox-rows.mjs): the forced cells as the released guide's own fill.sh prints them over the translation cd4daf7c5406302d… (all of the seat's roots in one cut). By AI agents, Wed Nov 11 2026. No macro, syntax, notation, axiom, sorry.
-/
import Derived.Test.YtjcaokajkkkniaaChecked
import GoSem.Claim
import GoSem.ClaimJoined
import GoSem.ClaimMapViews
import Derived.JoinedTies
import Derived.KernelRfl
namespace Go.Proofs.Ytjcaokajkkkniaa
/- THE CELL 'sum', in the pinned program and in every row, IS THE sha256 OF THE DUMP (.gsa) THAT YtjcaokajkkkniaaProg.lean LOADS. Nothing in Lean hashes anything: it is a label: what it is worth is what the hold of that sum in a sandbox is worth. -/
noncomputable def Try.pinned : Pinned := { name := "ytjcaokajkkkniaa", sum := "cd4daf7c5406302d621d8de7f897fc13ef641ef369b4c7322fb1ae9419d43e9c", checked := Try.checked }
namespace Rows
def none {H : Type} : Left H := { results := [], args := [] }

/-- 'laws.FnValidBook': WHATEVER THE INPUT: true; the input reads as it did. -/
def fnValidBookSpec : ChangeSpec := { name := "fnValidBook", fn := fun _ => fun
  | [d] => { results := [.lit (.bool true)], args := [d] }
  | _ => none }
def fnValidBookRow : OpenClaim := { program := "ytjcaokajkkkniaa", sum := "cd4daf7c5406302d621d8de7f897fc13ef641ef369b4c7322fb1ae9419d43e9c", func := "loop.example/vectorstore/laws.FnValidBook", spec := "fnValidBook", apart := false }
def FnValidBookSaid : Prop := fnValidBookRow.holds Try.pinned (OpenSpec.ofChange fnValidBookSpec)

/-- ITS FALSE NEIGHBOUR: 'it returns false'. Refute it at one input. -/
def fnValidBookWrong : ChangeSpec := { name := "fnValidBook", fn := fun _ => fun
  | [d] => { results := [.lit (.bool false)], args := [d] }
  | _ => none }
def FnValidBookWrongFalsely : Prop := fnValidBookRow.holds Try.pinned (OpenSpec.ofChange fnValidBookWrong)

/-- 'laws.FnEncodeVector': WHATEVER THE INPUT: true; the input reads as it did. -/
def fnEncodeVectorSpec : ChangeSpec := { name := "fnEncodeVector", fn := fun _ => fun
  | [d] => { results := [.lit (.bool true)], args := [d] }
  | _ => none }
def fnEncodeVectorRow : OpenClaim := { program := "ytjcaokajkkkniaa", sum := "cd4daf7c5406302d621d8de7f897fc13ef641ef369b4c7322fb1ae9419d43e9c", func := "loop.example/vectorstore/laws.FnEncodeVector", spec := "fnEncodeVector", apart := false }
def FnEncodeVectorSaid : Prop := fnEncodeVectorRow.holds Try.pinned (OpenSpec.ofChange fnEncodeVectorSpec)

/-- ITS FALSE NEIGHBOUR: 'it returns false'. Refute it at one input. -/
def fnEncodeVectorWrong : ChangeSpec := { name := "fnEncodeVector", fn := fun _ => fun
  | [d] => { results := [.lit (.bool false)], args := [d] }
  | _ => none }
def FnEncodeVectorWrongFalsely : Prop := fnEncodeVectorRow.holds Try.pinned (OpenSpec.ofChange fnEncodeVectorWrong)

/-- 'laws.FnEncodeVectorOwn': WHATEVER THE INPUT: true; the input reads as it did. -/
def fnEncodeVectorOwnSpec : ChangeSpec := { name := "fnEncodeVectorOwn", fn := fun _ => fun
  | [d] => { results := [.lit (.bool true)], args := [d] }
  | _ => none }
def fnEncodeVectorOwnRow : OpenClaim := { program := "ytjcaokajkkkniaa", sum := "cd4daf7c5406302d621d8de7f897fc13ef641ef369b4c7322fb1ae9419d43e9c", func := "loop.example/vectorstore/laws.FnEncodeVectorOwn", spec := "fnEncodeVectorOwn", apart := false }
def FnEncodeVectorOwnSaid : Prop := fnEncodeVectorOwnRow.holds Try.pinned (OpenSpec.ofChange fnEncodeVectorOwnSpec)

/-- ITS FALSE NEIGHBOUR: 'it returns false'. Refute it at one input. -/
def fnEncodeVectorOwnWrong : ChangeSpec := { name := "fnEncodeVectorOwn", fn := fun _ => fun
  | [d] => { results := [.lit (.bool false)], args := [d] }
  | _ => none }
def FnEncodeVectorOwnWrongFalsely : Prop := fnEncodeVectorOwnRow.holds Try.pinned (OpenSpec.ofChange fnEncodeVectorOwnWrong)

/-- 'laws.FnDecodeVector': WHATEVER THE INPUT: true; the input reads as it did. -/
def fnDecodeVectorSpec : ChangeSpec := { name := "fnDecodeVector", fn := fun _ => fun
  | [d] => { results := [.lit (.bool true)], args := [d] }
  | _ => none }
def fnDecodeVectorRow : OpenClaim := { program := "ytjcaokajkkkniaa", sum := "cd4daf7c5406302d621d8de7f897fc13ef641ef369b4c7322fb1ae9419d43e9c", func := "loop.example/vectorstore/laws.FnDecodeVector", spec := "fnDecodeVector", apart := false }
def FnDecodeVectorSaid : Prop := fnDecodeVectorRow.holds Try.pinned (OpenSpec.ofChange fnDecodeVectorSpec)

/-- ITS FALSE NEIGHBOUR: 'it returns false'. Refute it at one input. -/
def fnDecodeVectorWrong : ChangeSpec := { name := "fnDecodeVector", fn := fun _ => fun
  | [d] => { results := [.lit (.bool false)], args := [d] }
  | _ => none }
def FnDecodeVectorWrongFalsely : Prop := fnDecodeVectorRow.holds Try.pinned (OpenSpec.ofChange fnDecodeVectorWrong)

/-- 'laws.FnCodeDistances': WHATEVER THE INPUT: true; the input reads as it did. -/
def fnCodeDistancesSpec : ChangeSpec := { name := "fnCodeDistances", fn := fun _ => fun
  | [d] => { results := [.lit (.bool true)], args := [d] }
  | _ => none }
def fnCodeDistancesRow : OpenClaim := { program := "ytjcaokajkkkniaa", sum := "cd4daf7c5406302d621d8de7f897fc13ef641ef369b4c7322fb1ae9419d43e9c", func := "loop.example/vectorstore/laws.FnCodeDistances", spec := "fnCodeDistances", apart := false }
def FnCodeDistancesSaid : Prop := fnCodeDistancesRow.holds Try.pinned (OpenSpec.ofChange fnCodeDistancesSpec)

/-- ITS FALSE NEIGHBOUR: 'it returns false'. Refute it at one input. -/
def fnCodeDistancesWrong : ChangeSpec := { name := "fnCodeDistances", fn := fun _ => fun
  | [d] => { results := [.lit (.bool false)], args := [d] }
  | _ => none }
def FnCodeDistancesWrongFalsely : Prop := fnCodeDistancesRow.holds Try.pinned (OpenSpec.ofChange fnCodeDistancesWrong)

/-- 'laws.FnCodeDistancesSum': WHATEVER THE INPUT: true; the input reads as it did. -/
def fnCodeDistancesSumSpec : ChangeSpec := { name := "fnCodeDistancesSum", fn := fun _ => fun
  | [d] => { results := [.lit (.bool true)], args := [d] }
  | _ => none }
def fnCodeDistancesSumRow : OpenClaim := { program := "ytjcaokajkkkniaa", sum := "cd4daf7c5406302d621d8de7f897fc13ef641ef369b4c7322fb1ae9419d43e9c", func := "loop.example/vectorstore/laws.FnCodeDistancesSum", spec := "fnCodeDistancesSum", apart := false }
def FnCodeDistancesSumSaid : Prop := fnCodeDistancesSumRow.holds Try.pinned (OpenSpec.ofChange fnCodeDistancesSumSpec)

/-- ITS FALSE NEIGHBOUR: 'it returns false'. Refute it at one input. -/
def fnCodeDistancesSumWrong : ChangeSpec := { name := "fnCodeDistancesSum", fn := fun _ => fun
  | [d] => { results := [.lit (.bool false)], args := [d] }
  | _ => none }
def FnCodeDistancesSumWrongFalsely : Prop := fnCodeDistancesSumRow.holds Try.pinned (OpenSpec.ofChange fnCodeDistancesSumWrong)

/-- 'laws.FnValidPlanes': WHATEVER THE INPUT: true; the input reads as it did. -/
def fnValidPlanesSpec : ChangeSpec := { name := "fnValidPlanes", fn := fun _ => fun
  | [d] => { results := [.lit (.bool true)], args := [d] }
  | _ => none }
def fnValidPlanesRow : OpenClaim := { program := "ytjcaokajkkkniaa", sum := "cd4daf7c5406302d621d8de7f897fc13ef641ef369b4c7322fb1ae9419d43e9c", func := "loop.example/vectorstore/laws.FnValidPlanes", spec := "fnValidPlanes", apart := false }
def FnValidPlanesSaid : Prop := fnValidPlanesRow.holds Try.pinned (OpenSpec.ofChange fnValidPlanesSpec)

/-- ITS FALSE NEIGHBOUR: 'it returns false'. Refute it at one input. -/
def fnValidPlanesWrong : ChangeSpec := { name := "fnValidPlanes", fn := fun _ => fun
  | [d] => { results := [.lit (.bool false)], args := [d] }
  | _ => none }
def FnValidPlanesWrongFalsely : Prop := fnValidPlanesRow.holds Try.pinned (OpenSpec.ofChange fnValidPlanesWrong)

/-- 'laws.FnHashOf': WHATEVER THE INPUT: true; the input reads as it did. -/
def fnHashOfSpec : ChangeSpec := { name := "fnHashOf", fn := fun _ => fun
  | [d] => { results := [.lit (.bool true)], args := [d] }
  | _ => none }
def fnHashOfRow : OpenClaim := { program := "ytjcaokajkkkniaa", sum := "cd4daf7c5406302d621d8de7f897fc13ef641ef369b4c7322fb1ae9419d43e9c", func := "loop.example/vectorstore/laws.FnHashOf", spec := "fnHashOf", apart := false }
def FnHashOfSaid : Prop := fnHashOfRow.holds Try.pinned (OpenSpec.ofChange fnHashOfSpec)

/-- ITS FALSE NEIGHBOUR: 'it returns false'. Refute it at one input. -/
def fnHashOfWrong : ChangeSpec := { name := "fnHashOf", fn := fun _ => fun
  | [d] => { results := [.lit (.bool false)], args := [d] }
  | _ => none }
def FnHashOfWrongFalsely : Prop := fnHashOfRow.holds Try.pinned (OpenSpec.ofChange fnHashOfWrong)

/-- 'laws.FnHashOfOpposite': WHATEVER THE INPUT: true; the input reads as it did. -/
def fnHashOfOppositeSpec : ChangeSpec := { name := "fnHashOfOpposite", fn := fun _ => fun
  | [d] => { results := [.lit (.bool true)], args := [d] }
  | _ => none }
def fnHashOfOppositeRow : OpenClaim := { program := "ytjcaokajkkkniaa", sum := "cd4daf7c5406302d621d8de7f897fc13ef641ef369b4c7322fb1ae9419d43e9c", func := "loop.example/vectorstore/laws.FnHashOfOpposite", spec := "fnHashOfOpposite", apart := false }
def FnHashOfOppositeSaid : Prop := fnHashOfOppositeRow.holds Try.pinned (OpenSpec.ofChange fnHashOfOppositeSpec)

/-- ITS FALSE NEIGHBOUR: 'it returns false'. Refute it at one input. -/
def fnHashOfOppositeWrong : ChangeSpec := { name := "fnHashOfOpposite", fn := fun _ => fun
  | [d] => { results := [.lit (.bool false)], args := [d] }
  | _ => none }
def FnHashOfOppositeWrongFalsely : Prop := fnHashOfOppositeRow.holds Try.pinned (OpenSpec.ofChange fnHashOfOppositeWrong)

/-- 'laws.FnBitsApart': WHATEVER THE INPUT: true; the input reads as it did. -/
def fnBitsApartSpec : ChangeSpec := { name := "fnBitsApart", fn := fun _ => fun
  | [d] => { results := [.lit (.bool true)], args := [d] }
  | _ => none }
def fnBitsApartRow : OpenClaim := { program := "ytjcaokajkkkniaa", sum := "cd4daf7c5406302d621d8de7f897fc13ef641ef369b4c7322fb1ae9419d43e9c", func := "loop.example/vectorstore/laws.FnBitsApart", spec := "fnBitsApart", apart := false }
def FnBitsApartSaid : Prop := fnBitsApartRow.holds Try.pinned (OpenSpec.ofChange fnBitsApartSpec)

/-- ITS FALSE NEIGHBOUR: 'it returns false'. Refute it at one input. -/
def fnBitsApartWrong : ChangeSpec := { name := "fnBitsApart", fn := fun _ => fun
  | [d] => { results := [.lit (.bool false)], args := [d] }
  | _ => none }
def FnBitsApartWrongFalsely : Prop := fnBitsApartRow.holds Try.pinned (OpenSpec.ofChange fnBitsApartWrong)

/- THE SECOND FORM. 'bulk': how many values and letters a reading holds, each counted each time it is reached (what is shared counts as often as it is met; a slice's spare places count too). A statement '..UptoSaid' is the law's where the arguments, and the package variables that the reading takes, are together of bulk at most 1048576: NARROWER than '..Said'. Prove '..Said' where nothing that the law and all that it calls make is longer than what came in: it says more and counts as full. Else prove '..UptoSaid'. A law counts once. -/
mutual
def uptoBulk {H : Type} : DataW H → Nat
  | .lit (.string bytes) => bytes.length + 1
  | .lit _ => 1
  | .nil => 1
  | .ptr d => uptoBulk d + 1
  | .slice elems spare => uptoBulkAll elems + uptoBulkAll spare + 1
  | .agg parts => uptoBulkAll parts + 1
  | .iface _ d => uptoBulk d + 1
  | .map entries => uptoBulkEntries entries + 1
  | .held _ => 1
def uptoBulkAll {H : Type} : List (DataW H) → Nat
  | [] => 0
  | d :: r => uptoBulk d + uptoBulkAll r
def uptoBulkEntries {H : Type} : List (Lit × DataW H) → Nat
  | [] => 0
  | x :: r => uptoBulkEntry x + uptoBulkEntries r
def uptoBulkEntry {H : Type} : Lit × DataW H → Nat
  | (.string bytes, d) => bytes.length + uptoBulk d + 1
  | (_, d) => uptoBulk d + 1
 end
def uptoSmall : (H : Type) → List (DataW H) → Bool := fun _ ds => decide (uptoBulkAll ds ≤ 1048576)
def OpenSpec.upto (s : _root_.Go.ChangeSpec) : _root_.Go.OpenSpec := { _root_.Go.OpenSpec.ofChange s with cond := some uptoSmall }

/-- 'laws.FnValidBook', WHERE WHAT IT READS IS OF BULK AT MOST 1048576: true; the input reads as it did. -/
def fnValidBookUptoRow : OpenClaim := { program := "ytjcaokajkkkniaa", sum := "cd4daf7c5406302d621d8de7f897fc13ef641ef369b4c7322fb1ae9419d43e9c", func := "loop.example/vectorstore/laws.FnValidBook", spec := "fnValidBook", apart := false, narrowed := true }
def FnValidBookUptoSaid : Prop := fnValidBookUptoRow.holds Try.pinned (OpenSpec.upto fnValidBookSpec)

/-- 'laws.FnEncodeVector', WHERE WHAT IT READS IS OF BULK AT MOST 1048576: true; the input reads as it did. -/
def fnEncodeVectorUptoRow : OpenClaim := { program := "ytjcaokajkkkniaa", sum := "cd4daf7c5406302d621d8de7f897fc13ef641ef369b4c7322fb1ae9419d43e9c", func := "loop.example/vectorstore/laws.FnEncodeVector", spec := "fnEncodeVector", apart := false, narrowed := true }
def FnEncodeVectorUptoSaid : Prop := fnEncodeVectorUptoRow.holds Try.pinned (OpenSpec.upto fnEncodeVectorSpec)

/-- 'laws.FnEncodeVectorOwn', WHERE WHAT IT READS IS OF BULK AT MOST 1048576: true; the input reads as it did. -/
def fnEncodeVectorOwnUptoRow : OpenClaim := { program := "ytjcaokajkkkniaa", sum := "cd4daf7c5406302d621d8de7f897fc13ef641ef369b4c7322fb1ae9419d43e9c", func := "loop.example/vectorstore/laws.FnEncodeVectorOwn", spec := "fnEncodeVectorOwn", apart := false, narrowed := true }
def FnEncodeVectorOwnUptoSaid : Prop := fnEncodeVectorOwnUptoRow.holds Try.pinned (OpenSpec.upto fnEncodeVectorOwnSpec)

/-- 'laws.FnDecodeVector', WHERE WHAT IT READS IS OF BULK AT MOST 1048576: true; the input reads as it did. -/
def fnDecodeVectorUptoRow : OpenClaim := { program := "ytjcaokajkkkniaa", sum := "cd4daf7c5406302d621d8de7f897fc13ef641ef369b4c7322fb1ae9419d43e9c", func := "loop.example/vectorstore/laws.FnDecodeVector", spec := "fnDecodeVector", apart := false, narrowed := true }
def FnDecodeVectorUptoSaid : Prop := fnDecodeVectorUptoRow.holds Try.pinned (OpenSpec.upto fnDecodeVectorSpec)

/-- 'laws.FnCodeDistances', WHERE WHAT IT READS IS OF BULK AT MOST 1048576: true; the input reads as it did. -/
def fnCodeDistancesUptoRow : OpenClaim := { program := "ytjcaokajkkkniaa", sum := "cd4daf7c5406302d621d8de7f897fc13ef641ef369b4c7322fb1ae9419d43e9c", func := "loop.example/vectorstore/laws.FnCodeDistances", spec := "fnCodeDistances", apart := false, narrowed := true }
def FnCodeDistancesUptoSaid : Prop := fnCodeDistancesUptoRow.holds Try.pinned (OpenSpec.upto fnCodeDistancesSpec)

/-- 'laws.FnCodeDistancesSum', WHERE WHAT IT READS IS OF BULK AT MOST 1048576: true; the input reads as it did. -/
def fnCodeDistancesSumUptoRow : OpenClaim := { program := "ytjcaokajkkkniaa", sum := "cd4daf7c5406302d621d8de7f897fc13ef641ef369b4c7322fb1ae9419d43e9c", func := "loop.example/vectorstore/laws.FnCodeDistancesSum", spec := "fnCodeDistancesSum", apart := false, narrowed := true }
def FnCodeDistancesSumUptoSaid : Prop := fnCodeDistancesSumUptoRow.holds Try.pinned (OpenSpec.upto fnCodeDistancesSumSpec)

/-- 'laws.FnValidPlanes', WHERE WHAT IT READS IS OF BULK AT MOST 1048576: true; the input reads as it did. -/
def fnValidPlanesUptoRow : OpenClaim := { program := "ytjcaokajkkkniaa", sum := "cd4daf7c5406302d621d8de7f897fc13ef641ef369b4c7322fb1ae9419d43e9c", func := "loop.example/vectorstore/laws.FnValidPlanes", spec := "fnValidPlanes", apart := false, narrowed := true }
def FnValidPlanesUptoSaid : Prop := fnValidPlanesUptoRow.holds Try.pinned (OpenSpec.upto fnValidPlanesSpec)

/-- 'laws.FnHashOf', WHERE WHAT IT READS IS OF BULK AT MOST 1048576: true; the input reads as it did. -/
def fnHashOfUptoRow : OpenClaim := { program := "ytjcaokajkkkniaa", sum := "cd4daf7c5406302d621d8de7f897fc13ef641ef369b4c7322fb1ae9419d43e9c", func := "loop.example/vectorstore/laws.FnHashOf", spec := "fnHashOf", apart := false, narrowed := true }
def FnHashOfUptoSaid : Prop := fnHashOfUptoRow.holds Try.pinned (OpenSpec.upto fnHashOfSpec)

/-- 'laws.FnHashOfOpposite', WHERE WHAT IT READS IS OF BULK AT MOST 1048576: true; the input reads as it did. -/
def fnHashOfOppositeUptoRow : OpenClaim := { program := "ytjcaokajkkkniaa", sum := "cd4daf7c5406302d621d8de7f897fc13ef641ef369b4c7322fb1ae9419d43e9c", func := "loop.example/vectorstore/laws.FnHashOfOpposite", spec := "fnHashOfOpposite", apart := false, narrowed := true }
def FnHashOfOppositeUptoSaid : Prop := fnHashOfOppositeUptoRow.holds Try.pinned (OpenSpec.upto fnHashOfOppositeSpec)

/-- 'laws.FnBitsApart', WHERE WHAT IT READS IS OF BULK AT MOST 1048576: true; the input reads as it did. -/
def fnBitsApartUptoRow : OpenClaim := { program := "ytjcaokajkkkniaa", sum := "cd4daf7c5406302d621d8de7f897fc13ef641ef369b4c7322fb1ae9419d43e9c", func := "loop.example/vectorstore/laws.FnBitsApart", spec := "fnBitsApart", apart := false, narrowed := true }
def FnBitsApartUptoSaid : Prop := fnBitsApartUptoRow.holds Try.pinned (OpenSpec.upto fnBitsApartSpec)

end Rows
end Go.Proofs.Ytjcaokajkkkniaa
