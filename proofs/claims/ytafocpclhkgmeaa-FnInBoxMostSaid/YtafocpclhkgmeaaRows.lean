/-
  No cell of these rows narrows 'for every input' (looked for: loops, veiled, ifaces, maps, wideKeys, modest, calm, conditions, laid).
  DERIVED. THE GIVEN ROWS OF THIS SEAT. 12 by the template 'for every input the law returns true; each argument reads behind the call as it read before'; 0 by the template 'total and deterministic' (their statements: YtafocpclhkgmeaaTotals.lean).
  GIVEN WITH THE SEED: the statements are not yours to turn. If you find one false, say at which input.
  Laid BY PROGRAM, IN A SANDBOX (cutbox-rows.mjs): the forced cells as the released guide's own fill.sh prints them over the translation 450d245603b1ca2b… (all of the seat's roots in one cut). By AI agents, Wed Nov 11 2026. No macro, syntax, notation, axiom, sorry.
-/
import Derived.Test.YtafocpclhkgmeaaChecked
import GoSem.Claim
import GoSem.ClaimJoined
import GoSem.ClaimMapViews
import Derived.JoinedTies
import Derived.KernelRfl
namespace Go.Proofs.Ytafocpclhkgmeaa
/- THE CELL 'sum', in the pinned program and in every row, IS THE sha256 OF THE DUMP (.gsa) THAT YtafocpclhkgmeaaProg.lean LOADS. Nothing in Lean hashes anything: it is a label: what it is worth is what the hold of that sum in a sandbox is worth. -/
noncomputable def Try.pinned : Pinned := { name := "ytafocpclhkgmeaa", sum := "450d245603b1ca2b5eeee13197d1d008309257eee8fb707dd395b1ac0324d8eb", checked := Try.checked }
namespace Rows
def none {H : Type} : Left H := { results := [], args := [] }

/-- 'laws.FnNearestDistance': WHATEVER THE INPUT: true; the input reads as it did. -/
def fnNearestDistanceSpec : ChangeSpec := { name := "fnNearestDistance", fn := fun _ => fun
  | [d] => { results := [.lit (.bool true)], args := [d] }
  | _ => none }
def fnNearestDistanceRow : OpenClaim := { program := "ytafocpclhkgmeaa", sum := "450d245603b1ca2b5eeee13197d1d008309257eee8fb707dd395b1ac0324d8eb", func := "loop.example/vectorstore/laws.FnNearestDistance", spec := "fnNearestDistance", unfollowed := true, recurses := true, apart := false }
def FnNearestDistanceSaid : Prop := fnNearestDistanceRow.holds Try.pinned (OpenSpec.ofChange fnNearestDistanceSpec)

/-- ITS FALSE NEIGHBOUR: 'it returns false'. Refute it at one input. -/
def fnNearestDistanceWrong : ChangeSpec := { name := "fnNearestDistance", fn := fun _ => fun
  | [d] => { results := [.lit (.bool false)], args := [d] }
  | _ => none }
def FnNearestDistanceWrongFalsely : Prop := fnNearestDistanceRow.holds Try.pinned (OpenSpec.ofChange fnNearestDistanceWrong)

/-- 'laws.FnNearestMore': WHATEVER THE INPUT: true; the input reads as it did. -/
def fnNearestMoreSpec : ChangeSpec := { name := "fnNearestMore", fn := fun _ => fun
  | [d] => { results := [.lit (.bool true)], args := [d] }
  | _ => none }
def fnNearestMoreRow : OpenClaim := { program := "ytafocpclhkgmeaa", sum := "450d245603b1ca2b5eeee13197d1d008309257eee8fb707dd395b1ac0324d8eb", func := "loop.example/vectorstore/laws.FnNearestMore", spec := "fnNearestMore", unfollowed := true, recurses := true, apart := false }
def FnNearestMoreSaid : Prop := fnNearestMoreRow.holds Try.pinned (OpenSpec.ofChange fnNearestMoreSpec)

/-- ITS FALSE NEIGHBOUR: 'it returns false'. Refute it at one input. -/
def fnNearestMoreWrong : ChangeSpec := { name := "fnNearestMore", fn := fun _ => fun
  | [d] => { results := [.lit (.bool false)], args := [d] }
  | _ => none }
def FnNearestMoreWrongFalsely : Prop := fnNearestMoreRow.holds Try.pinned (OpenSpec.ofChange fnNearestMoreWrong)

/-- 'laws.FnNearestOwn': WHATEVER THE INPUT: true; the input reads as it did. -/
def fnNearestOwnSpec : ChangeSpec := { name := "fnNearestOwn", fn := fun _ => fun
  | [d] => { results := [.lit (.bool true)], args := [d] }
  | _ => none }
def fnNearestOwnRow : OpenClaim := { program := "ytafocpclhkgmeaa", sum := "450d245603b1ca2b5eeee13197d1d008309257eee8fb707dd395b1ac0324d8eb", func := "loop.example/vectorstore/laws.FnNearestOwn", spec := "fnNearestOwn", unfollowed := true, recurses := true, apart := false }
def FnNearestOwnSaid : Prop := fnNearestOwnRow.holds Try.pinned (OpenSpec.ofChange fnNearestOwnSpec)

/-- ITS FALSE NEIGHBOUR: 'it returns false'. Refute it at one input. -/
def fnNearestOwnWrong : ChangeSpec := { name := "fnNearestOwn", fn := fun _ => fun
  | [d] => { results := [.lit (.bool false)], args := [d] }
  | _ => none }
def FnNearestOwnWrongFalsely : Prop := fnNearestOwnRow.holds Try.pinned (OpenSpec.ofChange fnNearestOwnWrong)

/-- 'laws.FnWithinDistNearest': WHATEVER THE INPUT: true; the input reads as it did. -/
def fnWithinDistNearestSpec : ChangeSpec := { name := "fnWithinDistNearest", fn := fun _ => fun
  | [d] => { results := [.lit (.bool true)], args := [d] }
  | _ => none }
def fnWithinDistNearestRow : OpenClaim := { program := "ytafocpclhkgmeaa", sum := "450d245603b1ca2b5eeee13197d1d008309257eee8fb707dd395b1ac0324d8eb", func := "loop.example/vectorstore/laws.FnWithinDistNearest", spec := "fnWithinDistNearest", unfollowed := true, recurses := true, apart := false }
def FnWithinDistNearestSaid : Prop := fnWithinDistNearestRow.holds Try.pinned (OpenSpec.ofChange fnWithinDistNearestSpec)

/-- ITS FALSE NEIGHBOUR: 'it returns false'. Refute it at one input. -/
def fnWithinDistNearestWrong : ChangeSpec := { name := "fnWithinDistNearest", fn := fun _ => fun
  | [d] => { results := [.lit (.bool false)], args := [d] }
  | _ => none }
def FnWithinDistNearestWrongFalsely : Prop := fnWithinDistNearestRow.holds Try.pinned (OpenSpec.ofChange fnWithinDistNearestWrong)

/-- 'laws.FnInBoxMost': WHATEVER THE INPUT: true; the input reads as it did. -/
def fnInBoxMostSpec : ChangeSpec := { name := "fnInBoxMost", fn := fun _ => fun
  | [d] => { results := [.lit (.bool true)], args := [d] }
  | _ => none }
def fnInBoxMostRow : OpenClaim := { program := "ytafocpclhkgmeaa", sum := "450d245603b1ca2b5eeee13197d1d008309257eee8fb707dd395b1ac0324d8eb", func := "loop.example/vectorstore/laws.FnInBoxMost", spec := "fnInBoxMost", unfollowed := true, recurses := true, apart := false }
def FnInBoxMostSaid : Prop := fnInBoxMostRow.holds Try.pinned (OpenSpec.ofChange fnInBoxMostSpec)

/-- ITS FALSE NEIGHBOUR: 'it returns false'. Refute it at one input. -/
def fnInBoxMostWrong : ChangeSpec := { name := "fnInBoxMost", fn := fun _ => fun
  | [d] => { results := [.lit (.bool false)], args := [d] }
  | _ => none }
def FnInBoxMostWrongFalsely : Prop := fnInBoxMostRow.holds Try.pinned (OpenSpec.ofChange fnInBoxMostWrong)

/-- 'laws.FnClosestPairNearest': WHATEVER THE INPUT: true; the input reads as it did. -/
def fnClosestPairNearestSpec : ChangeSpec := { name := "fnClosestPairNearest", fn := fun _ => fun
  | [d] => { results := [.lit (.bool true)], args := [d] }
  | _ => none }
def fnClosestPairNearestRow : OpenClaim := { program := "ytafocpclhkgmeaa", sum := "450d245603b1ca2b5eeee13197d1d008309257eee8fb707dd395b1ac0324d8eb", func := "loop.example/vectorstore/laws.FnClosestPairNearest", spec := "fnClosestPairNearest", unfollowed := true, recurses := true, apart := false }
def FnClosestPairNearestSaid : Prop := fnClosestPairNearestRow.holds Try.pinned (OpenSpec.ofChange fnClosestPairNearestSpec)

/-- ITS FALSE NEIGHBOUR: 'it returns false'. Refute it at one input. -/
def fnClosestPairNearestWrong : ChangeSpec := { name := "fnClosestPairNearest", fn := fun _ => fun
  | [d] => { results := [.lit (.bool false)], args := [d] }
  | _ => none }
def FnClosestPairNearestWrongFalsely : Prop := fnClosestPairNearestRow.holds Try.pinned (OpenSpec.ofChange fnClosestPairNearestWrong)

/-- 'laws.FnNearestPut': WHATEVER THE INPUT: true; the input reads as it did. -/
def fnNearestPutSpec : ChangeSpec := { name := "fnNearestPut", fn := fun _ => fun
  | [d] => { results := [.lit (.bool true)], args := [d] }
  | _ => none }
def fnNearestPutRow : OpenClaim := { program := "ytafocpclhkgmeaa", sum := "450d245603b1ca2b5eeee13197d1d008309257eee8fb707dd395b1ac0324d8eb", func := "loop.example/vectorstore/laws.FnNearestPut", spec := "fnNearestPut", inPlace := ["slices.overlaps[loop.example/vectorstore/impl.Item]"], unfollowed := true, recurses := true, apart := false }
def FnNearestPutSaid : Prop := fnNearestPutRow.holds Try.pinned (OpenSpec.ofChange fnNearestPutSpec)

/-- ITS FALSE NEIGHBOUR: 'it returns false'. Refute it at one input. -/
def fnNearestPutWrong : ChangeSpec := { name := "fnNearestPut", fn := fun _ => fun
  | [d] => { results := [.lit (.bool false)], args := [d] }
  | _ => none }
def FnNearestPutWrongFalsely : Prop := fnNearestPutRow.holds Try.pinned (OpenSpec.ofChange fnNearestPutWrong)

/-- 'laws.FnNearestDrop': WHATEVER THE INPUT: true; the input reads as it did. -/
def fnNearestDropSpec : ChangeSpec := { name := "fnNearestDrop", fn := fun _ => fun
  | [d] => { results := [.lit (.bool true)], args := [d] }
  | _ => none }
def fnNearestDropRow : OpenClaim := { program := "ytafocpclhkgmeaa", sum := "450d245603b1ca2b5eeee13197d1d008309257eee8fb707dd395b1ac0324d8eb", func := "loop.example/vectorstore/laws.FnNearestDrop", spec := "fnNearestDrop", unfollowed := true, recurses := true, apart := false }
def FnNearestDropSaid : Prop := fnNearestDropRow.holds Try.pinned (OpenSpec.ofChange fnNearestDropSpec)

/-- ITS FALSE NEIGHBOUR: 'it returns false'. Refute it at one input. -/
def fnNearestDropWrong : ChangeSpec := { name := "fnNearestDrop", fn := fun _ => fun
  | [d] => { results := [.lit (.bool false)], args := [d] }
  | _ => none }
def FnNearestDropWrongFalsely : Prop := fnNearestDropRow.holds Try.pinned (OpenSpec.ofChange fnNearestDropWrong)

/-- 'laws.FnWithinDistMore': WHATEVER THE INPUT: true; the input reads as it did. -/
def fnWithinDistMoreSpec : ChangeSpec := { name := "fnWithinDistMore", fn := fun _ => fun
  | [d] => { results := [.lit (.bool true)], args := [d] }
  | _ => none }
def fnWithinDistMoreRow : OpenClaim := { program := "ytafocpclhkgmeaa", sum := "450d245603b1ca2b5eeee13197d1d008309257eee8fb707dd395b1ac0324d8eb", func := "loop.example/vectorstore/laws.FnWithinDistMore", spec := "fnWithinDistMore", unfollowed := true, recurses := true, apart := false }
def FnWithinDistMoreSaid : Prop := fnWithinDistMoreRow.holds Try.pinned (OpenSpec.ofChange fnWithinDistMoreSpec)

/-- ITS FALSE NEIGHBOUR: 'it returns false'. Refute it at one input. -/
def fnWithinDistMoreWrong : ChangeSpec := { name := "fnWithinDistMore", fn := fun _ => fun
  | [d] => { results := [.lit (.bool false)], args := [d] }
  | _ => none }
def FnWithinDistMoreWrongFalsely : Prop := fnWithinDistMoreRow.holds Try.pinned (OpenSpec.ofChange fnWithinDistMoreWrong)

/-- 'laws.FnInBoxOne': WHATEVER THE INPUT: true; the input reads as it did. -/
def fnInBoxOneSpec : ChangeSpec := { name := "fnInBoxOne", fn := fun _ => fun
  | [d] => { results := [.lit (.bool true)], args := [d] }
  | _ => none }
def fnInBoxOneRow : OpenClaim := { program := "ytafocpclhkgmeaa", sum := "450d245603b1ca2b5eeee13197d1d008309257eee8fb707dd395b1ac0324d8eb", func := "loop.example/vectorstore/laws.FnInBoxOne", spec := "fnInBoxOne", unfollowed := true, recurses := true, apart := false }
def FnInBoxOneSaid : Prop := fnInBoxOneRow.holds Try.pinned (OpenSpec.ofChange fnInBoxOneSpec)

/-- ITS FALSE NEIGHBOUR: 'it returns false'. Refute it at one input. -/
def fnInBoxOneWrong : ChangeSpec := { name := "fnInBoxOne", fn := fun _ => fun
  | [d] => { results := [.lit (.bool false)], args := [d] }
  | _ => none }
def FnInBoxOneWrongFalsely : Prop := fnInBoxOneRow.holds Try.pinned (OpenSpec.ofChange fnInBoxOneWrong)

/-- 'laws.FnExactNearest': WHATEVER THE INPUT: true; the input reads as it did. -/
def fnExactNearestSpec : ChangeSpec := { name := "fnExactNearest", fn := fun _ => fun
  | [d1, d2, d3, d4] => { results := [.lit (.bool true)], args := [d1, d2, d3, d4] }
  | _ => none }
def fnExactNearestRow : OpenClaim := { program := "ytafocpclhkgmeaa", sum := "450d245603b1ca2b5eeee13197d1d008309257eee8fb707dd395b1ac0324d8eb", func := "loop.example/vectorstore/laws.FnExactNearest", spec := "fnExactNearest", unfollowed := true, recurses := true, apart := false }
def FnExactNearestSaid : Prop := fnExactNearestRow.holds Try.pinned (OpenSpec.ofChange fnExactNearestSpec)

/-- ITS FALSE NEIGHBOUR: 'it returns false'. Refute it at one input. -/
def fnExactNearestWrong : ChangeSpec := { name := "fnExactNearest", fn := fun _ => fun
  | [d1, d2, d3, d4] => { results := [.lit (.bool false)], args := [d1, d2, d3, d4] }
  | _ => none }
def FnExactNearestWrongFalsely : Prop := fnExactNearestRow.holds Try.pinned (OpenSpec.ofChange fnExactNearestWrong)

/-- 'laws.FnExactWithinDist': WHATEVER THE INPUT: true; the input reads as it did. -/
def fnExactWithinDistSpec : ChangeSpec := { name := "fnExactWithinDist", fn := fun _ => fun
  | [d1, d2, d3, d4] => { results := [.lit (.bool true)], args := [d1, d2, d3, d4] }
  | _ => none }
def fnExactWithinDistRow : OpenClaim := { program := "ytafocpclhkgmeaa", sum := "450d245603b1ca2b5eeee13197d1d008309257eee8fb707dd395b1ac0324d8eb", func := "loop.example/vectorstore/laws.FnExactWithinDist", spec := "fnExactWithinDist", unfollowed := true, recurses := true, apart := false }
def FnExactWithinDistSaid : Prop := fnExactWithinDistRow.holds Try.pinned (OpenSpec.ofChange fnExactWithinDistSpec)

/-- ITS FALSE NEIGHBOUR: 'it returns false'. Refute it at one input. -/
def fnExactWithinDistWrong : ChangeSpec := { name := "fnExactWithinDist", fn := fun _ => fun
  | [d1, d2, d3, d4] => { results := [.lit (.bool false)], args := [d1, d2, d3, d4] }
  | _ => none }
def FnExactWithinDistWrongFalsely : Prop := fnExactWithinDistRow.holds Try.pinned (OpenSpec.ofChange fnExactWithinDistWrong)

/- THE SECOND FORM. 'bulk': how many values and letters a reading holds, each counted each time it is reached (what is shared counts as often as it is met; a slice's spare places count too). A statement '..UptoSaid' is the law's where the arguments, and the package variables that the reading takes, are together of bulk at most 1048576: NARROWER than '..Said'. Prove '..Said' where nothing that the law and all that it calls make is longer than what came in: it says more and counts as full. Else prove '..UptoSaid'. A law counts once. -/
mutual
def uptoBulk {H : Type} : DataW H → Nat
  | .lit (.string bytes) => bytes.length + 1
  | .lit _ => 1
  | .nil => 1
  | .ptr d => uptoBulk d + 1
  | .slice elems spare => uptoBulkAll elems + uptoBulkAll spare + 1
  | .agg parts => uptoBulkAll parts + 1
  | .iface _ d => uptoBulk d + 1
  | .map entries => uptoBulkEntries entries + 1
  | .held _ => 1
def uptoBulkAll {H : Type} : List (DataW H) → Nat
  | [] => 0
  | d :: r => uptoBulk d + uptoBulkAll r
def uptoBulkEntries {H : Type} : List (Lit × DataW H) → Nat
  | [] => 0
  | x :: r => uptoBulkEntry x + uptoBulkEntries r
def uptoBulkEntry {H : Type} : Lit × DataW H → Nat
  | (.string bytes, d) => bytes.length + uptoBulk d + 1
  | (_, d) => uptoBulk d + 1
 end
def uptoSmall : (H : Type) → List (DataW H) → Bool := fun _ ds => decide (uptoBulkAll ds ≤ 1048576)
def OpenSpec.upto (s : _root_.Go.ChangeSpec) : _root_.Go.OpenSpec := { _root_.Go.OpenSpec.ofChange s with cond := some uptoSmall }

/-- 'laws.FnNearestDistance', WHERE WHAT IT READS IS OF BULK AT MOST 1048576: true; the input reads as it did. -/
def fnNearestDistanceUptoRow : OpenClaim := { program := "ytafocpclhkgmeaa", sum := "450d245603b1ca2b5eeee13197d1d008309257eee8fb707dd395b1ac0324d8eb", func := "loop.example/vectorstore/laws.FnNearestDistance", spec := "fnNearestDistance", unfollowed := true, recurses := true, apart := false, narrowed := true }
def FnNearestDistanceUptoSaid : Prop := fnNearestDistanceUptoRow.holds Try.pinned (OpenSpec.upto fnNearestDistanceSpec)

/-- 'laws.FnNearestMore', WHERE WHAT IT READS IS OF BULK AT MOST 1048576: true; the input reads as it did. -/
def fnNearestMoreUptoRow : OpenClaim := { program := "ytafocpclhkgmeaa", sum := "450d245603b1ca2b5eeee13197d1d008309257eee8fb707dd395b1ac0324d8eb", func := "loop.example/vectorstore/laws.FnNearestMore", spec := "fnNearestMore", unfollowed := true, recurses := true, apart := false, narrowed := true }
def FnNearestMoreUptoSaid : Prop := fnNearestMoreUptoRow.holds Try.pinned (OpenSpec.upto fnNearestMoreSpec)

/-- 'laws.FnNearestOwn', WHERE WHAT IT READS IS OF BULK AT MOST 1048576: true; the input reads as it did. -/
def fnNearestOwnUptoRow : OpenClaim := { program := "ytafocpclhkgmeaa", sum := "450d245603b1ca2b5eeee13197d1d008309257eee8fb707dd395b1ac0324d8eb", func := "loop.example/vectorstore/laws.FnNearestOwn", spec := "fnNearestOwn", unfollowed := true, recurses := true, apart := false, narrowed := true }
def FnNearestOwnUptoSaid : Prop := fnNearestOwnUptoRow.holds Try.pinned (OpenSpec.upto fnNearestOwnSpec)

/-- 'laws.FnWithinDistNearest', WHERE WHAT IT READS IS OF BULK AT MOST 1048576: true; the input reads as it did. -/
def fnWithinDistNearestUptoRow : OpenClaim := { program := "ytafocpclhkgmeaa", sum := "450d245603b1ca2b5eeee13197d1d008309257eee8fb707dd395b1ac0324d8eb", func := "loop.example/vectorstore/laws.FnWithinDistNearest", spec := "fnWithinDistNearest", unfollowed := true, recurses := true, apart := false, narrowed := true }
def FnWithinDistNearestUptoSaid : Prop := fnWithinDistNearestUptoRow.holds Try.pinned (OpenSpec.upto fnWithinDistNearestSpec)

/-- 'laws.FnInBoxMost', WHERE WHAT IT READS IS OF BULK AT MOST 1048576: true; the input reads as it did. -/
def fnInBoxMostUptoRow : OpenClaim := { program := "ytafocpclhkgmeaa", sum := "450d245603b1ca2b5eeee13197d1d008309257eee8fb707dd395b1ac0324d8eb", func := "loop.example/vectorstore/laws.FnInBoxMost", spec := "fnInBoxMost", unfollowed := true, recurses := true, apart := false, narrowed := true }
def FnInBoxMostUptoSaid : Prop := fnInBoxMostUptoRow.holds Try.pinned (OpenSpec.upto fnInBoxMostSpec)

/-- 'laws.FnClosestPairNearest', WHERE WHAT IT READS IS OF BULK AT MOST 1048576: true; the input reads as it did. -/
def fnClosestPairNearestUptoRow : OpenClaim := { program := "ytafocpclhkgmeaa", sum := "450d245603b1ca2b5eeee13197d1d008309257eee8fb707dd395b1ac0324d8eb", func := "loop.example/vectorstore/laws.FnClosestPairNearest", spec := "fnClosestPairNearest", unfollowed := true, recurses := true, apart := false, narrowed := true }
def FnClosestPairNearestUptoSaid : Prop := fnClosestPairNearestUptoRow.holds Try.pinned (OpenSpec.upto fnClosestPairNearestSpec)

/-- 'laws.FnNearestPut', WHERE WHAT IT READS IS OF BULK AT MOST 1048576: true; the input reads as it did. -/
def fnNearestPutUptoRow : OpenClaim := { program := "ytafocpclhkgmeaa", sum := "450d245603b1ca2b5eeee13197d1d008309257eee8fb707dd395b1ac0324d8eb", func := "loop.example/vectorstore/laws.FnNearestPut", spec := "fnNearestPut", inPlace := ["slices.overlaps[loop.example/vectorstore/impl.Item]"], unfollowed := true, recurses := true, apart := false, narrowed := true }
def FnNearestPutUptoSaid : Prop := fnNearestPutUptoRow.holds Try.pinned (OpenSpec.upto fnNearestPutSpec)

/-- 'laws.FnNearestDrop', WHERE WHAT IT READS IS OF BULK AT MOST 1048576: true; the input reads as it did. -/
def fnNearestDropUptoRow : OpenClaim := { program := "ytafocpclhkgmeaa", sum := "450d245603b1ca2b5eeee13197d1d008309257eee8fb707dd395b1ac0324d8eb", func := "loop.example/vectorstore/laws.FnNearestDrop", spec := "fnNearestDrop", unfollowed := true, recurses := true, apart := false, narrowed := true }
def FnNearestDropUptoSaid : Prop := fnNearestDropUptoRow.holds Try.pinned (OpenSpec.upto fnNearestDropSpec)

/-- 'laws.FnWithinDistMore', WHERE WHAT IT READS IS OF BULK AT MOST 1048576: true; the input reads as it did. -/
def fnWithinDistMoreUptoRow : OpenClaim := { program := "ytafocpclhkgmeaa", sum := "450d245603b1ca2b5eeee13197d1d008309257eee8fb707dd395b1ac0324d8eb", func := "loop.example/vectorstore/laws.FnWithinDistMore", spec := "fnWithinDistMore", unfollowed := true, recurses := true, apart := false, narrowed := true }
def FnWithinDistMoreUptoSaid : Prop := fnWithinDistMoreUptoRow.holds Try.pinned (OpenSpec.upto fnWithinDistMoreSpec)

/-- 'laws.FnInBoxOne', WHERE WHAT IT READS IS OF BULK AT MOST 1048576: true; the input reads as it did. -/
def fnInBoxOneUptoRow : OpenClaim := { program := "ytafocpclhkgmeaa", sum := "450d245603b1ca2b5eeee13197d1d008309257eee8fb707dd395b1ac0324d8eb", func := "loop.example/vectorstore/laws.FnInBoxOne", spec := "fnInBoxOne", unfollowed := true, recurses := true, apart := false, narrowed := true }
def FnInBoxOneUptoSaid : Prop := fnInBoxOneUptoRow.holds Try.pinned (OpenSpec.upto fnInBoxOneSpec)

/-- 'laws.FnExactNearest', WHERE WHAT IT READS IS OF BULK AT MOST 1048576: true; the input reads as it did. -/
def fnExactNearestUptoRow : OpenClaim := { program := "ytafocpclhkgmeaa", sum := "450d245603b1ca2b5eeee13197d1d008309257eee8fb707dd395b1ac0324d8eb", func := "loop.example/vectorstore/laws.FnExactNearest", spec := "fnExactNearest", unfollowed := true, recurses := true, apart := false, narrowed := true }
def FnExactNearestUptoSaid : Prop := fnExactNearestUptoRow.holds Try.pinned (OpenSpec.upto fnExactNearestSpec)

/-- 'laws.FnExactWithinDist', WHERE WHAT IT READS IS OF BULK AT MOST 1048576: true; the input reads as it did. -/
def fnExactWithinDistUptoRow : OpenClaim := { program := "ytafocpclhkgmeaa", sum := "450d245603b1ca2b5eeee13197d1d008309257eee8fb707dd395b1ac0324d8eb", func := "loop.example/vectorstore/laws.FnExactWithinDist", spec := "fnExactWithinDist", unfollowed := true, recurses := true, apart := false, narrowed := true }
def FnExactWithinDistUptoSaid : Prop := fnExactWithinDistUptoRow.holds Try.pinned (OpenSpec.upto fnExactWithinDistSpec)

end Rows
end Go.Proofs.Ytafocpclhkgmeaa
