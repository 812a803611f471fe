/-
  No cell of these rows narrows 'for every input' (looked for: loops, veiled, ifaces, maps, wideKeys, modest, calm, conditions, laid).
  DERIVED. THE GIVEN ROWS OF THIS SEAT. 12 by the template 'for every input the law returns true; each argument reads behind the call as it read before'; 0 by the template 'total and deterministic' (their statements: YtgokepoinohioabTotals.lean).
  GIVEN WITH THE SEED: the statements are not yours to turn. If you find one false, say at which input.
  Laid BY PROGRAM, IN A SANDBOX (cutbox-rows.mjs): the forced cells as the released guide's own fill.sh prints them over the translation 2ada3e5d0fe79b72… (all of the seat's roots in one cut). By AI agents, Wed Nov 11 2026. No macro, syntax, notation, axiom, sorry.
-/
import Derived.Test.YtgokepoinohioabChecked
import GoSem.Claim
import GoSem.ClaimJoined
import GoSem.ClaimMapViews
import Derived.JoinedTies
import Derived.KernelRfl
namespace Go.Proofs.Ytgokepoinohioab
/- THE CELL 'sum', in the pinned program and in every row, IS THE sha256 OF THE DUMP (.gsa) THAT YtgokepoinohioabProg.lean LOADS. Nothing in Lean hashes anything: it is a label: what it is worth is what the hold of that sum in a sandbox is worth. -/
noncomputable def Try.pinned : Pinned := { name := "ytgokepoinohioab", sum := "2ada3e5d0fe79b72e219d85635eead9a479b1b9a4612c5f158795a95c1c9f5d5", checked := Try.checked }
namespace Rows
def none {H : Type} : Left H := { results := [], args := [] }

/-- 'laws.FnPutItemOthers': WHATEVER THE INPUT: true; the input reads as it did. -/
def fnPutItemOthersSpec : ChangeSpec := { name := "fnPutItemOthers", fn := fun _ => fun
  | [d] => { results := [.lit (.bool true)], args := [d] }
  | _ => none }
def fnPutItemOthersRow : OpenClaim := { program := "ytgokepoinohioab", sum := "2ada3e5d0fe79b72e219d85635eead9a479b1b9a4612c5f158795a95c1c9f5d5", func := "loop.example/vectorstore/laws.FnPutItemOthers", spec := "fnPutItemOthers", inPlace := ["slices.overlaps[loop.example/vectorstore/impl.Item]"], unfollowed := true, recurses := true, apart := false }
def FnPutItemOthersSaid : Prop := fnPutItemOthersRow.holds Try.pinned (OpenSpec.ofChange fnPutItemOthersSpec)

/-- ITS FALSE NEIGHBOUR: 'it returns false'. Refute it at one input. -/
def fnPutItemOthersWrong : ChangeSpec := { name := "fnPutItemOthers", fn := fun _ => fun
  | [d] => { results := [.lit (.bool false)], args := [d] }
  | _ => none }
def FnPutItemOthersWrongFalsely : Prop := fnPutItemOthersRow.holds Try.pinned (OpenSpec.ofChange fnPutItemOthersWrong)

/-- 'laws.FnPutItemTwice': WHATEVER THE INPUT: true; the input reads as it did. -/
def fnPutItemTwiceSpec : ChangeSpec := { name := "fnPutItemTwice", fn := fun _ => fun
  | [d] => { results := [.lit (.bool true)], args := [d] }
  | _ => none }
def fnPutItemTwiceRow : OpenClaim := { program := "ytgokepoinohioab", sum := "2ada3e5d0fe79b72e219d85635eead9a479b1b9a4612c5f158795a95c1c9f5d5", func := "loop.example/vectorstore/laws.FnPutItemTwice", spec := "fnPutItemTwice", inPlace := ["slices.overlaps[loop.example/vectorstore/impl.Item]"], unfollowed := true, recurses := true, apart := false }
def FnPutItemTwiceSaid : Prop := fnPutItemTwiceRow.holds Try.pinned (OpenSpec.ofChange fnPutItemTwiceSpec)

/-- ITS FALSE NEIGHBOUR: 'it returns false'. Refute it at one input. -/
def fnPutItemTwiceWrong : ChangeSpec := { name := "fnPutItemTwice", fn := fun _ => fun
  | [d] => { results := [.lit (.bool false)], args := [d] }
  | _ => none }
def FnPutItemTwiceWrongFalsely : Prop := fnPutItemTwiceRow.holds Try.pinned (OpenSpec.ofChange fnPutItemTwiceWrong)

/-- 'laws.FnDropItem': WHATEVER THE INPUT: true; the input reads as it did. -/
def fnDropItemSpec : ChangeSpec := { name := "fnDropItem", fn := fun _ => fun
  | [d] => { results := [.lit (.bool true)], args := [d] }
  | _ => none }
def fnDropItemRow : OpenClaim := { program := "ytgokepoinohioab", sum := "2ada3e5d0fe79b72e219d85635eead9a479b1b9a4612c5f158795a95c1c9f5d5", func := "loop.example/vectorstore/laws.FnDropItem", spec := "fnDropItem", inPlace := ["slices.overlaps[loop.example/vectorstore/impl.Item]"], unfollowed := true, recurses := true, apart := false }
def FnDropItemSaid : Prop := fnDropItemRow.holds Try.pinned (OpenSpec.ofChange fnDropItemSpec)

/-- ITS FALSE NEIGHBOUR: 'it returns false'. Refute it at one input. -/
def fnDropItemWrong : ChangeSpec := { name := "fnDropItem", fn := fun _ => fun
  | [d] => { results := [.lit (.bool false)], args := [d] }
  | _ => none }
def FnDropItemWrongFalsely : Prop := fnDropItemRow.holds Try.pinned (OpenSpec.ofChange fnDropItemWrong)

/-- 'laws.FnGetItem': WHATEVER THE INPUT: true; the input reads as it did. -/
def fnGetItemSpec : ChangeSpec := { name := "fnGetItem", fn := fun _ => fun
  | [d] => { results := [.lit (.bool true)], args := [d] }
  | _ => none }
def fnGetItemRow : OpenClaim := { program := "ytgokepoinohioab", sum := "2ada3e5d0fe79b72e219d85635eead9a479b1b9a4612c5f158795a95c1c9f5d5", func := "loop.example/vectorstore/laws.FnGetItem", spec := "fnGetItem", unfollowed := true, recurses := true, apart := false }
def FnGetItemSaid : Prop := fnGetItemRow.holds Try.pinned (OpenSpec.ofChange fnGetItemSpec)

/-- ITS FALSE NEIGHBOUR: 'it returns false'. Refute it at one input. -/
def fnGetItemWrong : ChangeSpec := { name := "fnGetItem", fn := fun _ => fun
  | [d] => { results := [.lit (.bool false)], args := [d] }
  | _ => none }
def FnGetItemWrongFalsely : Prop := fnGetItemRow.holds Try.pinned (OpenSpec.ofChange fnGetItemWrong)

/-- 'laws.FnBoundsOfTight': WHATEVER THE INPUT: true; the input reads as it did. -/
def fnBoundsOfTightSpec : ChangeSpec := { name := "fnBoundsOfTight", fn := fun _ => fun
  | [d] => { results := [.lit (.bool true)], args := [d] }
  | _ => none }
def fnBoundsOfTightRow : OpenClaim := { program := "ytgokepoinohioab", sum := "2ada3e5d0fe79b72e219d85635eead9a479b1b9a4612c5f158795a95c1c9f5d5", func := "loop.example/vectorstore/laws.FnBoundsOfTight", spec := "fnBoundsOfTight", apart := false }
def FnBoundsOfTightSaid : Prop := fnBoundsOfTightRow.holds Try.pinned (OpenSpec.ofChange fnBoundsOfTightSpec)

/-- ITS FALSE NEIGHBOUR: 'it returns false'. Refute it at one input. -/
def fnBoundsOfTightWrong : ChangeSpec := { name := "fnBoundsOfTight", fn := fun _ => fun
  | [d] => { results := [.lit (.bool false)], args := [d] }
  | _ => none }
def FnBoundsOfTightWrongFalsely : Prop := fnBoundsOfTightRow.holds Try.pinned (OpenSpec.ofChange fnBoundsOfTightWrong)

/-- 'laws.FnDistanceShift': WHATEVER THE INPUT: true; the input reads as it did. -/
def fnDistanceShiftSpec : ChangeSpec := { name := "fnDistanceShift", fn := fun _ => fun
  | [d] => { results := [.lit (.bool true)], args := [d] }
  | _ => none }
def fnDistanceShiftRow : OpenClaim := { program := "ytgokepoinohioab", sum := "2ada3e5d0fe79b72e219d85635eead9a479b1b9a4612c5f158795a95c1c9f5d5", func := "loop.example/vectorstore/laws.FnDistanceShift", spec := "fnDistanceShift", apart := false }
def FnDistanceShiftSaid : Prop := fnDistanceShiftRow.holds Try.pinned (OpenSpec.ofChange fnDistanceShiftSpec)

/-- ITS FALSE NEIGHBOUR: 'it returns false'. Refute it at one input. -/
def fnDistanceShiftWrong : ChangeSpec := { name := "fnDistanceShift", fn := fun _ => fun
  | [d] => { results := [.lit (.bool false)], args := [d] }
  | _ => none }
def FnDistanceShiftWrongFalsely : Prop := fnDistanceShiftRow.holds Try.pinned (OpenSpec.ofChange fnDistanceShiftWrong)

/-- 'laws.FnDistanceOne': WHATEVER THE INPUT: true; the input reads as it did. -/
def fnDistanceOneSpec : ChangeSpec := { name := "fnDistanceOne", fn := fun _ => fun
  | [d] => { results := [.lit (.bool true)], args := [d] }
  | _ => none }
def fnDistanceOneRow : OpenClaim := { program := "ytgokepoinohioab", sum := "2ada3e5d0fe79b72e219d85635eead9a479b1b9a4612c5f158795a95c1c9f5d5", func := "loop.example/vectorstore/laws.FnDistanceOne", spec := "fnDistanceOne", apart := false }
def FnDistanceOneSaid : Prop := fnDistanceOneRow.holds Try.pinned (OpenSpec.ofChange fnDistanceOneSpec)

/-- ITS FALSE NEIGHBOUR: 'it returns false'. Refute it at one input. -/
def fnDistanceOneWrong : ChangeSpec := { name := "fnDistanceOne", fn := fun _ => fun
  | [d] => { results := [.lit (.bool false)], args := [d] }
  | _ => none }
def FnDistanceOneWrongFalsely : Prop := fnDistanceOneRow.holds Try.pinned (OpenSpec.ofChange fnDistanceOneWrong)

/-- 'laws.FnDotOfZero': WHATEVER THE INPUT: true; the input reads as it did. -/
def fnDotOfZeroSpec : ChangeSpec := { name := "fnDotOfZero", fn := fun _ => fun
  | [d] => { results := [.lit (.bool true)], args := [d] }
  | _ => none }
def fnDotOfZeroRow : OpenClaim := { program := "ytgokepoinohioab", sum := "2ada3e5d0fe79b72e219d85635eead9a479b1b9a4612c5f158795a95c1c9f5d5", func := "loop.example/vectorstore/laws.FnDotOfZero", spec := "fnDotOfZero", apart := false }
def FnDotOfZeroSaid : Prop := fnDotOfZeroRow.holds Try.pinned (OpenSpec.ofChange fnDotOfZeroSpec)

/-- ITS FALSE NEIGHBOUR: 'it returns false'. Refute it at one input. -/
def fnDotOfZeroWrong : ChangeSpec := { name := "fnDotOfZero", fn := fun _ => fun
  | [d] => { results := [.lit (.bool false)], args := [d] }
  | _ => none }
def FnDotOfZeroWrongFalsely : Prop := fnDotOfZeroRow.holds Try.pinned (OpenSpec.ofChange fnDotOfZeroWrong)

/-- 'laws.FnMeanOfOrder': WHATEVER THE INPUT: true; the input reads as it did. -/
def fnMeanOfOrderSpec : ChangeSpec := { name := "fnMeanOfOrder", fn := fun _ => fun
  | [d] => { results := [.lit (.bool true)], args := [d] }
  | _ => none }
def fnMeanOfOrderRow : OpenClaim := { program := "ytgokepoinohioab", sum := "2ada3e5d0fe79b72e219d85635eead9a479b1b9a4612c5f158795a95c1c9f5d5", func := "loop.example/vectorstore/laws.FnMeanOfOrder", spec := "fnMeanOfOrder", apart := false }
def FnMeanOfOrderSaid : Prop := fnMeanOfOrderRow.holds Try.pinned (OpenSpec.ofChange fnMeanOfOrderSpec)

/-- ITS FALSE NEIGHBOUR: 'it returns false'. Refute it at one input. -/
def fnMeanOfOrderWrong : ChangeSpec := { name := "fnMeanOfOrder", fn := fun _ => fun
  | [d] => { results := [.lit (.bool false)], args := [d] }
  | _ => none }
def FnMeanOfOrderWrongFalsely : Prop := fnMeanOfOrderRow.holds Try.pinned (OpenSpec.ofChange fnMeanOfOrderWrong)

/-- 'laws.FnMoveToSame': WHATEVER THE INPUT: true; the input reads as it did. -/
def fnMoveToSameSpec : ChangeSpec := { name := "fnMoveToSame", fn := fun _ => fun
  | [d] => { results := [.lit (.bool true)], args := [d] }
  | _ => none }
def fnMoveToSameRow : OpenClaim := { program := "ytgokepoinohioab", sum := "2ada3e5d0fe79b72e219d85635eead9a479b1b9a4612c5f158795a95c1c9f5d5", func := "loop.example/vectorstore/laws.FnMoveToSame", spec := "fnMoveToSame", apart := false }
def FnMoveToSameSaid : Prop := fnMoveToSameRow.holds Try.pinned (OpenSpec.ofChange fnMoveToSameSpec)

/-- ITS FALSE NEIGHBOUR: 'it returns false'. Refute it at one input. -/
def fnMoveToSameWrong : ChangeSpec := { name := "fnMoveToSame", fn := fun _ => fun
  | [d] => { results := [.lit (.bool false)], args := [d] }
  | _ => none }
def FnMoveToSameWrongFalsely : Prop := fnMoveToSameRow.holds Try.pinned (OpenSpec.ofChange fnMoveToSameWrong)

/-- 'laws.FnPutItemOrder': WHATEVER THE INPUT: true; the input reads as it did. -/
def fnPutItemOrderSpec : ChangeSpec := { name := "fnPutItemOrder", fn := fun _ => fun
  | [d] => { results := [.lit (.bool true)], args := [d] }
  | _ => none }
def fnPutItemOrderRow : OpenClaim := { program := "ytgokepoinohioab", sum := "2ada3e5d0fe79b72e219d85635eead9a479b1b9a4612c5f158795a95c1c9f5d5", func := "loop.example/vectorstore/laws.FnPutItemOrder", spec := "fnPutItemOrder", inPlace := ["slices.overlaps[loop.example/vectorstore/impl.Item]"], unfollowed := true, recurses := true, apart := false }
def FnPutItemOrderSaid : Prop := fnPutItemOrderRow.holds Try.pinned (OpenSpec.ofChange fnPutItemOrderSpec)

/-- ITS FALSE NEIGHBOUR: 'it returns false'. Refute it at one input. -/
def fnPutItemOrderWrong : ChangeSpec := { name := "fnPutItemOrder", fn := fun _ => fun
  | [d] => { results := [.lit (.bool false)], args := [d] }
  | _ => none }
def FnPutItemOrderWrongFalsely : Prop := fnPutItemOrderRow.holds Try.pinned (OpenSpec.ofChange fnPutItemOrderWrong)

/-- 'laws.FnDropItemOrder': WHATEVER THE INPUT: true; the input reads as it did. -/
def fnDropItemOrderSpec : ChangeSpec := { name := "fnDropItemOrder", fn := fun _ => fun
  | [d] => { results := [.lit (.bool true)], args := [d] }
  | _ => none }
def fnDropItemOrderRow : OpenClaim := { program := "ytgokepoinohioab", sum := "2ada3e5d0fe79b72e219d85635eead9a479b1b9a4612c5f158795a95c1c9f5d5", func := "loop.example/vectorstore/laws.FnDropItemOrder", spec := "fnDropItemOrder", unfollowed := true, recurses := true, apart := false }
def FnDropItemOrderSaid : Prop := fnDropItemOrderRow.holds Try.pinned (OpenSpec.ofChange fnDropItemOrderSpec)

/-- ITS FALSE NEIGHBOUR: 'it returns false'. Refute it at one input. -/
def fnDropItemOrderWrong : ChangeSpec := { name := "fnDropItemOrder", fn := fun _ => fun
  | [d] => { results := [.lit (.bool false)], args := [d] }
  | _ => none }
def FnDropItemOrderWrongFalsely : Prop := fnDropItemOrderRow.holds Try.pinned (OpenSpec.ofChange fnDropItemOrderWrong)

/- THE SECOND FORM. 'bulk': how many values and letters a reading holds, each counted each time it is reached (what is shared counts as often as it is met; a slice's spare places count too). A statement '..UptoSaid' is the law's where the arguments, and the package variables that the reading takes, are together of bulk at most 1048576: NARROWER than '..Said'. Prove '..Said' where nothing that the law and all that it calls make is longer than what came in: it says more and counts as full. Else prove '..UptoSaid'. A law counts once. -/
mutual
def uptoBulk {H : Type} : DataW H → Nat
  | .lit (.string bytes) => bytes.length + 1
  | .lit _ => 1
  | .nil => 1
  | .ptr d => uptoBulk d + 1
  | .slice elems spare => uptoBulkAll elems + uptoBulkAll spare + 1
  | .agg parts => uptoBulkAll parts + 1
  | .iface _ d => uptoBulk d + 1
  | .map entries => uptoBulkEntries entries + 1
  | .held _ => 1
def uptoBulkAll {H : Type} : List (DataW H) → Nat
  | [] => 0
  | d :: r => uptoBulk d + uptoBulkAll r
def uptoBulkEntries {H : Type} : List (Lit × DataW H) → Nat
  | [] => 0
  | x :: r => uptoBulkEntry x + uptoBulkEntries r
def uptoBulkEntry {H : Type} : Lit × DataW H → Nat
  | (.string bytes, d) => bytes.length + uptoBulk d + 1
  | (_, d) => uptoBulk d + 1
 end
def uptoSmall : (H : Type) → List (DataW H) → Bool := fun _ ds => decide (uptoBulkAll ds ≤ 1048576)
def OpenSpec.upto (s : _root_.Go.ChangeSpec) : _root_.Go.OpenSpec := { _root_.Go.OpenSpec.ofChange s with cond := some uptoSmall }

/-- 'laws.FnPutItemOthers', WHERE WHAT IT READS IS OF BULK AT MOST 1048576: true; the input reads as it did. -/
def fnPutItemOthersUptoRow : OpenClaim := { program := "ytgokepoinohioab", sum := "2ada3e5d0fe79b72e219d85635eead9a479b1b9a4612c5f158795a95c1c9f5d5", func := "loop.example/vectorstore/laws.FnPutItemOthers", spec := "fnPutItemOthers", inPlace := ["slices.overlaps[loop.example/vectorstore/impl.Item]"], unfollowed := true, recurses := true, apart := false, narrowed := true }
def FnPutItemOthersUptoSaid : Prop := fnPutItemOthersUptoRow.holds Try.pinned (OpenSpec.upto fnPutItemOthersSpec)

/-- 'laws.FnPutItemTwice', WHERE WHAT IT READS IS OF BULK AT MOST 1048576: true; the input reads as it did. -/
def fnPutItemTwiceUptoRow : OpenClaim := { program := "ytgokepoinohioab", sum := "2ada3e5d0fe79b72e219d85635eead9a479b1b9a4612c5f158795a95c1c9f5d5", func := "loop.example/vectorstore/laws.FnPutItemTwice", spec := "fnPutItemTwice", inPlace := ["slices.overlaps[loop.example/vectorstore/impl.Item]"], unfollowed := true, recurses := true, apart := false, narrowed := true }
def FnPutItemTwiceUptoSaid : Prop := fnPutItemTwiceUptoRow.holds Try.pinned (OpenSpec.upto fnPutItemTwiceSpec)

/-- 'laws.FnDropItem', WHERE WHAT IT READS IS OF BULK AT MOST 1048576: true; the input reads as it did. -/
def fnDropItemUptoRow : OpenClaim := { program := "ytgokepoinohioab", sum := "2ada3e5d0fe79b72e219d85635eead9a479b1b9a4612c5f158795a95c1c9f5d5", func := "loop.example/vectorstore/laws.FnDropItem", spec := "fnDropItem", inPlace := ["slices.overlaps[loop.example/vectorstore/impl.Item]"], unfollowed := true, recurses := true, apart := false, narrowed := true }
def FnDropItemUptoSaid : Prop := fnDropItemUptoRow.holds Try.pinned (OpenSpec.upto fnDropItemSpec)

/-- 'laws.FnGetItem', WHERE WHAT IT READS IS OF BULK AT MOST 1048576: true; the input reads as it did. -/
def fnGetItemUptoRow : OpenClaim := { program := "ytgokepoinohioab", sum := "2ada3e5d0fe79b72e219d85635eead9a479b1b9a4612c5f158795a95c1c9f5d5", func := "loop.example/vectorstore/laws.FnGetItem", spec := "fnGetItem", unfollowed := true, recurses := true, apart := false, narrowed := true }
def FnGetItemUptoSaid : Prop := fnGetItemUptoRow.holds Try.pinned (OpenSpec.upto fnGetItemSpec)

/-- 'laws.FnBoundsOfTight', WHERE WHAT IT READS IS OF BULK AT MOST 1048576: true; the input reads as it did. -/
def fnBoundsOfTightUptoRow : OpenClaim := { program := "ytgokepoinohioab", sum := "2ada3e5d0fe79b72e219d85635eead9a479b1b9a4612c5f158795a95c1c9f5d5", func := "loop.example/vectorstore/laws.FnBoundsOfTight", spec := "fnBoundsOfTight", apart := false, narrowed := true }
def FnBoundsOfTightUptoSaid : Prop := fnBoundsOfTightUptoRow.holds Try.pinned (OpenSpec.upto fnBoundsOfTightSpec)

/-- 'laws.FnDistanceShift', WHERE WHAT IT READS IS OF BULK AT MOST 1048576: true; the input reads as it did. -/
def fnDistanceShiftUptoRow : OpenClaim := { program := "ytgokepoinohioab", sum := "2ada3e5d0fe79b72e219d85635eead9a479b1b9a4612c5f158795a95c1c9f5d5", func := "loop.example/vectorstore/laws.FnDistanceShift", spec := "fnDistanceShift", apart := false, narrowed := true }
def FnDistanceShiftUptoSaid : Prop := fnDistanceShiftUptoRow.holds Try.pinned (OpenSpec.upto fnDistanceShiftSpec)

/-- 'laws.FnDistanceOne', WHERE WHAT IT READS IS OF BULK AT MOST 1048576: true; the input reads as it did. -/
def fnDistanceOneUptoRow : OpenClaim := { program := "ytgokepoinohioab", sum := "2ada3e5d0fe79b72e219d85635eead9a479b1b9a4612c5f158795a95c1c9f5d5", func := "loop.example/vectorstore/laws.FnDistanceOne", spec := "fnDistanceOne", apart := false, narrowed := true }
def FnDistanceOneUptoSaid : Prop := fnDistanceOneUptoRow.holds Try.pinned (OpenSpec.upto fnDistanceOneSpec)

/-- 'laws.FnDotOfZero', WHERE WHAT IT READS IS OF BULK AT MOST 1048576: true; the input reads as it did. -/
def fnDotOfZeroUptoRow : OpenClaim := { program := "ytgokepoinohioab", sum := "2ada3e5d0fe79b72e219d85635eead9a479b1b9a4612c5f158795a95c1c9f5d5", func := "loop.example/vectorstore/laws.FnDotOfZero", spec := "fnDotOfZero", apart := false, narrowed := true }
def FnDotOfZeroUptoSaid : Prop := fnDotOfZeroUptoRow.holds Try.pinned (OpenSpec.upto fnDotOfZeroSpec)

/-- 'laws.FnMeanOfOrder', WHERE WHAT IT READS IS OF BULK AT MOST 1048576: true; the input reads as it did. -/
def fnMeanOfOrderUptoRow : OpenClaim := { program := "ytgokepoinohioab", sum := "2ada3e5d0fe79b72e219d85635eead9a479b1b9a4612c5f158795a95c1c9f5d5", func := "loop.example/vectorstore/laws.FnMeanOfOrder", spec := "fnMeanOfOrder", apart := false, narrowed := true }
def FnMeanOfOrderUptoSaid : Prop := fnMeanOfOrderUptoRow.holds Try.pinned (OpenSpec.upto fnMeanOfOrderSpec)

/-- 'laws.FnMoveToSame', WHERE WHAT IT READS IS OF BULK AT MOST 1048576: true; the input reads as it did. -/
def fnMoveToSameUptoRow : OpenClaim := { program := "ytgokepoinohioab", sum := "2ada3e5d0fe79b72e219d85635eead9a479b1b9a4612c5f158795a95c1c9f5d5", func := "loop.example/vectorstore/laws.FnMoveToSame", spec := "fnMoveToSame", apart := false, narrowed := true }
def FnMoveToSameUptoSaid : Prop := fnMoveToSameUptoRow.holds Try.pinned (OpenSpec.upto fnMoveToSameSpec)

/-- 'laws.FnPutItemOrder', WHERE WHAT IT READS IS OF BULK AT MOST 1048576: true; the input reads as it did. -/
def fnPutItemOrderUptoRow : OpenClaim := { program := "ytgokepoinohioab", sum := "2ada3e5d0fe79b72e219d85635eead9a479b1b9a4612c5f158795a95c1c9f5d5", func := "loop.example/vectorstore/laws.FnPutItemOrder", spec := "fnPutItemOrder", inPlace := ["slices.overlaps[loop.example/vectorstore/impl.Item]"], unfollowed := true, recurses := true, apart := false, narrowed := true }
def FnPutItemOrderUptoSaid : Prop := fnPutItemOrderUptoRow.holds Try.pinned (OpenSpec.upto fnPutItemOrderSpec)

/-- 'laws.FnDropItemOrder', WHERE WHAT IT READS IS OF BULK AT MOST 1048576: true; the input reads as it did. -/
def fnDropItemOrderUptoRow : OpenClaim := { program := "ytgokepoinohioab", sum := "2ada3e5d0fe79b72e219d85635eead9a479b1b9a4612c5f158795a95c1c9f5d5", func := "loop.example/vectorstore/laws.FnDropItemOrder", spec := "fnDropItemOrder", unfollowed := true, recurses := true, apart := false, narrowed := true }
def FnDropItemOrderUptoSaid : Prop := fnDropItemOrderUptoRow.holds Try.pinned (OpenSpec.upto fnDropItemOrderSpec)

end Rows
end Go.Proofs.Ytgokepoinohioab
