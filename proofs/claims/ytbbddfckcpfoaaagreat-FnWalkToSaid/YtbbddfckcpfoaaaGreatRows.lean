/-
  No cell of these rows narrows 'for every input' (looked for: loops, veiled, ifaces, maps, wideKeys, modest, calm, conditions, laid).
  DERIVED. THE GIVEN ROWS OF THIS SEAT. 10 by the template 'for every input the law returns true; each argument reads behind the call as it read before'; 0 by the template 'total and deterministic' (their statements: YtbbddfckcpfoaaaGreatTotals.lean).
  GIVEN WITH THE SEED: the statements are not yours to turn. If you find one false, say at which input.
  Laid BY PROGRAM, IN A SANDBOX (cutbox-rows.mjs): the forced cells as the released guide's own fill.sh prints them over the translation d24fb12544fd282c… (all of the seat's roots in one cut). By AI agents, Wed Nov 11 2026. No macro, syntax, notation, axiom, sorry.
-/
import Derived.Test.YtbbddfckcpfoaaaGreatChecked
import GoSem.Claim
import GoSem.ClaimJoined
import GoSem.ClaimMapViews
import Derived.JoinedTies
import Derived.KernelRfl
namespace Go.Proofs.YtbbddfckcpfoaaaGreat
/- THE CELL 'sum', in the pinned program and in every row, IS THE sha256 OF THE DUMP (.gsa) THAT YtbbddfckcpfoaaaGreatProg.lean LOADS. Nothing in Lean hashes anything: it is a label: what it is worth is what the hold of that sum in a sandbox is worth. -/
noncomputable def Tryz.pinned : Pinned := { name := "ytbbddfckcpfoaaagreat", sum := "d24fb12544fd282c1636db0fb510ba4eeba38bb41e1d87af937d0f18104d1699", checked := Tryz.checked }
namespace Rows
def none {H : Type} : Left H := { results := [], args := [] }

/-- 'laws.FnCodeNearestStore': WHATEVER THE INPUT: true; the input reads as it did. -/
def fnCodeNearestStoreSpec : ChangeSpec := { name := "fnCodeNearestStore", fn := fun _ => fun
  | [d] => { results := [.lit (.bool true)], args := [d] }
  | _ => none }
def fnCodeNearestStoreRow : OpenClaim := { program := "ytbbddfckcpfoaaagreat", sum := "d24fb12544fd282c1636db0fb510ba4eeba38bb41e1d87af937d0f18104d1699", func := "loop.example/vectorstore/laws.FnCodeNearestStore", spec := "fnCodeNearestStore", unfollowed := true, recurses := true, apart := false }
def FnCodeNearestStoreSaid : Prop := fnCodeNearestStoreRow.holds Tryz.pinned (OpenSpec.ofChange fnCodeNearestStoreSpec)

/-- ITS FALSE NEIGHBOUR: 'it returns false'. Refute it at one input. -/
def fnCodeNearestStoreWrong : ChangeSpec := { name := "fnCodeNearestStore", fn := fun _ => fun
  | [d] => { results := [.lit (.bool false)], args := [d] }
  | _ => none }
def FnCodeNearestStoreWrongFalsely : Prop := fnCodeNearestStoreRow.holds Tryz.pinned (OpenSpec.ofChange fnCodeNearestStoreWrong)

/-- 'laws.FnRerankNearest': WHATEVER THE INPUT: true; the input reads as it did. -/
def fnRerankNearestSpec : ChangeSpec := { name := "fnRerankNearest", fn := fun _ => fun
  | [d] => { results := [.lit (.bool true)], args := [d] }
  | _ => none }
def fnRerankNearestRow : OpenClaim := { program := "ytbbddfckcpfoaaagreat", sum := "d24fb12544fd282c1636db0fb510ba4eeba38bb41e1d87af937d0f18104d1699", func := "loop.example/vectorstore/laws.FnRerankNearest", spec := "fnRerankNearest", unfollowed := true, recurses := true, apart := false }
def FnRerankNearestSaid : Prop := fnRerankNearestRow.holds Tryz.pinned (OpenSpec.ofChange fnRerankNearestSpec)

/-- ITS FALSE NEIGHBOUR: 'it returns false'. Refute it at one input. -/
def fnRerankNearestWrong : ChangeSpec := { name := "fnRerankNearest", fn := fun _ => fun
  | [d] => { results := [.lit (.bool false)], args := [d] }
  | _ => none }
def FnRerankNearestWrongFalsely : Prop := fnRerankNearestRow.holds Tryz.pinned (OpenSpec.ofChange fnRerankNearestWrong)

/-- 'laws.FnHashNearest': WHATEVER THE INPUT: true; the input reads as it did. -/
def fnHashNearestSpec : ChangeSpec := { name := "fnHashNearest", fn := fun _ => fun
  | [d] => { results := [.lit (.bool true)], args := [d] }
  | _ => none }
def fnHashNearestRow : OpenClaim := { program := "ytbbddfckcpfoaaagreat", sum := "d24fb12544fd282c1636db0fb510ba4eeba38bb41e1d87af937d0f18104d1699", func := "loop.example/vectorstore/laws.FnHashNearest", spec := "fnHashNearest", unfollowed := true, recurses := true, apart := false }
def FnHashNearestSaid : Prop := fnHashNearestRow.holds Tryz.pinned (OpenSpec.ofChange fnHashNearestSpec)

/-- ITS FALSE NEIGHBOUR: 'it returns false'. Refute it at one input. -/
def fnHashNearestWrong : ChangeSpec := { name := "fnHashNearest", fn := fun _ => fun
  | [d] => { results := [.lit (.bool false)], args := [d] }
  | _ => none }
def FnHashNearestWrongFalsely : Prop := fnHashNearestRow.holds Tryz.pinned (OpenSpec.ofChange fnHashNearestWrong)

/-- 'laws.FnLinksOf': WHATEVER THE INPUT: true; the input reads as it did. -/
def fnLinksOfSpec : ChangeSpec := { name := "fnLinksOf", fn := fun _ => fun
  | [d] => { results := [.lit (.bool true)], args := [d] }
  | _ => none }
def fnLinksOfRow : OpenClaim := { program := "ytbbddfckcpfoaaagreat", sum := "d24fb12544fd282c1636db0fb510ba4eeba38bb41e1d87af937d0f18104d1699", func := "loop.example/vectorstore/laws.FnLinksOf", spec := "fnLinksOf", unfollowed := true, recurses := true, apart := false }
def FnLinksOfSaid : Prop := fnLinksOfRow.holds Tryz.pinned (OpenSpec.ofChange fnLinksOfSpec)

/-- ITS FALSE NEIGHBOUR: 'it returns false'. Refute it at one input. -/
def fnLinksOfWrong : ChangeSpec := { name := "fnLinksOf", fn := fun _ => fun
  | [d] => { results := [.lit (.bool false)], args := [d] }
  | _ => none }
def FnLinksOfWrongFalsely : Prop := fnLinksOfRow.holds Tryz.pinned (OpenSpec.ofChange fnLinksOfWrong)

/-- 'laws.FnWalkTo': WHATEVER THE INPUT: true; the input reads as it did. -/
def fnWalkToSpec : ChangeSpec := { name := "fnWalkTo", fn := fun _ => fun
  | [d] => { results := [.lit (.bool true)], args := [d] }
  | _ => none }
def fnWalkToRow : OpenClaim := { program := "ytbbddfckcpfoaaagreat", sum := "d24fb12544fd282c1636db0fb510ba4eeba38bb41e1d87af937d0f18104d1699", func := "loop.example/vectorstore/laws.FnWalkTo", spec := "fnWalkTo", unfollowed := true, recurses := true, apart := false }
def FnWalkToSaid : Prop := fnWalkToRow.holds Tryz.pinned (OpenSpec.ofChange fnWalkToSpec)

/-- ITS FALSE NEIGHBOUR: 'it returns false'. Refute it at one input. -/
def fnWalkToWrong : ChangeSpec := { name := "fnWalkTo", fn := fun _ => fun
  | [d] => { results := [.lit (.bool false)], args := [d] }
  | _ => none }
def FnWalkToWrongFalsely : Prop := fnWalkToRow.holds Tryz.pinned (OpenSpec.ofChange fnWalkToWrong)

/-- 'laws.FnWalkToEnd': WHATEVER THE INPUT: true; the input reads as it did. -/
def fnWalkToEndSpec : ChangeSpec := { name := "fnWalkToEnd", fn := fun _ => fun
  | [d] => { results := [.lit (.bool true)], args := [d] }
  | _ => none }
def fnWalkToEndRow : OpenClaim := { program := "ytbbddfckcpfoaaagreat", sum := "d24fb12544fd282c1636db0fb510ba4eeba38bb41e1d87af937d0f18104d1699", func := "loop.example/vectorstore/laws.FnWalkToEnd", spec := "fnWalkToEnd", unfollowed := true, recurses := true, apart := false }
def FnWalkToEndSaid : Prop := fnWalkToEndRow.holds Tryz.pinned (OpenSpec.ofChange fnWalkToEndSpec)

/-- ITS FALSE NEIGHBOUR: 'it returns false'. Refute it at one input. -/
def fnWalkToEndWrong : ChangeSpec := { name := "fnWalkToEnd", fn := fun _ => fun
  | [d] => { results := [.lit (.bool false)], args := [d] }
  | _ => none }
def FnWalkToEndWrongFalsely : Prop := fnWalkToEndRow.holds Tryz.pinned (OpenSpec.ofChange fnWalkToEndWrong)

/-- 'laws.FnWalkToNearest': WHATEVER THE INPUT: true; the input reads as it did. -/
def fnWalkToNearestSpec : ChangeSpec := { name := "fnWalkToNearest", fn := fun _ => fun
  | [d] => { results := [.lit (.bool true)], args := [d] }
  | _ => none }
def fnWalkToNearestRow : OpenClaim := { program := "ytbbddfckcpfoaaagreat", sum := "d24fb12544fd282c1636db0fb510ba4eeba38bb41e1d87af937d0f18104d1699", func := "loop.example/vectorstore/laws.FnWalkToNearest", spec := "fnWalkToNearest", unfollowed := true, recurses := true, apart := false }
def FnWalkToNearestSaid : Prop := fnWalkToNearestRow.holds Tryz.pinned (OpenSpec.ofChange fnWalkToNearestSpec)

/-- ITS FALSE NEIGHBOUR: 'it returns false'. Refute it at one input. -/
def fnWalkToNearestWrong : ChangeSpec := { name := "fnWalkToNearest", fn := fun _ => fun
  | [d] => { results := [.lit (.bool false)], args := [d] }
  | _ => none }
def FnWalkToNearestWrongFalsely : Prop := fnWalkToNearestRow.holds Tryz.pinned (OpenSpec.ofChange fnWalkToNearestWrong)

/-- 'laws.FnReachedFrom': WHATEVER THE INPUT: true; the input reads as it did. -/
def fnReachedFromSpec : ChangeSpec := { name := "fnReachedFrom", fn := fun _ => fun
  | [d] => { results := [.lit (.bool true)], args := [d] }
  | _ => none }
def fnReachedFromRow : OpenClaim := { program := "ytbbddfckcpfoaaagreat", sum := "d24fb12544fd282c1636db0fb510ba4eeba38bb41e1d87af937d0f18104d1699", func := "loop.example/vectorstore/laws.FnReachedFrom", spec := "fnReachedFrom", unfollowed := true, recurses := true, apart := false }
def FnReachedFromSaid : Prop := fnReachedFromRow.holds Tryz.pinned (OpenSpec.ofChange fnReachedFromSpec)

/-- ITS FALSE NEIGHBOUR: 'it returns false'. Refute it at one input. -/
def fnReachedFromWrong : ChangeSpec := { name := "fnReachedFrom", fn := fun _ => fun
  | [d] => { results := [.lit (.bool false)], args := [d] }
  | _ => none }
def FnReachedFromWrongFalsely : Prop := fnReachedFromRow.holds Tryz.pinned (OpenSpec.ofChange fnReachedFromWrong)

/-- 'laws.FnFilterNearest': WHATEVER THE INPUT: true; the input reads as it did. -/
def fnFilterNearestSpec : ChangeSpec := { name := "fnFilterNearest", fn := fun _ => fun
  | [d] => { results := [.lit (.bool true)], args := [d] }
  | _ => none }
def fnFilterNearestRow : OpenClaim := { program := "ytbbddfckcpfoaaagreat", sum := "d24fb12544fd282c1636db0fb510ba4eeba38bb41e1d87af937d0f18104d1699", func := "loop.example/vectorstore/laws.FnFilterNearest", spec := "fnFilterNearest", unfollowed := true, recurses := true, apart := false }
def FnFilterNearestSaid : Prop := fnFilterNearestRow.holds Tryz.pinned (OpenSpec.ofChange fnFilterNearestSpec)

/-- ITS FALSE NEIGHBOUR: 'it returns false'. Refute it at one input. -/
def fnFilterNearestWrong : ChangeSpec := { name := "fnFilterNearest", fn := fun _ => fun
  | [d] => { results := [.lit (.bool false)], args := [d] }
  | _ => none }
def FnFilterNearestWrongFalsely : Prop := fnFilterNearestRow.holds Tryz.pinned (OpenSpec.ofChange fnFilterNearestWrong)

/-- 'laws.FnFilterNearestOpen': WHATEVER THE INPUT: true; the input reads as it did. -/
def fnFilterNearestOpenSpec : ChangeSpec := { name := "fnFilterNearestOpen", fn := fun _ => fun
  | [d] => { results := [.lit (.bool true)], args := [d] }
  | _ => none }
def fnFilterNearestOpenRow : OpenClaim := { program := "ytbbddfckcpfoaaagreat", sum := "d24fb12544fd282c1636db0fb510ba4eeba38bb41e1d87af937d0f18104d1699", func := "loop.example/vectorstore/laws.FnFilterNearestOpen", spec := "fnFilterNearestOpen", unfollowed := true, recurses := true, apart := false }
def FnFilterNearestOpenSaid : Prop := fnFilterNearestOpenRow.holds Tryz.pinned (OpenSpec.ofChange fnFilterNearestOpenSpec)

/-- ITS FALSE NEIGHBOUR: 'it returns false'. Refute it at one input. -/
def fnFilterNearestOpenWrong : ChangeSpec := { name := "fnFilterNearestOpen", fn := fun _ => fun
  | [d] => { results := [.lit (.bool false)], args := [d] }
  | _ => none }
def FnFilterNearestOpenWrongFalsely : Prop := fnFilterNearestOpenRow.holds Tryz.pinned (OpenSpec.ofChange fnFilterNearestOpenWrong)

/- THE SECOND FORM. 'bulk': how many values and letters a reading holds, each counted each time it is reached (what is shared counts as often as it is met; a slice's spare places count too). A statement '..UptoSaid' is the law's where the arguments, and the package variables that the reading takes, are together of bulk at most 1048576: NARROWER than '..Said'. Prove '..Said' where nothing that the law and all that it calls make is longer than what came in: it says more and counts as full. Else prove '..UptoSaid'. A law counts once. -/
mutual
def uptoBulk {H : Type} : DataW H → Nat
  | .lit (.string bytes) => bytes.length + 1
  | .lit _ => 1
  | .nil => 1
  | .ptr d => uptoBulk d + 1
  | .slice elems spare => uptoBulkAll elems + uptoBulkAll spare + 1
  | .agg parts => uptoBulkAll parts + 1
  | .iface _ d => uptoBulk d + 1
  | .map entries => uptoBulkEntries entries + 1
  | .held _ => 1
def uptoBulkAll {H : Type} : List (DataW H) → Nat
  | [] => 0
  | d :: r => uptoBulk d + uptoBulkAll r
def uptoBulkEntries {H : Type} : List (Lit × DataW H) → Nat
  | [] => 0
  | x :: r => uptoBulkEntry x + uptoBulkEntries r
def uptoBulkEntry {H : Type} : Lit × DataW H → Nat
  | (.string bytes, d) => bytes.length + uptoBulk d + 1
  | (_, d) => uptoBulk d + 1
 end
def uptoSmall : (H : Type) → List (DataW H) → Bool := fun _ ds => decide (uptoBulkAll ds ≤ 1048576)
def OpenSpec.upto (s : _root_.Go.ChangeSpec) : _root_.Go.OpenSpec := { _root_.Go.OpenSpec.ofChange s with cond := some uptoSmall }

/-- 'laws.FnCodeNearestStore', WHERE WHAT IT READS IS OF BULK AT MOST 1048576: true; the input reads as it did. -/
def fnCodeNearestStoreUptoRow : OpenClaim := { program := "ytbbddfckcpfoaaagreat", sum := "d24fb12544fd282c1636db0fb510ba4eeba38bb41e1d87af937d0f18104d1699", func := "loop.example/vectorstore/laws.FnCodeNearestStore", spec := "fnCodeNearestStore", unfollowed := true, recurses := true, apart := false, narrowed := true }
def FnCodeNearestStoreUptoSaid : Prop := fnCodeNearestStoreUptoRow.holds Tryz.pinned (OpenSpec.upto fnCodeNearestStoreSpec)

/-- 'laws.FnRerankNearest', WHERE WHAT IT READS IS OF BULK AT MOST 1048576: true; the input reads as it did. -/
def fnRerankNearestUptoRow : OpenClaim := { program := "ytbbddfckcpfoaaagreat", sum := "d24fb12544fd282c1636db0fb510ba4eeba38bb41e1d87af937d0f18104d1699", func := "loop.example/vectorstore/laws.FnRerankNearest", spec := "fnRerankNearest", unfollowed := true, recurses := true, apart := false, narrowed := true }
def FnRerankNearestUptoSaid : Prop := fnRerankNearestUptoRow.holds Tryz.pinned (OpenSpec.upto fnRerankNearestSpec)

/-- 'laws.FnHashNearest', WHERE WHAT IT READS IS OF BULK AT MOST 1048576: true; the input reads as it did. -/
def fnHashNearestUptoRow : OpenClaim := { program := "ytbbddfckcpfoaaagreat", sum := "d24fb12544fd282c1636db0fb510ba4eeba38bb41e1d87af937d0f18104d1699", func := "loop.example/vectorstore/laws.FnHashNearest", spec := "fnHashNearest", unfollowed := true, recurses := true, apart := false, narrowed := true }
def FnHashNearestUptoSaid : Prop := fnHashNearestUptoRow.holds Tryz.pinned (OpenSpec.upto fnHashNearestSpec)

/-- 'laws.FnLinksOf', WHERE WHAT IT READS IS OF BULK AT MOST 1048576: true; the input reads as it did. -/
def fnLinksOfUptoRow : OpenClaim := { program := "ytbbddfckcpfoaaagreat", sum := "d24fb12544fd282c1636db0fb510ba4eeba38bb41e1d87af937d0f18104d1699", func := "loop.example/vectorstore/laws.FnLinksOf", spec := "fnLinksOf", unfollowed := true, recurses := true, apart := false, narrowed := true }
def FnLinksOfUptoSaid : Prop := fnLinksOfUptoRow.holds Tryz.pinned (OpenSpec.upto fnLinksOfSpec)

/-- 'laws.FnWalkTo', WHERE WHAT IT READS IS OF BULK AT MOST 1048576: true; the input reads as it did. -/
def fnWalkToUptoRow : OpenClaim := { program := "ytbbddfckcpfoaaagreat", sum := "d24fb12544fd282c1636db0fb510ba4eeba38bb41e1d87af937d0f18104d1699", func := "loop.example/vectorstore/laws.FnWalkTo", spec := "fnWalkTo", unfollowed := true, recurses := true, apart := false, narrowed := true }
def FnWalkToUptoSaid : Prop := fnWalkToUptoRow.holds Tryz.pinned (OpenSpec.upto fnWalkToSpec)

/-- 'laws.FnWalkToEnd', WHERE WHAT IT READS IS OF BULK AT MOST 1048576: true; the input reads as it did. -/
def fnWalkToEndUptoRow : OpenClaim := { program := "ytbbddfckcpfoaaagreat", sum := "d24fb12544fd282c1636db0fb510ba4eeba38bb41e1d87af937d0f18104d1699", func := "loop.example/vectorstore/laws.FnWalkToEnd", spec := "fnWalkToEnd", unfollowed := true, recurses := true, apart := false, narrowed := true }
def FnWalkToEndUptoSaid : Prop := fnWalkToEndUptoRow.holds Tryz.pinned (OpenSpec.upto fnWalkToEndSpec)

/-- 'laws.FnWalkToNearest', WHERE WHAT IT READS IS OF BULK AT MOST 1048576: true; the input reads as it did. -/
def fnWalkToNearestUptoRow : OpenClaim := { program := "ytbbddfckcpfoaaagreat", sum := "d24fb12544fd282c1636db0fb510ba4eeba38bb41e1d87af937d0f18104d1699", func := "loop.example/vectorstore/laws.FnWalkToNearest", spec := "fnWalkToNearest", unfollowed := true, recurses := true, apart := false, narrowed := true }
def FnWalkToNearestUptoSaid : Prop := fnWalkToNearestUptoRow.holds Tryz.pinned (OpenSpec.upto fnWalkToNearestSpec)

/-- 'laws.FnReachedFrom', WHERE WHAT IT READS IS OF BULK AT MOST 1048576: true; the input reads as it did. -/
def fnReachedFromUptoRow : OpenClaim := { program := "ytbbddfckcpfoaaagreat", sum := "d24fb12544fd282c1636db0fb510ba4eeba38bb41e1d87af937d0f18104d1699", func := "loop.example/vectorstore/laws.FnReachedFrom", spec := "fnReachedFrom", unfollowed := true, recurses := true, apart := false, narrowed := true }
def FnReachedFromUptoSaid : Prop := fnReachedFromUptoRow.holds Tryz.pinned (OpenSpec.upto fnReachedFromSpec)

/-- 'laws.FnFilterNearest', WHERE WHAT IT READS IS OF BULK AT MOST 1048576: true; the input reads as it did. -/
def fnFilterNearestUptoRow : OpenClaim := { program := "ytbbddfckcpfoaaagreat", sum := "d24fb12544fd282c1636db0fb510ba4eeba38bb41e1d87af937d0f18104d1699", func := "loop.example/vectorstore/laws.FnFilterNearest", spec := "fnFilterNearest", unfollowed := true, recurses := true, apart := false, narrowed := true }
def FnFilterNearestUptoSaid : Prop := fnFilterNearestUptoRow.holds Tryz.pinned (OpenSpec.upto fnFilterNearestSpec)

/-- 'laws.FnFilterNearestOpen', WHERE WHAT IT READS IS OF BULK AT MOST 1048576: true; the input reads as it did. -/
def fnFilterNearestOpenUptoRow : OpenClaim := { program := "ytbbddfckcpfoaaagreat", sum := "d24fb12544fd282c1636db0fb510ba4eeba38bb41e1d87af937d0f18104d1699", func := "loop.example/vectorstore/laws.FnFilterNearestOpen", spec := "fnFilterNearestOpen", unfollowed := true, recurses := true, apart := false, narrowed := true }
def FnFilterNearestOpenUptoSaid : Prop := fnFilterNearestOpenUptoRow.holds Tryz.pinned (OpenSpec.upto fnFilterNearestOpenSpec)

end Rows
end Go.Proofs.YtbbddfckcpfoaaaGreat
