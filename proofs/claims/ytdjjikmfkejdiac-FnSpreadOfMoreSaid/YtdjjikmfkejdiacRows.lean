/-
  No cell of these rows narrows 'for every input' (looked for: loops, veiled, ifaces, maps, wideKeys, modest, calm, conditions, laid).
  DERIVED. THE GIVEN ROWS OF THIS SEAT. 9 by the template 'for every input the law returns true; each argument reads behind the call as it read before'; 0 by the template 'total and deterministic' (their statements: YtdjjikmfkejdiacTotals.lean).
  GIVEN WITH THE SEED: the statements are not yours to turn. If you find one false, say at which input.
  Laid BY PROGRAM, IN A SANDBOX (cutbox-rows.mjs): the forced cells as the released guide's own fill.sh prints them over the translation 7a42047e7f20bbcf… (all of the seat's roots in one cut). By AI agents, Wed Nov 11 2026. No macro, syntax, notation, axiom, sorry.
-/
import Derived.Test.YtdjjikmfkejdiacChecked
import GoSem.Claim
import GoSem.ClaimJoined
import GoSem.ClaimMapViews
import Derived.JoinedTies
import Derived.KernelRfl
namespace Go.Proofs.Ytdjjikmfkejdiac
/- THE CELL 'sum', in the pinned program and in every row, IS THE sha256 OF THE DUMP (.gsa) THAT YtdjjikmfkejdiacProg.lean LOADS. Nothing in Lean hashes anything: it is a label: what it is worth is what the hold of that sum in a sandbox is worth. -/
noncomputable def Try.pinned : Pinned := { name := "ytdjjikmfkejdiac", sum := "7a42047e7f20bbcf4877e5bbe2f40c1d37ccb64078c57aba89eb85e124f6d7b9", checked := Try.checked }
namespace Rows
def none {H : Type} : Left H := { results := [], args := [] }

/-- 'laws.FnSpreadOf': WHATEVER THE INPUT: true; the input reads as it did. -/
def fnSpreadOfSpec : ChangeSpec := { name := "fnSpreadOf", fn := fun _ => fun
  | [d] => { results := [.lit (.bool true)], args := [d] }
  | _ => none }
def fnSpreadOfRow : OpenClaim := { program := "ytdjjikmfkejdiac", sum := "7a42047e7f20bbcf4877e5bbe2f40c1d37ccb64078c57aba89eb85e124f6d7b9", func := "loop.example/vectorstore/laws.FnSpreadOf", spec := "fnSpreadOf", unfollowed := true, recurses := true, apart := false }
def FnSpreadOfSaid : Prop := fnSpreadOfRow.holds Try.pinned (OpenSpec.ofChange fnSpreadOfSpec)

/-- ITS FALSE NEIGHBOUR: 'it returns false'. Refute it at one input. -/
def fnSpreadOfWrong : ChangeSpec := { name := "fnSpreadOf", fn := fun _ => fun
  | [d] => { results := [.lit (.bool false)], args := [d] }
  | _ => none }
def FnSpreadOfWrongFalsely : Prop := fnSpreadOfRow.holds Try.pinned (OpenSpec.ofChange fnSpreadOfWrong)

/-- 'laws.FnSpreadOfMore': WHATEVER THE INPUT: true; the input reads as it did. -/
def fnSpreadOfMoreSpec : ChangeSpec := { name := "fnSpreadOfMore", fn := fun _ => fun
  | [d] => { results := [.lit (.bool true)], args := [d] }
  | _ => none }
def fnSpreadOfMoreRow : OpenClaim := { program := "ytdjjikmfkejdiac", sum := "7a42047e7f20bbcf4877e5bbe2f40c1d37ccb64078c57aba89eb85e124f6d7b9", func := "loop.example/vectorstore/laws.FnSpreadOfMore", spec := "fnSpreadOfMore", unfollowed := true, recurses := true, apart := false }
def FnSpreadOfMoreSaid : Prop := fnSpreadOfMoreRow.holds Try.pinned (OpenSpec.ofChange fnSpreadOfMoreSpec)

/-- ITS FALSE NEIGHBOUR: 'it returns false'. Refute it at one input. -/
def fnSpreadOfMoreWrong : ChangeSpec := { name := "fnSpreadOfMore", fn := fun _ => fun
  | [d] => { results := [.lit (.bool false)], args := [d] }
  | _ => none }
def FnSpreadOfMoreWrongFalsely : Prop := fnSpreadOfMoreRow.holds Try.pinned (OpenSpec.ofChange fnSpreadOfMoreWrong)

/-- 'laws.FnListsOf': WHATEVER THE INPUT: true; the input reads as it did. -/
def fnListsOfSpec : ChangeSpec := { name := "fnListsOf", fn := fun _ => fun
  | [d] => { results := [.lit (.bool true)], args := [d] }
  | _ => none }
def fnListsOfRow : OpenClaim := { program := "ytdjjikmfkejdiac", sum := "7a42047e7f20bbcf4877e5bbe2f40c1d37ccb64078c57aba89eb85e124f6d7b9", func := "loop.example/vectorstore/laws.FnListsOf", spec := "fnListsOf", apart := false }
def FnListsOfSaid : Prop := fnListsOfRow.holds Try.pinned (OpenSpec.ofChange fnListsOfSpec)

/-- ITS FALSE NEIGHBOUR: 'it returns false'. Refute it at one input. -/
def fnListsOfWrong : ChangeSpec := { name := "fnListsOf", fn := fun _ => fun
  | [d] => { results := [.lit (.bool false)], args := [d] }
  | _ => none }
def FnListsOfWrongFalsely : Prop := fnListsOfRow.holds Try.pinned (OpenSpec.ofChange fnListsOfWrong)

/-- 'laws.FnListsOfOrder': WHATEVER THE INPUT: true; the input reads as it did. -/
def fnListsOfOrderSpec : ChangeSpec := { name := "fnListsOfOrder", fn := fun _ => fun
  | [d] => { results := [.lit (.bool true)], args := [d] }
  | _ => none }
def fnListsOfOrderRow : OpenClaim := { program := "ytdjjikmfkejdiac", sum := "7a42047e7f20bbcf4877e5bbe2f40c1d37ccb64078c57aba89eb85e124f6d7b9", func := "loop.example/vectorstore/laws.FnListsOfOrder", spec := "fnListsOfOrder", apart := false }
def FnListsOfOrderSaid : Prop := fnListsOfOrderRow.holds Try.pinned (OpenSpec.ofChange fnListsOfOrderSpec)

/-- ITS FALSE NEIGHBOUR: 'it returns false'. Refute it at one input. -/
def fnListsOfOrderWrong : ChangeSpec := { name := "fnListsOfOrder", fn := fun _ => fun
  | [d] => { results := [.lit (.bool false)], args := [d] }
  | _ => none }
def FnListsOfOrderWrongFalsely : Prop := fnListsOfOrderRow.holds Try.pinned (OpenSpec.ofChange fnListsOfOrderWrong)

/-- 'laws.FnProbeOrder': WHATEVER THE INPUT: true; the input reads as it did. -/
def fnProbeOrderSpec : ChangeSpec := { name := "fnProbeOrder", fn := fun _ => fun
  | [d] => { results := [.lit (.bool true)], args := [d] }
  | _ => none }
def fnProbeOrderRow : OpenClaim := { program := "ytdjjikmfkejdiac", sum := "7a42047e7f20bbcf4877e5bbe2f40c1d37ccb64078c57aba89eb85e124f6d7b9", func := "loop.example/vectorstore/laws.FnProbeOrder", spec := "fnProbeOrder", unfollowed := true, recurses := true, apart := false }
def FnProbeOrderSaid : Prop := fnProbeOrderRow.holds Try.pinned (OpenSpec.ofChange fnProbeOrderSpec)

/-- ITS FALSE NEIGHBOUR: 'it returns false'. Refute it at one input. -/
def fnProbeOrderWrong : ChangeSpec := { name := "fnProbeOrder", fn := fun _ => fun
  | [d] => { results := [.lit (.bool false)], args := [d] }
  | _ => none }
def FnProbeOrderWrongFalsely : Prop := fnProbeOrderRow.holds Try.pinned (OpenSpec.ofChange fnProbeOrderWrong)

/-- 'laws.FnProbeOrderMore': WHATEVER THE INPUT: true; the input reads as it did. -/
def fnProbeOrderMoreSpec : ChangeSpec := { name := "fnProbeOrderMore", fn := fun _ => fun
  | [d] => { results := [.lit (.bool true)], args := [d] }
  | _ => none }
def fnProbeOrderMoreRow : OpenClaim := { program := "ytdjjikmfkejdiac", sum := "7a42047e7f20bbcf4877e5bbe2f40c1d37ccb64078c57aba89eb85e124f6d7b9", func := "loop.example/vectorstore/laws.FnProbeOrderMore", spec := "fnProbeOrderMore", unfollowed := true, recurses := true, apart := false }
def FnProbeOrderMoreSaid : Prop := fnProbeOrderMoreRow.holds Try.pinned (OpenSpec.ofChange fnProbeOrderMoreSpec)

/-- ITS FALSE NEIGHBOUR: 'it returns false'. Refute it at one input. -/
def fnProbeOrderMoreWrong : ChangeSpec := { name := "fnProbeOrderMore", fn := fun _ => fun
  | [d] => { results := [.lit (.bool false)], args := [d] }
  | _ => none }
def FnProbeOrderMoreWrongFalsely : Prop := fnProbeOrderMoreRow.holds Try.pinned (OpenSpec.ofChange fnProbeOrderMoreWrong)

/-- 'laws.FnProbeCost': WHATEVER THE INPUT: true; the input reads as it did. -/
def fnProbeCostSpec : ChangeSpec := { name := "fnProbeCost", fn := fun _ => fun
  | [d] => { results := [.lit (.bool true)], args := [d] }
  | _ => none }
def fnProbeCostRow : OpenClaim := { program := "ytdjjikmfkejdiac", sum := "7a42047e7f20bbcf4877e5bbe2f40c1d37ccb64078c57aba89eb85e124f6d7b9", func := "loop.example/vectorstore/laws.FnProbeCost", spec := "fnProbeCost", unfollowed := true, recurses := true, apart := false }
def FnProbeCostSaid : Prop := fnProbeCostRow.holds Try.pinned (OpenSpec.ofChange fnProbeCostSpec)

/-- ITS FALSE NEIGHBOUR: 'it returns false'. Refute it at one input. -/
def fnProbeCostWrong : ChangeSpec := { name := "fnProbeCost", fn := fun _ => fun
  | [d] => { results := [.lit (.bool false)], args := [d] }
  | _ => none }
def FnProbeCostWrongFalsely : Prop := fnProbeCostRow.holds Try.pinned (OpenSpec.ofChange fnProbeCostWrong)

/-- 'laws.FnNearestDrop': WHATEVER THE INPUT: true; the input reads as it did. -/
def fnNearestDropSpec : ChangeSpec := { name := "fnNearestDrop", fn := fun _ => fun
  | [d] => { results := [.lit (.bool true)], args := [d] }
  | _ => none }
def fnNearestDropRow : OpenClaim := { program := "ytdjjikmfkejdiac", sum := "7a42047e7f20bbcf4877e5bbe2f40c1d37ccb64078c57aba89eb85e124f6d7b9", func := "loop.example/vectorstore/laws.FnNearestDrop", spec := "fnNearestDrop", unfollowed := true, recurses := true, apart := false }
def FnNearestDropSaid : Prop := fnNearestDropRow.holds Try.pinned (OpenSpec.ofChange fnNearestDropSpec)

/-- ITS FALSE NEIGHBOUR: 'it returns false'. Refute it at one input. -/
def fnNearestDropWrong : ChangeSpec := { name := "fnNearestDrop", fn := fun _ => fun
  | [d] => { results := [.lit (.bool false)], args := [d] }
  | _ => none }
def FnNearestDropWrongFalsely : Prop := fnNearestDropRow.holds Try.pinned (OpenSpec.ofChange fnNearestDropWrong)

/-- 'laws.FnWithinDistMore': WHATEVER THE INPUT: true; the input reads as it did. -/
def fnWithinDistMoreSpec : ChangeSpec := { name := "fnWithinDistMore", fn := fun _ => fun
  | [d] => { results := [.lit (.bool true)], args := [d] }
  | _ => none }
def fnWithinDistMoreRow : OpenClaim := { program := "ytdjjikmfkejdiac", sum := "7a42047e7f20bbcf4877e5bbe2f40c1d37ccb64078c57aba89eb85e124f6d7b9", func := "loop.example/vectorstore/laws.FnWithinDistMore", spec := "fnWithinDistMore", unfollowed := true, recurses := true, apart := false }
def FnWithinDistMoreSaid : Prop := fnWithinDistMoreRow.holds Try.pinned (OpenSpec.ofChange fnWithinDistMoreSpec)

/-- ITS FALSE NEIGHBOUR: 'it returns false'. Refute it at one input. -/
def fnWithinDistMoreWrong : ChangeSpec := { name := "fnWithinDistMore", fn := fun _ => fun
  | [d] => { results := [.lit (.bool false)], args := [d] }
  | _ => none }
def FnWithinDistMoreWrongFalsely : Prop := fnWithinDistMoreRow.holds Try.pinned (OpenSpec.ofChange fnWithinDistMoreWrong)

/- THE SECOND FORM. 'bulk': how many values and letters a reading holds, each counted each time it is reached (what is shared counts as often as it is met; a slice's spare places count too). A statement '..UptoSaid' is the law's where the arguments, and the package variables that the reading takes, are together of bulk at most 1048576: NARROWER than '..Said'. Prove '..Said' where nothing that the law and all that it calls make is longer than what came in: it says more and counts as full. Else prove '..UptoSaid'. A law counts once. -/
mutual
def uptoBulk {H : Type} : DataW H → Nat
  | .lit (.string bytes) => bytes.length + 1
  | .lit _ => 1
  | .nil => 1
  | .ptr d => uptoBulk d + 1
  | .slice elems spare => uptoBulkAll elems + uptoBulkAll spare + 1
  | .agg parts => uptoBulkAll parts + 1
  | .iface _ d => uptoBulk d + 1
  | .map entries => uptoBulkEntries entries + 1
  | .held _ => 1
def uptoBulkAll {H : Type} : List (DataW H) → Nat
  | [] => 0
  | d :: r => uptoBulk d + uptoBulkAll r
def uptoBulkEntries {H : Type} : List (Lit × DataW H) → Nat
  | [] => 0
  | x :: r => uptoBulkEntry x + uptoBulkEntries r
def uptoBulkEntry {H : Type} : Lit × DataW H → Nat
  | (.string bytes, d) => bytes.length + uptoBulk d + 1
  | (_, d) => uptoBulk d + 1
 end
def uptoSmall : (H : Type) → List (DataW H) → Bool := fun _ ds => decide (uptoBulkAll ds ≤ 1048576)
def OpenSpec.upto (s : _root_.Go.ChangeSpec) : _root_.Go.OpenSpec := { _root_.Go.OpenSpec.ofChange s with cond := some uptoSmall }

/-- 'laws.FnSpreadOf', WHERE WHAT IT READS IS OF BULK AT MOST 1048576: true; the input reads as it did. -/
def fnSpreadOfUptoRow : OpenClaim := { program := "ytdjjikmfkejdiac", sum := "7a42047e7f20bbcf4877e5bbe2f40c1d37ccb64078c57aba89eb85e124f6d7b9", func := "loop.example/vectorstore/laws.FnSpreadOf", spec := "fnSpreadOf", unfollowed := true, recurses := true, apart := false, narrowed := true }
def FnSpreadOfUptoSaid : Prop := fnSpreadOfUptoRow.holds Try.pinned (OpenSpec.upto fnSpreadOfSpec)

/-- 'laws.FnSpreadOfMore', WHERE WHAT IT READS IS OF BULK AT MOST 1048576: true; the input reads as it did. -/
def fnSpreadOfMoreUptoRow : OpenClaim := { program := "ytdjjikmfkejdiac", sum := "7a42047e7f20bbcf4877e5bbe2f40c1d37ccb64078c57aba89eb85e124f6d7b9", func := "loop.example/vectorstore/laws.FnSpreadOfMore", spec := "fnSpreadOfMore", unfollowed := true, recurses := true, apart := false, narrowed := true }
def FnSpreadOfMoreUptoSaid : Prop := fnSpreadOfMoreUptoRow.holds Try.pinned (OpenSpec.upto fnSpreadOfMoreSpec)

/-- 'laws.FnListsOf', WHERE WHAT IT READS IS OF BULK AT MOST 1048576: true; the input reads as it did. -/
def fnListsOfUptoRow : OpenClaim := { program := "ytdjjikmfkejdiac", sum := "7a42047e7f20bbcf4877e5bbe2f40c1d37ccb64078c57aba89eb85e124f6d7b9", func := "loop.example/vectorstore/laws.FnListsOf", spec := "fnListsOf", apart := false, narrowed := true }
def FnListsOfUptoSaid : Prop := fnListsOfUptoRow.holds Try.pinned (OpenSpec.upto fnListsOfSpec)

/-- 'laws.FnListsOfOrder', WHERE WHAT IT READS IS OF BULK AT MOST 1048576: true; the input reads as it did. -/
def fnListsOfOrderUptoRow : OpenClaim := { program := "ytdjjikmfkejdiac", sum := "7a42047e7f20bbcf4877e5bbe2f40c1d37ccb64078c57aba89eb85e124f6d7b9", func := "loop.example/vectorstore/laws.FnListsOfOrder", spec := "fnListsOfOrder", apart := false, narrowed := true }
def FnListsOfOrderUptoSaid : Prop := fnListsOfOrderUptoRow.holds Try.pinned (OpenSpec.upto fnListsOfOrderSpec)

/-- 'laws.FnProbeOrder', WHERE WHAT IT READS IS OF BULK AT MOST 1048576: true; the input reads as it did. -/
def fnProbeOrderUptoRow : OpenClaim := { program := "ytdjjikmfkejdiac", sum := "7a42047e7f20bbcf4877e5bbe2f40c1d37ccb64078c57aba89eb85e124f6d7b9", func := "loop.example/vectorstore/laws.FnProbeOrder", spec := "fnProbeOrder", unfollowed := true, recurses := true, apart := false, narrowed := true }
def FnProbeOrderUptoSaid : Prop := fnProbeOrderUptoRow.holds Try.pinned (OpenSpec.upto fnProbeOrderSpec)

/-- 'laws.FnProbeOrderMore', WHERE WHAT IT READS IS OF BULK AT MOST 1048576: true; the input reads as it did. -/
def fnProbeOrderMoreUptoRow : OpenClaim := { program := "ytdjjikmfkejdiac", sum := "7a42047e7f20bbcf4877e5bbe2f40c1d37ccb64078c57aba89eb85e124f6d7b9", func := "loop.example/vectorstore/laws.FnProbeOrderMore", spec := "fnProbeOrderMore", unfollowed := true, recurses := true, apart := false, narrowed := true }
def FnProbeOrderMoreUptoSaid : Prop := fnProbeOrderMoreUptoRow.holds Try.pinned (OpenSpec.upto fnProbeOrderMoreSpec)

/-- 'laws.FnProbeCost', WHERE WHAT IT READS IS OF BULK AT MOST 1048576: true; the input reads as it did. -/
def fnProbeCostUptoRow : OpenClaim := { program := "ytdjjikmfkejdiac", sum := "7a42047e7f20bbcf4877e5bbe2f40c1d37ccb64078c57aba89eb85e124f6d7b9", func := "loop.example/vectorstore/laws.FnProbeCost", spec := "fnProbeCost", unfollowed := true, recurses := true, apart := false, narrowed := true }
def FnProbeCostUptoSaid : Prop := fnProbeCostUptoRow.holds Try.pinned (OpenSpec.upto fnProbeCostSpec)

/-- 'laws.FnNearestDrop', WHERE WHAT IT READS IS OF BULK AT MOST 1048576: true; the input reads as it did. -/
def fnNearestDropUptoRow : OpenClaim := { program := "ytdjjikmfkejdiac", sum := "7a42047e7f20bbcf4877e5bbe2f40c1d37ccb64078c57aba89eb85e124f6d7b9", func := "loop.example/vectorstore/laws.FnNearestDrop", spec := "fnNearestDrop", unfollowed := true, recurses := true, apart := false, narrowed := true }
def FnNearestDropUptoSaid : Prop := fnNearestDropUptoRow.holds Try.pinned (OpenSpec.upto fnNearestDropSpec)

/-- 'laws.FnWithinDistMore', WHERE WHAT IT READS IS OF BULK AT MOST 1048576: true; the input reads as it did. -/
def fnWithinDistMoreUptoRow : OpenClaim := { program := "ytdjjikmfkejdiac", sum := "7a42047e7f20bbcf4877e5bbe2f40c1d37ccb64078c57aba89eb85e124f6d7b9", func := "loop.example/vectorstore/laws.FnWithinDistMore", spec := "fnWithinDistMore", unfollowed := true, recurses := true, apart := false, narrowed := true }
def FnWithinDistMoreUptoSaid : Prop := fnWithinDistMoreUptoRow.holds Try.pinned (OpenSpec.upto fnWithinDistMoreSpec)

end Rows
end Go.Proofs.Ytdjjikmfkejdiac
