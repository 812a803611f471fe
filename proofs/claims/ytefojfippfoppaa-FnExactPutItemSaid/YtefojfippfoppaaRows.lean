/-
  No cell of these rows narrows 'for every input' (looked for: loops, veiled, ifaces, maps, wideKeys, modest, calm, conditions, laid).
  DERIVED. THE GIVEN ROWS OF THIS SEAT. 7 by the template 'for every input the law returns true; each argument reads behind the call as it read before'; 0 by the template 'total and deterministic' (their statements: YtefojfippfoppaaTotals.lean).
  GIVEN WITH THE SEED: the statements are not yours to turn. If you find one false, say at which input.
  Laid BY PROGRAM, IN A SANDBOX (cutbox-rows.mjs): the forced cells as the released guide's own fill.sh prints them over the translation 3cfac8f4edcc7e4b… (all of the seat's roots in one cut). By AI agents, Wed Nov 11 2026. No macro, syntax, notation, axiom, sorry.
-/
import Derived.Test.YtefojfippfoppaaChecked
import GoSem.Claim
import GoSem.ClaimJoined
import GoSem.ClaimMapViews
import Derived.JoinedTies
import Derived.KernelRfl
namespace Go.Proofs.Ytefojfippfoppaa
/- THE CELL 'sum', in the pinned program and in every row, IS THE sha256 OF THE DUMP (.gsa) THAT YtefojfippfoppaaProg.lean LOADS. Nothing in Lean hashes anything: it is a label: what it is worth is what the hold of that sum in a sandbox is worth. -/
noncomputable def Try.pinned : Pinned := { name := "ytefojfippfoppaa", sum := "3cfac8f4edcc7e4b584d2ed5d0cf30474b3087b2fd52ea56be1e0808bae9c79e", checked := Try.checked }
namespace Rows
def none {H : Type} : Left H := { results := [], args := [] }

/-- 'laws.FnListsOf': WHATEVER THE INPUT: true; the input reads as it did. -/
def fnListsOfSpec : ChangeSpec := { name := "fnListsOf", fn := fun _ => fun
  | [d] => { results := [.lit (.bool true)], args := [d] }
  | _ => none }
def fnListsOfRow : OpenClaim := { program := "ytefojfippfoppaa", sum := "3cfac8f4edcc7e4b584d2ed5d0cf30474b3087b2fd52ea56be1e0808bae9c79e", func := "loop.example/vectorstore/laws.FnListsOf", spec := "fnListsOf", apart := false }
def FnListsOfSaid : Prop := fnListsOfRow.holds Try.pinned (OpenSpec.ofChange fnListsOfSpec)

/-- ITS FALSE NEIGHBOUR: 'it returns false'. Refute it at one input. -/
def fnListsOfWrong : ChangeSpec := { name := "fnListsOf", fn := fun _ => fun
  | [d] => { results := [.lit (.bool false)], args := [d] }
  | _ => none }
def FnListsOfWrongFalsely : Prop := fnListsOfRow.holds Try.pinned (OpenSpec.ofChange fnListsOfWrong)

/-- 'laws.FnListsOfOrder': WHATEVER THE INPUT: true; the input reads as it did. -/
def fnListsOfOrderSpec : ChangeSpec := { name := "fnListsOfOrder", fn := fun _ => fun
  | [d] => { results := [.lit (.bool true)], args := [d] }
  | _ => none }
def fnListsOfOrderRow : OpenClaim := { program := "ytefojfippfoppaa", sum := "3cfac8f4edcc7e4b584d2ed5d0cf30474b3087b2fd52ea56be1e0808bae9c79e", func := "loop.example/vectorstore/laws.FnListsOfOrder", spec := "fnListsOfOrder", apart := false }
def FnListsOfOrderSaid : Prop := fnListsOfOrderRow.holds Try.pinned (OpenSpec.ofChange fnListsOfOrderSpec)

/-- ITS FALSE NEIGHBOUR: 'it returns false'. Refute it at one input. -/
def fnListsOfOrderWrong : ChangeSpec := { name := "fnListsOfOrder", fn := fun _ => fun
  | [d] => { results := [.lit (.bool false)], args := [d] }
  | _ => none }
def FnListsOfOrderWrongFalsely : Prop := fnListsOfOrderRow.holds Try.pinned (OpenSpec.ofChange fnListsOfOrderWrong)

/-- 'laws.FnProbeCost': WHATEVER THE INPUT: true; the input reads as it did. -/
def fnProbeCostSpec : ChangeSpec := { name := "fnProbeCost", fn := fun _ => fun
  | [d] => { results := [.lit (.bool true)], args := [d] }
  | _ => none }
def fnProbeCostRow : OpenClaim := { program := "ytefojfippfoppaa", sum := "3cfac8f4edcc7e4b584d2ed5d0cf30474b3087b2fd52ea56be1e0808bae9c79e", func := "loop.example/vectorstore/laws.FnProbeCost", spec := "fnProbeCost", unfollowed := true, recurses := true, apart := false }
def FnProbeCostSaid : Prop := fnProbeCostRow.holds Try.pinned (OpenSpec.ofChange fnProbeCostSpec)

/-- ITS FALSE NEIGHBOUR: 'it returns false'. Refute it at one input. -/
def fnProbeCostWrong : ChangeSpec := { name := "fnProbeCost", fn := fun _ => fun
  | [d] => { results := [.lit (.bool false)], args := [d] }
  | _ => none }
def FnProbeCostWrongFalsely : Prop := fnProbeCostRow.holds Try.pinned (OpenSpec.ofChange fnProbeCostWrong)

/-- 'laws.FnAssignItemsLists': WHATEVER THE INPUT: true; the input reads as it did. -/
def fnAssignItemsListsSpec : ChangeSpec := { name := "fnAssignItemsLists", fn := fun _ => fun
  | [d] => { results := [.lit (.bool true)], args := [d] }
  | _ => none }
def fnAssignItemsListsRow : OpenClaim := { program := "ytefojfippfoppaa", sum := "3cfac8f4edcc7e4b584d2ed5d0cf30474b3087b2fd52ea56be1e0808bae9c79e", func := "loop.example/vectorstore/laws.FnAssignItemsLists", spec := "fnAssignItemsLists", apart := false }
def FnAssignItemsListsSaid : Prop := fnAssignItemsListsRow.holds Try.pinned (OpenSpec.ofChange fnAssignItemsListsSpec)

/-- ITS FALSE NEIGHBOUR: 'it returns false'. Refute it at one input. -/
def fnAssignItemsListsWrong : ChangeSpec := { name := "fnAssignItemsLists", fn := fun _ => fun
  | [d] => { results := [.lit (.bool false)], args := [d] }
  | _ => none }
def FnAssignItemsListsWrongFalsely : Prop := fnAssignItemsListsRow.holds Try.pinned (OpenSpec.ofChange fnAssignItemsListsWrong)

/-- 'laws.FnExactPutItem': WHATEVER THE INPUT: true; the input reads as it did. -/
def fnExactPutItemSpec : ChangeSpec := { name := "fnExactPutItem", fn := fun _ => fun
  | [d1, d2] => { results := [.lit (.bool true)], args := [d1, d2] }
  | _ => none }
def fnExactPutItemRow : OpenClaim := { program := "ytefojfippfoppaa", sum := "3cfac8f4edcc7e4b584d2ed5d0cf30474b3087b2fd52ea56be1e0808bae9c79e", func := "loop.example/vectorstore/laws.FnExactPutItem", spec := "fnExactPutItem", inPlace := ["slices.overlaps[loop.example/vectorstore/impl.Item]"], unfollowed := true, recurses := true, apart := false }
def FnExactPutItemSaid : Prop := fnExactPutItemRow.holds Try.pinned (OpenSpec.ofChange fnExactPutItemSpec)

/-- ITS FALSE NEIGHBOUR: 'it returns false'. Refute it at one input. -/
def fnExactPutItemWrong : ChangeSpec := { name := "fnExactPutItem", fn := fun _ => fun
  | [d1, d2] => { results := [.lit (.bool false)], args := [d1, d2] }
  | _ => none }
def FnExactPutItemWrongFalsely : Prop := fnExactPutItemRow.holds Try.pinned (OpenSpec.ofChange fnExactPutItemWrong)

/-- 'laws.FnExactDropItem': WHATEVER THE INPUT: true; the input reads as it did. -/
def fnExactDropItemSpec : ChangeSpec := { name := "fnExactDropItem", fn := fun _ => fun
  | [d1, d2] => { results := [.lit (.bool true)], args := [d1, d2] }
  | _ => none }
def fnExactDropItemRow : OpenClaim := { program := "ytefojfippfoppaa", sum := "3cfac8f4edcc7e4b584d2ed5d0cf30474b3087b2fd52ea56be1e0808bae9c79e", func := "loop.example/vectorstore/laws.FnExactDropItem", spec := "fnExactDropItem", unfollowed := true, recurses := true, apart := false }
def FnExactDropItemSaid : Prop := fnExactDropItemRow.holds Try.pinned (OpenSpec.ofChange fnExactDropItemSpec)

/-- ITS FALSE NEIGHBOUR: 'it returns false'. Refute it at one input. -/
def fnExactDropItemWrong : ChangeSpec := { name := "fnExactDropItem", fn := fun _ => fun
  | [d1, d2] => { results := [.lit (.bool false)], args := [d1, d2] }
  | _ => none }
def FnExactDropItemWrongFalsely : Prop := fnExactDropItemRow.holds Try.pinned (OpenSpec.ofChange fnExactDropItemWrong)

/-- 'laws.FnExactMoveCentres': WHATEVER THE INPUT: true; the input reads as it did. -/
def fnExactMoveCentresSpec : ChangeSpec := { name := "fnExactMoveCentres", fn := fun _ => fun
  | [d1, d2] => { results := [.lit (.bool true)], args := [d1, d2] }
  | _ => none }
def fnExactMoveCentresRow : OpenClaim := { program := "ytefojfippfoppaa", sum := "3cfac8f4edcc7e4b584d2ed5d0cf30474b3087b2fd52ea56be1e0808bae9c79e", func := "loop.example/vectorstore/laws.FnExactMoveCentres", spec := "fnExactMoveCentres", apart := false }
def FnExactMoveCentresSaid : Prop := fnExactMoveCentresRow.holds Try.pinned (OpenSpec.ofChange fnExactMoveCentresSpec)

/-- ITS FALSE NEIGHBOUR: 'it returns false'. Refute it at one input. -/
def fnExactMoveCentresWrong : ChangeSpec := { name := "fnExactMoveCentres", fn := fun _ => fun
  | [d1, d2] => { results := [.lit (.bool false)], args := [d1, d2] }
  | _ => none }
def FnExactMoveCentresWrongFalsely : Prop := fnExactMoveCentresRow.holds Try.pinned (OpenSpec.ofChange fnExactMoveCentresWrong)

/- THE SECOND FORM. 'bulk': how many values and letters a reading holds, each counted each time it is reached (what is shared counts as often as it is met; a slice's spare places count too). A statement '..UptoSaid' is the law's where the arguments, and the package variables that the reading takes, are together of bulk at most 1048576: NARROWER than '..Said'. Prove '..Said' where nothing that the law and all that it calls make is longer than what came in: it says more and counts as full. Else prove '..UptoSaid'. A law counts once. -/
mutual
def uptoBulk {H : Type} : DataW H → Nat
  | .lit (.string bytes) => bytes.length + 1
  | .lit _ => 1
  | .nil => 1
  | .ptr d => uptoBulk d + 1
  | .slice elems spare => uptoBulkAll elems + uptoBulkAll spare + 1
  | .agg parts => uptoBulkAll parts + 1
  | .iface _ d => uptoBulk d + 1
  | .map entries => uptoBulkEntries entries + 1
  | .held _ => 1
def uptoBulkAll {H : Type} : List (DataW H) → Nat
  | [] => 0
  | d :: r => uptoBulk d + uptoBulkAll r
def uptoBulkEntries {H : Type} : List (Lit × DataW H) → Nat
  | [] => 0
  | x :: r => uptoBulkEntry x + uptoBulkEntries r
def uptoBulkEntry {H : Type} : Lit × DataW H → Nat
  | (.string bytes, d) => bytes.length + uptoBulk d + 1
  | (_, d) => uptoBulk d + 1
 end
def uptoSmall : (H : Type) → List (DataW H) → Bool := fun _ ds => decide (uptoBulkAll ds ≤ 1048576)
def OpenSpec.upto (s : _root_.Go.ChangeSpec) : _root_.Go.OpenSpec := { _root_.Go.OpenSpec.ofChange s with cond := some uptoSmall }

/-- 'laws.FnListsOf', WHERE WHAT IT READS IS OF BULK AT MOST 1048576: true; the input reads as it did. -/
def fnListsOfUptoRow : OpenClaim := { program := "ytefojfippfoppaa", sum := "3cfac8f4edcc7e4b584d2ed5d0cf30474b3087b2fd52ea56be1e0808bae9c79e", func := "loop.example/vectorstore/laws.FnListsOf", spec := "fnListsOf", apart := false, narrowed := true }
def FnListsOfUptoSaid : Prop := fnListsOfUptoRow.holds Try.pinned (OpenSpec.upto fnListsOfSpec)

/-- 'laws.FnListsOfOrder', WHERE WHAT IT READS IS OF BULK AT MOST 1048576: true; the input reads as it did. -/
def fnListsOfOrderUptoRow : OpenClaim := { program := "ytefojfippfoppaa", sum := "3cfac8f4edcc7e4b584d2ed5d0cf30474b3087b2fd52ea56be1e0808bae9c79e", func := "loop.example/vectorstore/laws.FnListsOfOrder", spec := "fnListsOfOrder", apart := false, narrowed := true }
def FnListsOfOrderUptoSaid : Prop := fnListsOfOrderUptoRow.holds Try.pinned (OpenSpec.upto fnListsOfOrderSpec)

/-- 'laws.FnProbeCost', WHERE WHAT IT READS IS OF BULK AT MOST 1048576: true; the input reads as it did. -/
def fnProbeCostUptoRow : OpenClaim := { program := "ytefojfippfoppaa", sum := "3cfac8f4edcc7e4b584d2ed5d0cf30474b3087b2fd52ea56be1e0808bae9c79e", func := "loop.example/vectorstore/laws.FnProbeCost", spec := "fnProbeCost", unfollowed := true, recurses := true, apart := false, narrowed := true }
def FnProbeCostUptoSaid : Prop := fnProbeCostUptoRow.holds Try.pinned (OpenSpec.upto fnProbeCostSpec)

/-- 'laws.FnAssignItemsLists', WHERE WHAT IT READS IS OF BULK AT MOST 1048576: true; the input reads as it did. -/
def fnAssignItemsListsUptoRow : OpenClaim := { program := "ytefojfippfoppaa", sum := "3cfac8f4edcc7e4b584d2ed5d0cf30474b3087b2fd52ea56be1e0808bae9c79e", func := "loop.example/vectorstore/laws.FnAssignItemsLists", spec := "fnAssignItemsLists", apart := false, narrowed := true }
def FnAssignItemsListsUptoSaid : Prop := fnAssignItemsListsUptoRow.holds Try.pinned (OpenSpec.upto fnAssignItemsListsSpec)

/-- 'laws.FnExactPutItem', WHERE WHAT IT READS IS OF BULK AT MOST 1048576: true; the input reads as it did. -/
def fnExactPutItemUptoRow : OpenClaim := { program := "ytefojfippfoppaa", sum := "3cfac8f4edcc7e4b584d2ed5d0cf30474b3087b2fd52ea56be1e0808bae9c79e", func := "loop.example/vectorstore/laws.FnExactPutItem", spec := "fnExactPutItem", inPlace := ["slices.overlaps[loop.example/vectorstore/impl.Item]"], unfollowed := true, recurses := true, apart := false, narrowed := true }
def FnExactPutItemUptoSaid : Prop := fnExactPutItemUptoRow.holds Try.pinned (OpenSpec.upto fnExactPutItemSpec)

/-- 'laws.FnExactDropItem', WHERE WHAT IT READS IS OF BULK AT MOST 1048576: true; the input reads as it did. -/
def fnExactDropItemUptoRow : OpenClaim := { program := "ytefojfippfoppaa", sum := "3cfac8f4edcc7e4b584d2ed5d0cf30474b3087b2fd52ea56be1e0808bae9c79e", func := "loop.example/vectorstore/laws.FnExactDropItem", spec := "fnExactDropItem", unfollowed := true, recurses := true, apart := false, narrowed := true }
def FnExactDropItemUptoSaid : Prop := fnExactDropItemUptoRow.holds Try.pinned (OpenSpec.upto fnExactDropItemSpec)

/-- 'laws.FnExactMoveCentres', WHERE WHAT IT READS IS OF BULK AT MOST 1048576: true; the input reads as it did. -/
def fnExactMoveCentresUptoRow : OpenClaim := { program := "ytefojfippfoppaa", sum := "3cfac8f4edcc7e4b584d2ed5d0cf30474b3087b2fd52ea56be1e0808bae9c79e", func := "loop.example/vectorstore/laws.FnExactMoveCentres", spec := "fnExactMoveCentres", apart := false, narrowed := true }
def FnExactMoveCentresUptoSaid : Prop := fnExactMoveCentresUptoRow.holds Try.pinned (OpenSpec.upto fnExactMoveCentresSpec)

end Rows
end Go.Proofs.Ytefojfippfoppaa
