/-
  No cell of these rows narrows 'for every input' (looked for: loops, veiled, ifaces, maps, wideKeys, modest, calm, conditions, laid).
  DERIVED. THE GIVEN ROWS OF THIS SEAT. 8 by the template 'for every input the law returns true; each argument reads behind the call as it read before'; 0 by the template 'total and deterministic' (their statements: YtmgifhehikeplabTotals.lean).
  GIVEN WITH THE SEED: the statements are not yours to turn. If you find one false, say at which input.
  Laid BY PROGRAM, IN A SANDBOX (cutbox-rows.mjs): the forced cells as the released guide's own fill.sh prints them over the translation a9ec6f0f93a433f0… (all of the seat's roots in one cut). By AI agents, Wed Nov 11 2026. No macro, syntax, notation, axiom, sorry.
-/
import Derived.Test.YtmgifhehikeplabChecked
import GoSem.Claim
import GoSem.ClaimJoined
import GoSem.ClaimMapViews
import Derived.JoinedTies
import Derived.KernelRfl
namespace Go.Proofs.Ytmgifhehikeplab
/- THE CELL 'sum', in the pinned program and in every row, IS THE sha256 OF THE DUMP (.gsa) THAT YtmgifhehikeplabProg.lean LOADS. Nothing in Lean hashes anything: it is a label: what it is worth is what the hold of that sum in a sandbox is worth. -/
noncomputable def Try.pinned : Pinned := { name := "ytmgifhehikeplab", sum := "a9ec6f0f93a433f0374d968d95ecb932eb835345ed2116897ef78d2058c2f5f8", checked := Try.checked }
namespace Rows
def none {H : Type} : Left H := { results := [], args := [] }

/-- 'laws.FnListsOfOrder': WHATEVER THE INPUT: true; the input reads as it did. -/
def fnListsOfOrderSpec : ChangeSpec := { name := "fnListsOfOrder", fn := fun _ => fun
  | [d] => { results := [.lit (.bool true)], args := [d] }
  | _ => none }
def fnListsOfOrderRow : OpenClaim := { program := "ytmgifhehikeplab", sum := "a9ec6f0f93a433f0374d968d95ecb932eb835345ed2116897ef78d2058c2f5f8", func := "loop.example/vectorstore/laws.FnListsOfOrder", spec := "fnListsOfOrder", apart := false }
def FnListsOfOrderSaid : Prop := fnListsOfOrderRow.holds Try.pinned (OpenSpec.ofChange fnListsOfOrderSpec)

/-- ITS FALSE NEIGHBOUR: 'it returns false'. Refute it at one input. -/
def fnListsOfOrderWrong : ChangeSpec := { name := "fnListsOfOrder", fn := fun _ => fun
  | [d] => { results := [.lit (.bool false)], args := [d] }
  | _ => none }
def FnListsOfOrderWrongFalsely : Prop := fnListsOfOrderRow.holds Try.pinned (OpenSpec.ofChange fnListsOfOrderWrong)

/-- 'laws.FnProbeOrder': WHATEVER THE INPUT: true; the input reads as it did. -/
def fnProbeOrderSpec : ChangeSpec := { name := "fnProbeOrder", fn := fun _ => fun
  | [d] => { results := [.lit (.bool true)], args := [d] }
  | _ => none }
def fnProbeOrderRow : OpenClaim := { program := "ytmgifhehikeplab", sum := "a9ec6f0f93a433f0374d968d95ecb932eb835345ed2116897ef78d2058c2f5f8", func := "loop.example/vectorstore/laws.FnProbeOrder", spec := "fnProbeOrder", unfollowed := true, recurses := true, apart := false }
def FnProbeOrderSaid : Prop := fnProbeOrderRow.holds Try.pinned (OpenSpec.ofChange fnProbeOrderSpec)

/-- ITS FALSE NEIGHBOUR: 'it returns false'. Refute it at one input. -/
def fnProbeOrderWrong : ChangeSpec := { name := "fnProbeOrder", fn := fun _ => fun
  | [d] => { results := [.lit (.bool false)], args := [d] }
  | _ => none }
def FnProbeOrderWrongFalsely : Prop := fnProbeOrderRow.holds Try.pinned (OpenSpec.ofChange fnProbeOrderWrong)

/-- 'laws.FnProbeOrderMore': WHATEVER THE INPUT: true; the input reads as it did. -/
def fnProbeOrderMoreSpec : ChangeSpec := { name := "fnProbeOrderMore", fn := fun _ => fun
  | [d] => { results := [.lit (.bool true)], args := [d] }
  | _ => none }
def fnProbeOrderMoreRow : OpenClaim := { program := "ytmgifhehikeplab", sum := "a9ec6f0f93a433f0374d968d95ecb932eb835345ed2116897ef78d2058c2f5f8", func := "loop.example/vectorstore/laws.FnProbeOrderMore", spec := "fnProbeOrderMore", unfollowed := true, recurses := true, apart := false }
def FnProbeOrderMoreSaid : Prop := fnProbeOrderMoreRow.holds Try.pinned (OpenSpec.ofChange fnProbeOrderMoreSpec)

/-- ITS FALSE NEIGHBOUR: 'it returns false'. Refute it at one input. -/
def fnProbeOrderMoreWrong : ChangeSpec := { name := "fnProbeOrderMore", fn := fun _ => fun
  | [d] => { results := [.lit (.bool false)], args := [d] }
  | _ => none }
def FnProbeOrderMoreWrongFalsely : Prop := fnProbeOrderMoreRow.holds Try.pinned (OpenSpec.ofChange fnProbeOrderMoreWrong)

/-- 'laws.FnProbeCost': WHATEVER THE INPUT: true; the input reads as it did. -/
def fnProbeCostSpec : ChangeSpec := { name := "fnProbeCost", fn := fun _ => fun
  | [d] => { results := [.lit (.bool true)], args := [d] }
  | _ => none }
def fnProbeCostRow : OpenClaim := { program := "ytmgifhehikeplab", sum := "a9ec6f0f93a433f0374d968d95ecb932eb835345ed2116897ef78d2058c2f5f8", func := "loop.example/vectorstore/laws.FnProbeCost", spec := "fnProbeCost", unfollowed := true, recurses := true, apart := false }
def FnProbeCostSaid : Prop := fnProbeCostRow.holds Try.pinned (OpenSpec.ofChange fnProbeCostSpec)

/-- ITS FALSE NEIGHBOUR: 'it returns false'. Refute it at one input. -/
def fnProbeCostWrong : ChangeSpec := { name := "fnProbeCost", fn := fun _ => fun
  | [d] => { results := [.lit (.bool false)], args := [d] }
  | _ => none }
def FnProbeCostWrongFalsely : Prop := fnProbeCostRow.holds Try.pinned (OpenSpec.ofChange fnProbeCostWrong)

/-- 'laws.FnCentreOfMore': WHATEVER THE INPUT: true; the input reads as it did. -/
def fnCentreOfMoreSpec : ChangeSpec := { name := "fnCentreOfMore", fn := fun _ => fun
  | [d] => { results := [.lit (.bool true)], args := [d] }
  | _ => none }
def fnCentreOfMoreRow : OpenClaim := { program := "ytmgifhehikeplab", sum := "a9ec6f0f93a433f0374d968d95ecb932eb835345ed2116897ef78d2058c2f5f8", func := "loop.example/vectorstore/laws.FnCentreOfMore", spec := "fnCentreOfMore", apart := false }
def FnCentreOfMoreSaid : Prop := fnCentreOfMoreRow.holds Try.pinned (OpenSpec.ofChange fnCentreOfMoreSpec)

/-- ITS FALSE NEIGHBOUR: 'it returns false'. Refute it at one input. -/
def fnCentreOfMoreWrong : ChangeSpec := { name := "fnCentreOfMore", fn := fun _ => fun
  | [d] => { results := [.lit (.bool false)], args := [d] }
  | _ => none }
def FnCentreOfMoreWrongFalsely : Prop := fnCentreOfMoreRow.holds Try.pinned (OpenSpec.ofChange fnCentreOfMoreWrong)

/-- 'laws.FnSpreadOfCentre': WHATEVER THE INPUT: true; the input reads as it did. -/
def fnSpreadOfCentreSpec : ChangeSpec := { name := "fnSpreadOfCentre", fn := fun _ => fun
  | [d] => { results := [.lit (.bool true)], args := [d] }
  | _ => none }
def fnSpreadOfCentreRow : OpenClaim := { program := "ytmgifhehikeplab", sum := "a9ec6f0f93a433f0374d968d95ecb932eb835345ed2116897ef78d2058c2f5f8", func := "loop.example/vectorstore/laws.FnSpreadOfCentre", spec := "fnSpreadOfCentre", unfollowed := true, recurses := true, apart := false }
def FnSpreadOfCentreSaid : Prop := fnSpreadOfCentreRow.holds Try.pinned (OpenSpec.ofChange fnSpreadOfCentreSpec)

/-- ITS FALSE NEIGHBOUR: 'it returns false'. Refute it at one input. -/
def fnSpreadOfCentreWrong : ChangeSpec := { name := "fnSpreadOfCentre", fn := fun _ => fun
  | [d] => { results := [.lit (.bool false)], args := [d] }
  | _ => none }
def FnSpreadOfCentreWrongFalsely : Prop := fnSpreadOfCentreRow.holds Try.pinned (OpenSpec.ofChange fnSpreadOfCentreWrong)

/-- 'laws.FnAssignItemsLists': WHATEVER THE INPUT: true; the input reads as it did. -/
def fnAssignItemsListsSpec : ChangeSpec := { name := "fnAssignItemsLists", fn := fun _ => fun
  | [d] => { results := [.lit (.bool true)], args := [d] }
  | _ => none }
def fnAssignItemsListsRow : OpenClaim := { program := "ytmgifhehikeplab", sum := "a9ec6f0f93a433f0374d968d95ecb932eb835345ed2116897ef78d2058c2f5f8", func := "loop.example/vectorstore/laws.FnAssignItemsLists", spec := "fnAssignItemsLists", apart := false }
def FnAssignItemsListsSaid : Prop := fnAssignItemsListsRow.holds Try.pinned (OpenSpec.ofChange fnAssignItemsListsSpec)

/-- ITS FALSE NEIGHBOUR: 'it returns false'. Refute it at one input. -/
def fnAssignItemsListsWrong : ChangeSpec := { name := "fnAssignItemsLists", fn := fun _ => fun
  | [d] => { results := [.lit (.bool false)], args := [d] }
  | _ => none }
def FnAssignItemsListsWrongFalsely : Prop := fnAssignItemsListsRow.holds Try.pinned (OpenSpec.ofChange fnAssignItemsListsWrong)

/-- 'laws.FnProbeCostMore': WHATEVER THE INPUT: true; the input reads as it did. -/
def fnProbeCostMoreSpec : ChangeSpec := { name := "fnProbeCostMore", fn := fun _ => fun
  | [d] => { results := [.lit (.bool true)], args := [d] }
  | _ => none }
def fnProbeCostMoreRow : OpenClaim := { program := "ytmgifhehikeplab", sum := "a9ec6f0f93a433f0374d968d95ecb932eb835345ed2116897ef78d2058c2f5f8", func := "loop.example/vectorstore/laws.FnProbeCostMore", spec := "fnProbeCostMore", unfollowed := true, recurses := true, apart := false }
def FnProbeCostMoreSaid : Prop := fnProbeCostMoreRow.holds Try.pinned (OpenSpec.ofChange fnProbeCostMoreSpec)

/-- ITS FALSE NEIGHBOUR: 'it returns false'. Refute it at one input. -/
def fnProbeCostMoreWrong : ChangeSpec := { name := "fnProbeCostMore", fn := fun _ => fun
  | [d] => { results := [.lit (.bool false)], args := [d] }
  | _ => none }
def FnProbeCostMoreWrongFalsely : Prop := fnProbeCostMoreRow.holds Try.pinned (OpenSpec.ofChange fnProbeCostMoreWrong)

/- THE SECOND FORM. 'bulk': how many values and letters a reading holds, each counted each time it is reached (what is shared counts as often as it is met; a slice's spare places count too). A statement '..UptoSaid' is the law's where the arguments, and the package variables that the reading takes, are together of bulk at most 1048576: NARROWER than '..Said'. Prove '..Said' where nothing that the law and all that it calls make is longer than what came in: it says more and counts as full. Else prove '..UptoSaid'. A law counts once. -/
mutual
def uptoBulk {H : Type} : DataW H → Nat
  | .lit (.string bytes) => bytes.length + 1
  | .lit _ => 1
  | .nil => 1
  | .ptr d => uptoBulk d + 1
  | .slice elems spare => uptoBulkAll elems + uptoBulkAll spare + 1
  | .agg parts => uptoBulkAll parts + 1
  | .iface _ d => uptoBulk d + 1
  | .map entries => uptoBulkEntries entries + 1
  | .held _ => 1
def uptoBulkAll {H : Type} : List (DataW H) → Nat
  | [] => 0
  | d :: r => uptoBulk d + uptoBulkAll r
def uptoBulkEntries {H : Type} : List (Lit × DataW H) → Nat
  | [] => 0
  | x :: r => uptoBulkEntry x + uptoBulkEntries r
def uptoBulkEntry {H : Type} : Lit × DataW H → Nat
  | (.string bytes, d) => bytes.length + uptoBulk d + 1
  | (_, d) => uptoBulk d + 1
 end
def uptoSmall : (H : Type) → List (DataW H) → Bool := fun _ ds => decide (uptoBulkAll ds ≤ 1048576)
def OpenSpec.upto (s : _root_.Go.ChangeSpec) : _root_.Go.OpenSpec := { _root_.Go.OpenSpec.ofChange s with cond := some uptoSmall }

/-- 'laws.FnListsOfOrder', WHERE WHAT IT READS IS OF BULK AT MOST 1048576: true; the input reads as it did. -/
def fnListsOfOrderUptoRow : OpenClaim := { program := "ytmgifhehikeplab", sum := "a9ec6f0f93a433f0374d968d95ecb932eb835345ed2116897ef78d2058c2f5f8", func := "loop.example/vectorstore/laws.FnListsOfOrder", spec := "fnListsOfOrder", apart := false, narrowed := true }
def FnListsOfOrderUptoSaid : Prop := fnListsOfOrderUptoRow.holds Try.pinned (OpenSpec.upto fnListsOfOrderSpec)

/-- 'laws.FnProbeOrder', WHERE WHAT IT READS IS OF BULK AT MOST 1048576: true; the input reads as it did. -/
def fnProbeOrderUptoRow : OpenClaim := { program := "ytmgifhehikeplab", sum := "a9ec6f0f93a433f0374d968d95ecb932eb835345ed2116897ef78d2058c2f5f8", func := "loop.example/vectorstore/laws.FnProbeOrder", spec := "fnProbeOrder", unfollowed := true, recurses := true, apart := false, narrowed := true }
def FnProbeOrderUptoSaid : Prop := fnProbeOrderUptoRow.holds Try.pinned (OpenSpec.upto fnProbeOrderSpec)

/-- 'laws.FnProbeOrderMore', WHERE WHAT IT READS IS OF BULK AT MOST 1048576: true; the input reads as it did. -/
def fnProbeOrderMoreUptoRow : OpenClaim := { program := "ytmgifhehikeplab", sum := "a9ec6f0f93a433f0374d968d95ecb932eb835345ed2116897ef78d2058c2f5f8", func := "loop.example/vectorstore/laws.FnProbeOrderMore", spec := "fnProbeOrderMore", unfollowed := true, recurses := true, apart := false, narrowed := true }
def FnProbeOrderMoreUptoSaid : Prop := fnProbeOrderMoreUptoRow.holds Try.pinned (OpenSpec.upto fnProbeOrderMoreSpec)

/-- 'laws.FnProbeCost', WHERE WHAT IT READS IS OF BULK AT MOST 1048576: true; the input reads as it did. -/
def fnProbeCostUptoRow : OpenClaim := { program := "ytmgifhehikeplab", sum := "a9ec6f0f93a433f0374d968d95ecb932eb835345ed2116897ef78d2058c2f5f8", func := "loop.example/vectorstore/laws.FnProbeCost", spec := "fnProbeCost", unfollowed := true, recurses := true, apart := false, narrowed := true }
def FnProbeCostUptoSaid : Prop := fnProbeCostUptoRow.holds Try.pinned (OpenSpec.upto fnProbeCostSpec)

/-- 'laws.FnCentreOfMore', WHERE WHAT IT READS IS OF BULK AT MOST 1048576: true; the input reads as it did. -/
def fnCentreOfMoreUptoRow : OpenClaim := { program := "ytmgifhehikeplab", sum := "a9ec6f0f93a433f0374d968d95ecb932eb835345ed2116897ef78d2058c2f5f8", func := "loop.example/vectorstore/laws.FnCentreOfMore", spec := "fnCentreOfMore", apart := false, narrowed := true }
def FnCentreOfMoreUptoSaid : Prop := fnCentreOfMoreUptoRow.holds Try.pinned (OpenSpec.upto fnCentreOfMoreSpec)

/-- 'laws.FnSpreadOfCentre', WHERE WHAT IT READS IS OF BULK AT MOST 1048576: true; the input reads as it did. -/
def fnSpreadOfCentreUptoRow : OpenClaim := { program := "ytmgifhehikeplab", sum := "a9ec6f0f93a433f0374d968d95ecb932eb835345ed2116897ef78d2058c2f5f8", func := "loop.example/vectorstore/laws.FnSpreadOfCentre", spec := "fnSpreadOfCentre", unfollowed := true, recurses := true, apart := false, narrowed := true }
def FnSpreadOfCentreUptoSaid : Prop := fnSpreadOfCentreUptoRow.holds Try.pinned (OpenSpec.upto fnSpreadOfCentreSpec)

/-- 'laws.FnAssignItemsLists', WHERE WHAT IT READS IS OF BULK AT MOST 1048576: true; the input reads as it did. -/
def fnAssignItemsListsUptoRow : OpenClaim := { program := "ytmgifhehikeplab", sum := "a9ec6f0f93a433f0374d968d95ecb932eb835345ed2116897ef78d2058c2f5f8", func := "loop.example/vectorstore/laws.FnAssignItemsLists", spec := "fnAssignItemsLists", apart := false, narrowed := true }
def FnAssignItemsListsUptoSaid : Prop := fnAssignItemsListsUptoRow.holds Try.pinned (OpenSpec.upto fnAssignItemsListsSpec)

/-- 'laws.FnProbeCostMore', WHERE WHAT IT READS IS OF BULK AT MOST 1048576: true; the input reads as it did. -/
def fnProbeCostMoreUptoRow : OpenClaim := { program := "ytmgifhehikeplab", sum := "a9ec6f0f93a433f0374d968d95ecb932eb835345ed2116897ef78d2058c2f5f8", func := "loop.example/vectorstore/laws.FnProbeCostMore", spec := "fnProbeCostMore", unfollowed := true, recurses := true, apart := false, narrowed := true }
def FnProbeCostMoreUptoSaid : Prop := fnProbeCostMoreUptoRow.holds Try.pinned (OpenSpec.upto fnProbeCostMoreSpec)

end Rows
end Go.Proofs.Ytmgifhehikeplab
