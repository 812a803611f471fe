/-
  No cell of these rows narrows 'for every input' (looked for: loops, veiled, ifaces, maps, wideKeys, modest, calm, conditions, laid).
  DERIVED. THE GIVEN ROWS OF THIS SEAT. 2 by the template 'for every input the law returns true; each argument reads behind the call as it read before'; 0 by the template 'total and deterministic' (their statements: YtpccmkphddipdacTotals.lean).
  GIVEN WITH THE SEED: the statements are not yours to turn. If you find one false, say at which input.
  Laid BY PROGRAM, IN A SANDBOX (cutbox-rows.mjs): the forced cells as the released guide's own fill.sh prints them over the translation 3844f61010267131… (all of the seat's roots in one cut). By AI agents, Wed Nov 11 2026. No macro, syntax, notation, axiom, sorry.
-/
import Derived.Test.YtpccmkphddipdacChecked
import GoSem.Claim
import GoSem.ClaimJoined
import GoSem.ClaimMapViews
import Derived.JoinedTies
import Derived.KernelRfl
namespace Go.Proofs.Ytpccmkphddipdac
/- THE CELL 'sum', in the pinned program and in every row, IS THE sha256 OF THE DUMP (.gsa) THAT YtpccmkphddipdacProg.lean LOADS. Nothing in Lean hashes anything: it is a label: what it is worth is what the hold of that sum in a sandbox is worth. -/
noncomputable def Try.pinned : Pinned := { name := "ytpccmkphddipdac", sum := "3844f61010267131504e187db0e242fd9913f79ae8eb0e0e890587ddf06b3489", checked := Try.checked }
namespace Rows
def none {H : Type} : Left H := { results := [], args := [] }

/-- 'laws.FnExactShardItems': WHATEVER THE INPUT: true; the input reads as it did. -/
def fnExactShardItemsSpec : ChangeSpec := { name := "fnExactShardItems", fn := fun _ => fun
  | [d1, d2, d3] => { results := [.lit (.bool true)], args := [d1, d2, d3] }
  | _ => none }
def fnExactShardItemsRow : OpenClaim := { program := "ytpccmkphddipdac", sum := "3844f61010267131504e187db0e242fd9913f79ae8eb0e0e890587ddf06b3489", func := "loop.example/vectorstore/laws.FnExactShardItems", spec := "fnExactShardItems", unfollowed := true, recurses := true, apart := false }
def FnExactShardItemsSaid : Prop := fnExactShardItemsRow.holds Try.pinned (OpenSpec.ofChange fnExactShardItemsSpec)

/-- ITS FALSE NEIGHBOUR: 'it returns false'. Refute it at one input. -/
def fnExactShardItemsWrong : ChangeSpec := { name := "fnExactShardItems", fn := fun _ => fun
  | [d1, d2, d3] => { results := [.lit (.bool false)], args := [d1, d2, d3] }
  | _ => none }
def FnExactShardItemsWrongFalsely : Prop := fnExactShardItemsRow.holds Try.pinned (OpenSpec.ofChange fnExactShardItemsWrong)

/-- 'laws.FnExactMovedKeys': WHATEVER THE INPUT: true; the input reads as it did. -/
def fnExactMovedKeysSpec : ChangeSpec := { name := "fnExactMovedKeys", fn := fun _ => fun
  | [d1, d2, d3] => { results := [.lit (.bool true)], args := [d1, d2, d3] }
  | _ => none }
def fnExactMovedKeysRow : OpenClaim := { program := "ytpccmkphddipdac", sum := "3844f61010267131504e187db0e242fd9913f79ae8eb0e0e890587ddf06b3489", func := "loop.example/vectorstore/laws.FnExactMovedKeys", spec := "fnExactMovedKeys", unfollowed := true, recurses := true, apart := false }
def FnExactMovedKeysSaid : Prop := fnExactMovedKeysRow.holds Try.pinned (OpenSpec.ofChange fnExactMovedKeysSpec)

/-- ITS FALSE NEIGHBOUR: 'it returns false'. Refute it at one input. -/
def fnExactMovedKeysWrong : ChangeSpec := { name := "fnExactMovedKeys", fn := fun _ => fun
  | [d1, d2, d3] => { results := [.lit (.bool false)], args := [d1, d2, d3] }
  | _ => none }
def FnExactMovedKeysWrongFalsely : Prop := fnExactMovedKeysRow.holds Try.pinned (OpenSpec.ofChange fnExactMovedKeysWrong)

/- THE SECOND FORM. 'bulk': how many values and letters a reading holds, each counted each time it is reached (what is shared counts as often as it is met; a slice's spare places count too). A statement '..UptoSaid' is the law's where the arguments, and the package variables that the reading takes, are together of bulk at most 1048576: NARROWER than '..Said'. Prove '..Said' where nothing that the law and all that it calls make is longer than what came in: it says more and counts as full. Else prove '..UptoSaid'. A law counts once. -/
mutual
def uptoBulk {H : Type} : DataW H → Nat
  | .lit (.string bytes) => bytes.length + 1
  | .lit _ => 1
  | .nil => 1
  | .ptr d => uptoBulk d + 1
  | .slice elems spare => uptoBulkAll elems + uptoBulkAll spare + 1
  | .agg parts => uptoBulkAll parts + 1
  | .iface _ d => uptoBulk d + 1
  | .map entries => uptoBulkEntries entries + 1
  | .held _ => 1
def uptoBulkAll {H : Type} : List (DataW H) → Nat
  | [] => 0
  | d :: r => uptoBulk d + uptoBulkAll r
def uptoBulkEntries {H : Type} : List (Lit × DataW H) → Nat
  | [] => 0
  | x :: r => uptoBulkEntry x + uptoBulkEntries r
def uptoBulkEntry {H : Type} : Lit × DataW H → Nat
  | (.string bytes, d) => bytes.length + uptoBulk d + 1
  | (_, d) => uptoBulk d + 1
 end
def uptoSmall : (H : Type) → List (DataW H) → Bool := fun _ ds => decide (uptoBulkAll ds ≤ 1048576)
def OpenSpec.upto (s : _root_.Go.ChangeSpec) : _root_.Go.OpenSpec := { _root_.Go.OpenSpec.ofChange s with cond := some uptoSmall }

/-- 'laws.FnExactShardItems', WHERE WHAT IT READS IS OF BULK AT MOST 1048576: true; the input reads as it did. -/
def fnExactShardItemsUptoRow : OpenClaim := { program := "ytpccmkphddipdac", sum := "3844f61010267131504e187db0e242fd9913f79ae8eb0e0e890587ddf06b3489", func := "loop.example/vectorstore/laws.FnExactShardItems", spec := "fnExactShardItems", unfollowed := true, recurses := true, apart := false, narrowed := true }
def FnExactShardItemsUptoSaid : Prop := fnExactShardItemsUptoRow.holds Try.pinned (OpenSpec.upto fnExactShardItemsSpec)

/-- 'laws.FnExactMovedKeys', WHERE WHAT IT READS IS OF BULK AT MOST 1048576: true; the input reads as it did. -/
def fnExactMovedKeysUptoRow : OpenClaim := { program := "ytpccmkphddipdac", sum := "3844f61010267131504e187db0e242fd9913f79ae8eb0e0e890587ddf06b3489", func := "loop.example/vectorstore/laws.FnExactMovedKeys", spec := "fnExactMovedKeys", unfollowed := true, recurses := true, apart := false, narrowed := true }
def FnExactMovedKeysUptoSaid : Prop := fnExactMovedKeysUptoRow.holds Try.pinned (OpenSpec.upto fnExactMovedKeysSpec)

end Rows
end Go.Proofs.Ytpccmkphddipdac
