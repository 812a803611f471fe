/-
  No cell of these rows narrows 'for every input' (looked for: loops, veiled, ifaces, maps, wideKeys, modest, calm, conditions, laid).
  DERIVED. THE GIVEN ROWS OF THIS SEAT. 10 by the template 'for every input the law returns true; each argument reads behind the call as it read before'; 0 by the template 'total and deterministic' (their statements: YtjkpomkijjingaaTotals.lean).
  GIVEN WITH THE SEED: the statements are not yours to turn. If you find one false, say at which input.
  Laid BY PROGRAM, IN A SANDBOX (cutbox-rows.mjs): the forced cells as the released guide's own fill.sh prints them over the translation ac6eeb330fc14176… (all of the seat's roots in one cut). By AI agents, Wed Nov 11 2026. No macro, syntax, notation, axiom, sorry.
-/
import Derived.Test.YtjkpomkijjingaaChecked
import GoSem.Claim
import GoSem.ClaimJoined
import GoSem.ClaimMapViews
import Derived.JoinedTies
import Derived.KernelRfl
namespace Go.Proofs.Ytjkpomkijjingaa
/- THE CELL 'sum', in the pinned program and in every row, IS THE sha256 OF THE DUMP (.gsa) THAT YtjkpomkijjingaaProg.lean LOADS. Nothing in Lean hashes anything: it is a label: what it is worth is what the hold of that sum in a sandbox is worth. -/
noncomputable def Try.pinned : Pinned := { name := "ytjkpomkijjingaa", sum := "ac6eeb330fc141769dc51420586eebd110bae6e0b8191e1b32ae18d8471fb36b", checked := Try.checked }
namespace Rows
def none {H : Type} : Left H := { results := [], args := [] }

/-- 'laws.FnValidStore': WHATEVER THE INPUT: true; the input reads as it did. -/
def fnValidStoreSpec : ChangeSpec := { name := "fnValidStore", fn := fun _ => fun
  | [d] => { results := [.lit (.bool true)], args := [d] }
  | _ => none }
def fnValidStoreRow : OpenClaim := { program := "ytjkpomkijjingaa", sum := "ac6eeb330fc141769dc51420586eebd110bae6e0b8191e1b32ae18d8471fb36b", func := "loop.example/vectorstore/laws.FnValidStore", spec := "fnValidStore", apart := false }
def FnValidStoreSaid : Prop := fnValidStoreRow.holds Try.pinned (OpenSpec.ofChange fnValidStoreSpec)

/-- ITS FALSE NEIGHBOUR: 'it returns false'. Refute it at one input. -/
def fnValidStoreWrong : ChangeSpec := { name := "fnValidStore", fn := fun _ => fun
  | [d] => { results := [.lit (.bool false)], args := [d] }
  | _ => none }
def FnValidStoreWrongFalsely : Prop := fnValidStoreRow.holds Try.pinned (OpenSpec.ofChange fnValidStoreWrong)

/-- 'laws.FnPutItem': WHATEVER THE INPUT: true; the input reads as it did. -/
def fnPutItemSpec : ChangeSpec := { name := "fnPutItem", fn := fun _ => fun
  | [d] => { results := [.lit (.bool true)], args := [d] }
  | _ => none }
def fnPutItemRow : OpenClaim := { program := "ytjkpomkijjingaa", sum := "ac6eeb330fc141769dc51420586eebd110bae6e0b8191e1b32ae18d8471fb36b", func := "loop.example/vectorstore/laws.FnPutItem", spec := "fnPutItem", inPlace := ["slices.overlaps[loop.example/vectorstore/impl.Item]"], unfollowed := true, recurses := true, apart := false }
def FnPutItemSaid : Prop := fnPutItemRow.holds Try.pinned (OpenSpec.ofChange fnPutItemSpec)

/-- ITS FALSE NEIGHBOUR: 'it returns false'. Refute it at one input. -/
def fnPutItemWrong : ChangeSpec := { name := "fnPutItem", fn := fun _ => fun
  | [d] => { results := [.lit (.bool false)], args := [d] }
  | _ => none }
def FnPutItemWrongFalsely : Prop := fnPutItemRow.holds Try.pinned (OpenSpec.ofChange fnPutItemWrong)

/-- 'laws.FnPutItemOthers': WHATEVER THE INPUT: true; the input reads as it did. -/
def fnPutItemOthersSpec : ChangeSpec := { name := "fnPutItemOthers", fn := fun _ => fun
  | [d] => { results := [.lit (.bool true)], args := [d] }
  | _ => none }
def fnPutItemOthersRow : OpenClaim := { program := "ytjkpomkijjingaa", sum := "ac6eeb330fc141769dc51420586eebd110bae6e0b8191e1b32ae18d8471fb36b", func := "loop.example/vectorstore/laws.FnPutItemOthers", spec := "fnPutItemOthers", inPlace := ["slices.overlaps[loop.example/vectorstore/impl.Item]"], unfollowed := true, recurses := true, apart := false }
def FnPutItemOthersSaid : Prop := fnPutItemOthersRow.holds Try.pinned (OpenSpec.ofChange fnPutItemOthersSpec)

/-- ITS FALSE NEIGHBOUR: 'it returns false'. Refute it at one input. -/
def fnPutItemOthersWrong : ChangeSpec := { name := "fnPutItemOthers", fn := fun _ => fun
  | [d] => { results := [.lit (.bool false)], args := [d] }
  | _ => none }
def FnPutItemOthersWrongFalsely : Prop := fnPutItemOthersRow.holds Try.pinned (OpenSpec.ofChange fnPutItemOthersWrong)

/-- 'laws.FnPutItemTwice': WHATEVER THE INPUT: true; the input reads as it did. -/
def fnPutItemTwiceSpec : ChangeSpec := { name := "fnPutItemTwice", fn := fun _ => fun
  | [d] => { results := [.lit (.bool true)], args := [d] }
  | _ => none }
def fnPutItemTwiceRow : OpenClaim := { program := "ytjkpomkijjingaa", sum := "ac6eeb330fc141769dc51420586eebd110bae6e0b8191e1b32ae18d8471fb36b", func := "loop.example/vectorstore/laws.FnPutItemTwice", spec := "fnPutItemTwice", inPlace := ["slices.overlaps[loop.example/vectorstore/impl.Item]"], unfollowed := true, recurses := true, apart := false }
def FnPutItemTwiceSaid : Prop := fnPutItemTwiceRow.holds Try.pinned (OpenSpec.ofChange fnPutItemTwiceSpec)

/-- ITS FALSE NEIGHBOUR: 'it returns false'. Refute it at one input. -/
def fnPutItemTwiceWrong : ChangeSpec := { name := "fnPutItemTwice", fn := fun _ => fun
  | [d] => { results := [.lit (.bool false)], args := [d] }
  | _ => none }
def FnPutItemTwiceWrongFalsely : Prop := fnPutItemTwiceRow.holds Try.pinned (OpenSpec.ofChange fnPutItemTwiceWrong)

/-- 'laws.FnDropItem': WHATEVER THE INPUT: true; the input reads as it did. -/
def fnDropItemSpec : ChangeSpec := { name := "fnDropItem", fn := fun _ => fun
  | [d] => { results := [.lit (.bool true)], args := [d] }
  | _ => none }
def fnDropItemRow : OpenClaim := { program := "ytjkpomkijjingaa", sum := "ac6eeb330fc141769dc51420586eebd110bae6e0b8191e1b32ae18d8471fb36b", func := "loop.example/vectorstore/laws.FnDropItem", spec := "fnDropItem", inPlace := ["slices.overlaps[loop.example/vectorstore/impl.Item]"], unfollowed := true, recurses := true, apart := false }
def FnDropItemSaid : Prop := fnDropItemRow.holds Try.pinned (OpenSpec.ofChange fnDropItemSpec)

/-- ITS FALSE NEIGHBOUR: 'it returns false'. Refute it at one input. -/
def fnDropItemWrong : ChangeSpec := { name := "fnDropItem", fn := fun _ => fun
  | [d] => { results := [.lit (.bool false)], args := [d] }
  | _ => none }
def FnDropItemWrongFalsely : Prop := fnDropItemRow.holds Try.pinned (OpenSpec.ofChange fnDropItemWrong)

/-- 'laws.FnGetItem': WHATEVER THE INPUT: true; the input reads as it did. -/
def fnGetItemSpec : ChangeSpec := { name := "fnGetItem", fn := fun _ => fun
  | [d] => { results := [.lit (.bool true)], args := [d] }
  | _ => none }
def fnGetItemRow : OpenClaim := { program := "ytjkpomkijjingaa", sum := "ac6eeb330fc141769dc51420586eebd110bae6e0b8191e1b32ae18d8471fb36b", func := "loop.example/vectorstore/laws.FnGetItem", spec := "fnGetItem", unfollowed := true, recurses := true, apart := false }
def FnGetItemSaid : Prop := fnGetItemRow.holds Try.pinned (OpenSpec.ofChange fnGetItemSpec)

/-- ITS FALSE NEIGHBOUR: 'it returns false'. Refute it at one input. -/
def fnGetItemWrong : ChangeSpec := { name := "fnGetItem", fn := fun _ => fun
  | [d] => { results := [.lit (.bool false)], args := [d] }
  | _ => none }
def FnGetItemWrongFalsely : Prop := fnGetItemRow.holds Try.pinned (OpenSpec.ofChange fnGetItemWrong)

/-- 'laws.FnBoundsOfTight': WHATEVER THE INPUT: true; the input reads as it did. -/
def fnBoundsOfTightSpec : ChangeSpec := { name := "fnBoundsOfTight", fn := fun _ => fun
  | [d] => { results := [.lit (.bool true)], args := [d] }
  | _ => none }
def fnBoundsOfTightRow : OpenClaim := { program := "ytjkpomkijjingaa", sum := "ac6eeb330fc141769dc51420586eebd110bae6e0b8191e1b32ae18d8471fb36b", func := "loop.example/vectorstore/laws.FnBoundsOfTight", spec := "fnBoundsOfTight", apart := false }
def FnBoundsOfTightSaid : Prop := fnBoundsOfTightRow.holds Try.pinned (OpenSpec.ofChange fnBoundsOfTightSpec)

/-- ITS FALSE NEIGHBOUR: 'it returns false'. Refute it at one input. -/
def fnBoundsOfTightWrong : ChangeSpec := { name := "fnBoundsOfTight", fn := fun _ => fun
  | [d] => { results := [.lit (.bool false)], args := [d] }
  | _ => none }
def FnBoundsOfTightWrongFalsely : Prop := fnBoundsOfTightRow.holds Try.pinned (OpenSpec.ofChange fnBoundsOfTightWrong)

/-- 'laws.FnPutItemOrder': WHATEVER THE INPUT: true; the input reads as it did. -/
def fnPutItemOrderSpec : ChangeSpec := { name := "fnPutItemOrder", fn := fun _ => fun
  | [d] => { results := [.lit (.bool true)], args := [d] }
  | _ => none }
def fnPutItemOrderRow : OpenClaim := { program := "ytjkpomkijjingaa", sum := "ac6eeb330fc141769dc51420586eebd110bae6e0b8191e1b32ae18d8471fb36b", func := "loop.example/vectorstore/laws.FnPutItemOrder", spec := "fnPutItemOrder", inPlace := ["slices.overlaps[loop.example/vectorstore/impl.Item]"], unfollowed := true, recurses := true, apart := false }
def FnPutItemOrderSaid : Prop := fnPutItemOrderRow.holds Try.pinned (OpenSpec.ofChange fnPutItemOrderSpec)

/-- ITS FALSE NEIGHBOUR: 'it returns false'. Refute it at one input. -/
def fnPutItemOrderWrong : ChangeSpec := { name := "fnPutItemOrder", fn := fun _ => fun
  | [d] => { results := [.lit (.bool false)], args := [d] }
  | _ => none }
def FnPutItemOrderWrongFalsely : Prop := fnPutItemOrderRow.holds Try.pinned (OpenSpec.ofChange fnPutItemOrderWrong)

/-- 'laws.FnDropItemOrder': WHATEVER THE INPUT: true; the input reads as it did. -/
def fnDropItemOrderSpec : ChangeSpec := { name := "fnDropItemOrder", fn := fun _ => fun
  | [d] => { results := [.lit (.bool true)], args := [d] }
  | _ => none }
def fnDropItemOrderRow : OpenClaim := { program := "ytjkpomkijjingaa", sum := "ac6eeb330fc141769dc51420586eebd110bae6e0b8191e1b32ae18d8471fb36b", func := "loop.example/vectorstore/laws.FnDropItemOrder", spec := "fnDropItemOrder", unfollowed := true, recurses := true, apart := false }
def FnDropItemOrderSaid : Prop := fnDropItemOrderRow.holds Try.pinned (OpenSpec.ofChange fnDropItemOrderSpec)

/-- ITS FALSE NEIGHBOUR: 'it returns false'. Refute it at one input. -/
def fnDropItemOrderWrong : ChangeSpec := { name := "fnDropItemOrder", fn := fun _ => fun
  | [d] => { results := [.lit (.bool false)], args := [d] }
  | _ => none }
def FnDropItemOrderWrongFalsely : Prop := fnDropItemOrderRow.holds Try.pinned (OpenSpec.ofChange fnDropItemOrderWrong)

/-- 'laws.FnBoundsOfPut': WHATEVER THE INPUT: true; the input reads as it did. -/
def fnBoundsOfPutSpec : ChangeSpec := { name := "fnBoundsOfPut", fn := fun _ => fun
  | [d] => { results := [.lit (.bool true)], args := [d] }
  | _ => none }
def fnBoundsOfPutRow : OpenClaim := { program := "ytjkpomkijjingaa", sum := "ac6eeb330fc141769dc51420586eebd110bae6e0b8191e1b32ae18d8471fb36b", func := "loop.example/vectorstore/laws.FnBoundsOfPut", spec := "fnBoundsOfPut", inPlace := ["slices.overlaps[loop.example/vectorstore/impl.Item]"], unfollowed := true, recurses := true, apart := false }
def FnBoundsOfPutSaid : Prop := fnBoundsOfPutRow.holds Try.pinned (OpenSpec.ofChange fnBoundsOfPutSpec)

/-- ITS FALSE NEIGHBOUR: 'it returns false'. Refute it at one input. -/
def fnBoundsOfPutWrong : ChangeSpec := { name := "fnBoundsOfPut", fn := fun _ => fun
  | [d] => { results := [.lit (.bool false)], args := [d] }
  | _ => none }
def FnBoundsOfPutWrongFalsely : Prop := fnBoundsOfPutRow.holds Try.pinned (OpenSpec.ofChange fnBoundsOfPutWrong)

/- THE SECOND FORM. 'bulk': how many values and letters a reading holds, each counted each time it is reached (what is shared counts as often as it is met; a slice's spare places count too). A statement '..UptoSaid' is the law's where the arguments, and the package variables that the reading takes, are together of bulk at most 1048576: NARROWER than '..Said'. Prove '..Said' where nothing that the law and all that it calls make is longer than what came in: it says more and counts as full. Else prove '..UptoSaid'. A law counts once. -/
mutual
def uptoBulk {H : Type} : DataW H → Nat
  | .lit (.string bytes) => bytes.length + 1
  | .lit _ => 1
  | .nil => 1
  | .ptr d => uptoBulk d + 1
  | .slice elems spare => uptoBulkAll elems + uptoBulkAll spare + 1
  | .agg parts => uptoBulkAll parts + 1
  | .iface _ d => uptoBulk d + 1
  | .map entries => uptoBulkEntries entries + 1
  | .held _ => 1
def uptoBulkAll {H : Type} : List (DataW H) → Nat
  | [] => 0
  | d :: r => uptoBulk d + uptoBulkAll r
def uptoBulkEntries {H : Type} : List (Lit × DataW H) → Nat
  | [] => 0
  | x :: r => uptoBulkEntry x + uptoBulkEntries r
def uptoBulkEntry {H : Type} : Lit × DataW H → Nat
  | (.string bytes, d) => bytes.length + uptoBulk d + 1
  | (_, d) => uptoBulk d + 1
 end
def uptoSmall : (H : Type) → List (DataW H) → Bool := fun _ ds => decide (uptoBulkAll ds ≤ 1048576)
def OpenSpec.upto (s : _root_.Go.ChangeSpec) : _root_.Go.OpenSpec := { _root_.Go.OpenSpec.ofChange s with cond := some uptoSmall }

/-- 'laws.FnValidStore', WHERE WHAT IT READS IS OF BULK AT MOST 1048576: true; the input reads as it did. -/
def fnValidStoreUptoRow : OpenClaim := { program := "ytjkpomkijjingaa", sum := "ac6eeb330fc141769dc51420586eebd110bae6e0b8191e1b32ae18d8471fb36b", func := "loop.example/vectorstore/laws.FnValidStore", spec := "fnValidStore", apart := false, narrowed := true }
def FnValidStoreUptoSaid : Prop := fnValidStoreUptoRow.holds Try.pinned (OpenSpec.upto fnValidStoreSpec)

/-- 'laws.FnPutItem', WHERE WHAT IT READS IS OF BULK AT MOST 1048576: true; the input reads as it did. -/
def fnPutItemUptoRow : OpenClaim := { program := "ytjkpomkijjingaa", sum := "ac6eeb330fc141769dc51420586eebd110bae6e0b8191e1b32ae18d8471fb36b", func := "loop.example/vectorstore/laws.FnPutItem", spec := "fnPutItem", inPlace := ["slices.overlaps[loop.example/vectorstore/impl.Item]"], unfollowed := true, recurses := true, apart := false, narrowed := true }
def FnPutItemUptoSaid : Prop := fnPutItemUptoRow.holds Try.pinned (OpenSpec.upto fnPutItemSpec)

/-- 'laws.FnPutItemOthers', WHERE WHAT IT READS IS OF BULK AT MOST 1048576: true; the input reads as it did. -/
def fnPutItemOthersUptoRow : OpenClaim := { program := "ytjkpomkijjingaa", sum := "ac6eeb330fc141769dc51420586eebd110bae6e0b8191e1b32ae18d8471fb36b", func := "loop.example/vectorstore/laws.FnPutItemOthers", spec := "fnPutItemOthers", inPlace := ["slices.overlaps[loop.example/vectorstore/impl.Item]"], unfollowed := true, recurses := true, apart := false, narrowed := true }
def FnPutItemOthersUptoSaid : Prop := fnPutItemOthersUptoRow.holds Try.pinned (OpenSpec.upto fnPutItemOthersSpec)

/-- 'laws.FnPutItemTwice', WHERE WHAT IT READS IS OF BULK AT MOST 1048576: true; the input reads as it did. -/
def fnPutItemTwiceUptoRow : OpenClaim := { program := "ytjkpomkijjingaa", sum := "ac6eeb330fc141769dc51420586eebd110bae6e0b8191e1b32ae18d8471fb36b", func := "loop.example/vectorstore/laws.FnPutItemTwice", spec := "fnPutItemTwice", inPlace := ["slices.overlaps[loop.example/vectorstore/impl.Item]"], unfollowed := true, recurses := true, apart := false, narrowed := true }
def FnPutItemTwiceUptoSaid : Prop := fnPutItemTwiceUptoRow.holds Try.pinned (OpenSpec.upto fnPutItemTwiceSpec)

/-- 'laws.FnDropItem', WHERE WHAT IT READS IS OF BULK AT MOST 1048576: true; the input reads as it did. -/
def fnDropItemUptoRow : OpenClaim := { program := "ytjkpomkijjingaa", sum := "ac6eeb330fc141769dc51420586eebd110bae6e0b8191e1b32ae18d8471fb36b", func := "loop.example/vectorstore/laws.FnDropItem", spec := "fnDropItem", inPlace := ["slices.overlaps[loop.example/vectorstore/impl.Item]"], unfollowed := true, recurses := true, apart := false, narrowed := true }
def FnDropItemUptoSaid : Prop := fnDropItemUptoRow.holds Try.pinned (OpenSpec.upto fnDropItemSpec)

/-- 'laws.FnGetItem', WHERE WHAT IT READS IS OF BULK AT MOST 1048576: true; the input reads as it did. -/
def fnGetItemUptoRow : OpenClaim := { program := "ytjkpomkijjingaa", sum := "ac6eeb330fc141769dc51420586eebd110bae6e0b8191e1b32ae18d8471fb36b", func := "loop.example/vectorstore/laws.FnGetItem", spec := "fnGetItem", unfollowed := true, recurses := true, apart := false, narrowed := true }
def FnGetItemUptoSaid : Prop := fnGetItemUptoRow.holds Try.pinned (OpenSpec.upto fnGetItemSpec)

/-- 'laws.FnBoundsOfTight', WHERE WHAT IT READS IS OF BULK AT MOST 1048576: true; the input reads as it did. -/
def fnBoundsOfTightUptoRow : OpenClaim := { program := "ytjkpomkijjingaa", sum := "ac6eeb330fc141769dc51420586eebd110bae6e0b8191e1b32ae18d8471fb36b", func := "loop.example/vectorstore/laws.FnBoundsOfTight", spec := "fnBoundsOfTight", apart := false, narrowed := true }
def FnBoundsOfTightUptoSaid : Prop := fnBoundsOfTightUptoRow.holds Try.pinned (OpenSpec.upto fnBoundsOfTightSpec)

/-- 'laws.FnPutItemOrder', WHERE WHAT IT READS IS OF BULK AT MOST 1048576: true; the input reads as it did. -/
def fnPutItemOrderUptoRow : OpenClaim := { program := "ytjkpomkijjingaa", sum := "ac6eeb330fc141769dc51420586eebd110bae6e0b8191e1b32ae18d8471fb36b", func := "loop.example/vectorstore/laws.FnPutItemOrder", spec := "fnPutItemOrder", inPlace := ["slices.overlaps[loop.example/vectorstore/impl.Item]"], unfollowed := true, recurses := true, apart := false, narrowed := true }
def FnPutItemOrderUptoSaid : Prop := fnPutItemOrderUptoRow.holds Try.pinned (OpenSpec.upto fnPutItemOrderSpec)

/-- 'laws.FnDropItemOrder', WHERE WHAT IT READS IS OF BULK AT MOST 1048576: true; the input reads as it did. -/
def fnDropItemOrderUptoRow : OpenClaim := { program := "ytjkpomkijjingaa", sum := "ac6eeb330fc141769dc51420586eebd110bae6e0b8191e1b32ae18d8471fb36b", func := "loop.example/vectorstore/laws.FnDropItemOrder", spec := "fnDropItemOrder", unfollowed := true, recurses := true, apart := false, narrowed := true }
def FnDropItemOrderUptoSaid : Prop := fnDropItemOrderUptoRow.holds Try.pinned (OpenSpec.upto fnDropItemOrderSpec)

/-- 'laws.FnBoundsOfPut', WHERE WHAT IT READS IS OF BULK AT MOST 1048576: true; the input reads as it did. -/
def fnBoundsOfPutUptoRow : OpenClaim := { program := "ytjkpomkijjingaa", sum := "ac6eeb330fc141769dc51420586eebd110bae6e0b8191e1b32ae18d8471fb36b", func := "loop.example/vectorstore/laws.FnBoundsOfPut", spec := "fnBoundsOfPut", inPlace := ["slices.overlaps[loop.example/vectorstore/impl.Item]"], unfollowed := true, recurses := true, apart := false, narrowed := true }
def FnBoundsOfPutUptoSaid : Prop := fnBoundsOfPutUptoRow.holds Try.pinned (OpenSpec.upto fnBoundsOfPutSpec)

end Rows
end Go.Proofs.Ytjkpomkijjingaa
