/-
  No cell of these rows narrows 'for every input' (looked for: loops, veiled, ifaces, maps, wideKeys, modest, calm, conditions, laid).
  DERIVED. THE GIVEN ROWS OF THIS SEAT. 5 by the template 'for every input the law returns true; each argument reads behind the call as it read before'; 0 by the template 'total and deterministic' (their statements: YtnkflplbeagljaaGreatTotals.lean).
  GIVEN WITH THE SEED: the statements are not yours to turn. If you find one false, say at which input.
  Laid BY PROGRAM, IN A SANDBOX (cutbox-rows.mjs): the forced cells as the released guide's own fill.sh prints them over the translation 804e00cfbbbcd14a… (all of the seat's roots in one cut). By AI agents, Wed Nov 11 2026. No macro, syntax, notation, axiom, sorry.
-/
import Derived.Test.YtnkflplbeagljaaGreatChecked
import GoSem.Claim
import GoSem.ClaimJoined
import GoSem.ClaimMapViews
import Derived.JoinedTies
import Derived.KernelRfl
namespace Go.Proofs.YtnkflplbeagljaaGreat
/- THE CELL 'sum', in the pinned program and in every row, IS THE sha256 OF THE DUMP (.gsa) THAT YtnkflplbeagljaaGreatProg.lean LOADS. Nothing in Lean hashes anything: it is a label: what it is worth is what the hold of that sum in a sandbox is worth. -/
noncomputable def Tryz.pinned : Pinned := { name := "ytnkflplbeagljaagreat", sum := "804e00cfbbbcd14a10c98aa8853c030f02d51072018d3e1bead2844b29bf088c", checked := Tryz.checked }
namespace Rows
def none {H : Type} : Left H := { results := [], args := [] }

/-- 'laws.FnWithinDist': WHATEVER THE INPUT: true; the input reads as it did. -/
def fnWithinDistSpec : ChangeSpec := { name := "fnWithinDist", fn := fun _ => fun
  | [d] => { results := [.lit (.bool true)], args := [d] }
  | _ => none }
def fnWithinDistRow : OpenClaim := { program := "ytnkflplbeagljaagreat", sum := "804e00cfbbbcd14a10c98aa8853c030f02d51072018d3e1bead2844b29bf088c", func := "loop.example/vectorstore/laws.FnWithinDist", spec := "fnWithinDist", unfollowed := true, recurses := true, apart := false }
def FnWithinDistSaid : Prop := fnWithinDistRow.holds Tryz.pinned (OpenSpec.ofChange fnWithinDistSpec)

/-- ITS FALSE NEIGHBOUR: 'it returns false'. Refute it at one input. -/
def fnWithinDistWrong : ChangeSpec := { name := "fnWithinDist", fn := fun _ => fun
  | [d] => { results := [.lit (.bool false)], args := [d] }
  | _ => none }
def FnWithinDistWrongFalsely : Prop := fnWithinDistRow.holds Tryz.pinned (OpenSpec.ofChange fnWithinDistWrong)

/-- 'laws.FnProbeNearest': WHATEVER THE INPUT: true; the input reads as it did. -/
def fnProbeNearestSpec : ChangeSpec := { name := "fnProbeNearest", fn := fun _ => fun
  | [d] => { results := [.lit (.bool true)], args := [d] }
  | _ => none }
def fnProbeNearestRow : OpenClaim := { program := "ytnkflplbeagljaagreat", sum := "804e00cfbbbcd14a10c98aa8853c030f02d51072018d3e1bead2844b29bf088c", func := "loop.example/vectorstore/laws.FnProbeNearest", spec := "fnProbeNearest", unfollowed := true, recurses := true, apart := false }
def FnProbeNearestSaid : Prop := fnProbeNearestRow.holds Tryz.pinned (OpenSpec.ofChange fnProbeNearestSpec)

/-- ITS FALSE NEIGHBOUR: 'it returns false'. Refute it at one input. -/
def fnProbeNearestWrong : ChangeSpec := { name := "fnProbeNearest", fn := fun _ => fun
  | [d] => { results := [.lit (.bool false)], args := [d] }
  | _ => none }
def FnProbeNearestWrongFalsely : Prop := fnProbeNearestRow.holds Tryz.pinned (OpenSpec.ofChange fnProbeNearestWrong)

/-- 'laws.FnCodeNearest': WHATEVER THE INPUT: true; the input reads as it did. -/
def fnCodeNearestSpec : ChangeSpec := { name := "fnCodeNearest", fn := fun _ => fun
  | [d] => { results := [.lit (.bool true)], args := [d] }
  | _ => none }
def fnCodeNearestRow : OpenClaim := { program := "ytnkflplbeagljaagreat", sum := "804e00cfbbbcd14a10c98aa8853c030f02d51072018d3e1bead2844b29bf088c", func := "loop.example/vectorstore/laws.FnCodeNearest", spec := "fnCodeNearest", unfollowed := true, recurses := true, apart := false }
def FnCodeNearestSaid : Prop := fnCodeNearestRow.holds Tryz.pinned (OpenSpec.ofChange fnCodeNearestSpec)

/-- ITS FALSE NEIGHBOUR: 'it returns false'. Refute it at one input. -/
def fnCodeNearestWrong : ChangeSpec := { name := "fnCodeNearest", fn := fun _ => fun
  | [d] => { results := [.lit (.bool false)], args := [d] }
  | _ => none }
def FnCodeNearestWrongFalsely : Prop := fnCodeNearestRow.holds Tryz.pinned (OpenSpec.ofChange fnCodeNearestWrong)

/-- 'laws.FnRerankNearestFrom': WHATEVER THE INPUT: true; the input reads as it did. -/
def fnRerankNearestFromSpec : ChangeSpec := { name := "fnRerankNearestFrom", fn := fun _ => fun
  | [d] => { results := [.lit (.bool true)], args := [d] }
  | _ => none }
def fnRerankNearestFromRow : OpenClaim := { program := "ytnkflplbeagljaagreat", sum := "804e00cfbbbcd14a10c98aa8853c030f02d51072018d3e1bead2844b29bf088c", func := "loop.example/vectorstore/laws.FnRerankNearestFrom", spec := "fnRerankNearestFrom", unfollowed := true, recurses := true, apart := false }
def FnRerankNearestFromSaid : Prop := fnRerankNearestFromRow.holds Tryz.pinned (OpenSpec.ofChange fnRerankNearestFromSpec)

/-- ITS FALSE NEIGHBOUR: 'it returns false'. Refute it at one input. -/
def fnRerankNearestFromWrong : ChangeSpec := { name := "fnRerankNearestFrom", fn := fun _ => fun
  | [d] => { results := [.lit (.bool false)], args := [d] }
  | _ => none }
def FnRerankNearestFromWrongFalsely : Prop := fnRerankNearestFromRow.holds Tryz.pinned (OpenSpec.ofChange fnRerankNearestFromWrong)

/-- 'laws.FnHashNearestRecall': WHATEVER THE INPUT: true; the input reads as it did. -/
def fnHashNearestRecallSpec : ChangeSpec := { name := "fnHashNearestRecall", fn := fun _ => fun
  | [d] => { results := [.lit (.bool true)], args := [d] }
  | _ => none }
def fnHashNearestRecallRow : OpenClaim := { program := "ytnkflplbeagljaagreat", sum := "804e00cfbbbcd14a10c98aa8853c030f02d51072018d3e1bead2844b29bf088c", func := "loop.example/vectorstore/laws.FnHashNearestRecall", spec := "fnHashNearestRecall", unfollowed := true, recurses := true, apart := false }
def FnHashNearestRecallSaid : Prop := fnHashNearestRecallRow.holds Tryz.pinned (OpenSpec.ofChange fnHashNearestRecallSpec)

/-- ITS FALSE NEIGHBOUR: 'it returns false'. Refute it at one input. -/
def fnHashNearestRecallWrong : ChangeSpec := { name := "fnHashNearestRecall", fn := fun _ => fun
  | [d] => { results := [.lit (.bool false)], args := [d] }
  | _ => none }
def FnHashNearestRecallWrongFalsely : Prop := fnHashNearestRecallRow.holds Tryz.pinned (OpenSpec.ofChange fnHashNearestRecallWrong)

/- THE SECOND FORM. 'bulk': how many values and letters a reading holds, each counted each time it is reached (what is shared counts as often as it is met; a slice's spare places count too). A statement '..UptoSaid' is the law's where the arguments, and the package variables that the reading takes, are together of bulk at most 1048576: NARROWER than '..Said'. Prove '..Said' where nothing that the law and all that it calls make is longer than what came in: it says more and counts as full. Else prove '..UptoSaid'. A law counts once. -/
mutual
def uptoBulk {H : Type} : DataW H → Nat
  | .lit (.string bytes) => bytes.length + 1
  | .lit _ => 1
  | .nil => 1
  | .ptr d => uptoBulk d + 1
  | .slice elems spare => uptoBulkAll elems + uptoBulkAll spare + 1
  | .agg parts => uptoBulkAll parts + 1
  | .iface _ d => uptoBulk d + 1
  | .map entries => uptoBulkEntries entries + 1
  | .held _ => 1
def uptoBulkAll {H : Type} : List (DataW H) → Nat
  | [] => 0
  | d :: r => uptoBulk d + uptoBulkAll r
def uptoBulkEntries {H : Type} : List (Lit × DataW H) → Nat
  | [] => 0
  | x :: r => uptoBulkEntry x + uptoBulkEntries r
def uptoBulkEntry {H : Type} : Lit × DataW H → Nat
  | (.string bytes, d) => bytes.length + uptoBulk d + 1
  | (_, d) => uptoBulk d + 1
 end
def uptoSmall : (H : Type) → List (DataW H) → Bool := fun _ ds => decide (uptoBulkAll ds ≤ 1048576)
def OpenSpec.upto (s : _root_.Go.ChangeSpec) : _root_.Go.OpenSpec := { _root_.Go.OpenSpec.ofChange s with cond := some uptoSmall }

/-- 'laws.FnWithinDist', WHERE WHAT IT READS IS OF BULK AT MOST 1048576: true; the input reads as it did. -/
def fnWithinDistUptoRow : OpenClaim := { program := "ytnkflplbeagljaagreat", sum := "804e00cfbbbcd14a10c98aa8853c030f02d51072018d3e1bead2844b29bf088c", func := "loop.example/vectorstore/laws.FnWithinDist", spec := "fnWithinDist", unfollowed := true, recurses := true, apart := false, narrowed := true }
def FnWithinDistUptoSaid : Prop := fnWithinDistUptoRow.holds Tryz.pinned (OpenSpec.upto fnWithinDistSpec)

/-- 'laws.FnProbeNearest', WHERE WHAT IT READS IS OF BULK AT MOST 1048576: true; the input reads as it did. -/
def fnProbeNearestUptoRow : OpenClaim := { program := "ytnkflplbeagljaagreat", sum := "804e00cfbbbcd14a10c98aa8853c030f02d51072018d3e1bead2844b29bf088c", func := "loop.example/vectorstore/laws.FnProbeNearest", spec := "fnProbeNearest", unfollowed := true, recurses := true, apart := false, narrowed := true }
def FnProbeNearestUptoSaid : Prop := fnProbeNearestUptoRow.holds Tryz.pinned (OpenSpec.upto fnProbeNearestSpec)

/-- 'laws.FnCodeNearest', WHERE WHAT IT READS IS OF BULK AT MOST 1048576: true; the input reads as it did. -/
def fnCodeNearestUptoRow : OpenClaim := { program := "ytnkflplbeagljaagreat", sum := "804e00cfbbbcd14a10c98aa8853c030f02d51072018d3e1bead2844b29bf088c", func := "loop.example/vectorstore/laws.FnCodeNearest", spec := "fnCodeNearest", unfollowed := true, recurses := true, apart := false, narrowed := true }
def FnCodeNearestUptoSaid : Prop := fnCodeNearestUptoRow.holds Tryz.pinned (OpenSpec.upto fnCodeNearestSpec)

/-- 'laws.FnRerankNearestFrom', WHERE WHAT IT READS IS OF BULK AT MOST 1048576: true; the input reads as it did. -/
def fnRerankNearestFromUptoRow : OpenClaim := { program := "ytnkflplbeagljaagreat", sum := "804e00cfbbbcd14a10c98aa8853c030f02d51072018d3e1bead2844b29bf088c", func := "loop.example/vectorstore/laws.FnRerankNearestFrom", spec := "fnRerankNearestFrom", unfollowed := true, recurses := true, apart := false, narrowed := true }
def FnRerankNearestFromUptoSaid : Prop := fnRerankNearestFromUptoRow.holds Tryz.pinned (OpenSpec.upto fnRerankNearestFromSpec)

/-- 'laws.FnHashNearestRecall', WHERE WHAT IT READS IS OF BULK AT MOST 1048576: true; the input reads as it did. -/
def fnHashNearestRecallUptoRow : OpenClaim := { program := "ytnkflplbeagljaagreat", sum := "804e00cfbbbcd14a10c98aa8853c030f02d51072018d3e1bead2844b29bf088c", func := "loop.example/vectorstore/laws.FnHashNearestRecall", spec := "fnHashNearestRecall", unfollowed := true, recurses := true, apart := false, narrowed := true }
def FnHashNearestRecallUptoSaid : Prop := fnHashNearestRecallUptoRow.holds Tryz.pinned (OpenSpec.upto fnHashNearestRecallSpec)

end Rows
end Go.Proofs.YtnkflplbeagljaaGreat
