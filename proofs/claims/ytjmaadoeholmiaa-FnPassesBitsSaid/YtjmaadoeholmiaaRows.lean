/-
  No cell of these rows narrows 'for every input' (looked for: loops, veiled, ifaces, maps, wideKeys, modest, calm, conditions, laid).
  DERIVED. THE GIVEN ROWS OF THIS SEAT. 6 by the template 'for every input the law returns true; each argument reads behind the call as it read before'; 0 by the template 'total and deterministic' (their statements: YtjmaadoeholmiaaTotals.lean).
  GIVEN WITH THE SEED: the statements are not yours to turn. If you find one false, say at which input.
  Laid BY PROGRAM, IN A SANDBOX (cutbox-rows.mjs): the forced cells as the released guide's own fill.sh prints them over the translation 93b0b33bdce65cfe… (all of the seat's roots in one cut). By AI agents, Wed Nov 11 2026. No macro, syntax, notation, axiom, sorry.
-/
import Derived.Test.YtjmaadoeholmiaaChecked
import GoSem.Claim
import GoSem.ClaimJoined
import GoSem.ClaimMapViews
import Derived.JoinedTies
import Derived.KernelRfl
namespace Go.Proofs.Ytjmaadoeholmiaa
/- THE CELL 'sum', in the pinned program and in every row, IS THE sha256 OF THE DUMP (.gsa) THAT YtjmaadoeholmiaaProg.lean LOADS. Nothing in Lean hashes anything: it is a label: what it is worth is what the hold of that sum in a sandbox is worth. -/
noncomputable def Try.pinned : Pinned := { name := "ytjmaadoeholmiaa", sum := "93b0b33bdce65cfe9df35954c95d3243fa136f53596fe56b914fe0d668de6201", checked := Try.checked }
namespace Rows
def none {H : Type} : Left H := { results := [], args := [] }

/-- 'laws.FnLinksOfCount': WHATEVER THE INPUT: true; the input reads as it did. -/
def fnLinksOfCountSpec : ChangeSpec := { name := "fnLinksOfCount", fn := fun _ => fun
  | [d] => { results := [.lit (.bool true)], args := [d] }
  | _ => none }
def fnLinksOfCountRow : OpenClaim := { program := "ytjmaadoeholmiaa", sum := "93b0b33bdce65cfe9df35954c95d3243fa136f53596fe56b914fe0d668de6201", func := "loop.example/vectorstore/laws.FnLinksOfCount", spec := "fnLinksOfCount", unfollowed := true, recurses := true, apart := false }
def FnLinksOfCountSaid : Prop := fnLinksOfCountRow.holds Try.pinned (OpenSpec.ofChange fnLinksOfCountSpec)

/-- ITS FALSE NEIGHBOUR: 'it returns false'. Refute it at one input. -/
def fnLinksOfCountWrong : ChangeSpec := { name := "fnLinksOfCount", fn := fun _ => fun
  | [d] => { results := [.lit (.bool false)], args := [d] }
  | _ => none }
def FnLinksOfCountWrongFalsely : Prop := fnLinksOfCountRow.holds Try.pinned (OpenSpec.ofChange fnLinksOfCountWrong)

/-- 'laws.FnMutualLinks': WHATEVER THE INPUT: true; the input reads as it did. -/
def fnMutualLinksSpec : ChangeSpec := { name := "fnMutualLinks", fn := fun _ => fun
  | [d] => { results := [.lit (.bool true)], args := [d] }
  | _ => none }
def fnMutualLinksRow : OpenClaim := { program := "ytjmaadoeholmiaa", sum := "93b0b33bdce65cfe9df35954c95d3243fa136f53596fe56b914fe0d668de6201", func := "loop.example/vectorstore/laws.FnMutualLinks", spec := "fnMutualLinks", unfollowed := true, recurses := true, apart := false }
def FnMutualLinksSaid : Prop := fnMutualLinksRow.holds Try.pinned (OpenSpec.ofChange fnMutualLinksSpec)

/-- ITS FALSE NEIGHBOUR: 'it returns false'. Refute it at one input. -/
def fnMutualLinksWrong : ChangeSpec := { name := "fnMutualLinks", fn := fun _ => fun
  | [d] => { results := [.lit (.bool false)], args := [d] }
  | _ => none }
def FnMutualLinksWrongFalsely : Prop := fnMutualLinksRow.holds Try.pinned (OpenSpec.ofChange fnMutualLinksWrong)

/-- 'laws.FnMutualLinksClosest': WHATEVER THE INPUT: true; the input reads as it did. -/
def fnMutualLinksClosestSpec : ChangeSpec := { name := "fnMutualLinksClosest", fn := fun _ => fun
  | [d] => { results := [.lit (.bool true)], args := [d] }
  | _ => none }
def fnMutualLinksClosestRow : OpenClaim := { program := "ytjmaadoeholmiaa", sum := "93b0b33bdce65cfe9df35954c95d3243fa136f53596fe56b914fe0d668de6201", func := "loop.example/vectorstore/laws.FnMutualLinksClosest", spec := "fnMutualLinksClosest", unfollowed := true, recurses := true, apart := false }
def FnMutualLinksClosestSaid : Prop := fnMutualLinksClosestRow.holds Try.pinned (OpenSpec.ofChange fnMutualLinksClosestSpec)

/-- ITS FALSE NEIGHBOUR: 'it returns false'. Refute it at one input. -/
def fnMutualLinksClosestWrong : ChangeSpec := { name := "fnMutualLinksClosest", fn := fun _ => fun
  | [d] => { results := [.lit (.bool false)], args := [d] }
  | _ => none }
def FnMutualLinksClosestWrongFalsely : Prop := fnMutualLinksClosestRow.holds Try.pinned (OpenSpec.ofChange fnMutualLinksClosestWrong)

/-- 'laws.FnValidFilter': WHATEVER THE INPUT: true; the input reads as it did. -/
def fnValidFilterSpec : ChangeSpec := { name := "fnValidFilter", fn := fun _ => fun
  | [d] => { results := [.lit (.bool true)], args := [d] }
  | _ => none }
def fnValidFilterRow : OpenClaim := { program := "ytjmaadoeholmiaa", sum := "93b0b33bdce65cfe9df35954c95d3243fa136f53596fe56b914fe0d668de6201", func := "loop.example/vectorstore/laws.FnValidFilter", spec := "fnValidFilter", apart := false }
def FnValidFilterSaid : Prop := fnValidFilterRow.holds Try.pinned (OpenSpec.ofChange fnValidFilterSpec)

/-- ITS FALSE NEIGHBOUR: 'it returns false'. Refute it at one input. -/
def fnValidFilterWrong : ChangeSpec := { name := "fnValidFilter", fn := fun _ => fun
  | [d] => { results := [.lit (.bool false)], args := [d] }
  | _ => none }
def FnValidFilterWrongFalsely : Prop := fnValidFilterRow.holds Try.pinned (OpenSpec.ofChange fnValidFilterWrong)

/-- 'laws.FnPasses': WHATEVER THE INPUT: true; the input reads as it did. -/
def fnPassesSpec : ChangeSpec := { name := "fnPasses", fn := fun _ => fun
  | [d] => { results := [.lit (.bool true)], args := [d] }
  | _ => none }
def fnPassesRow : OpenClaim := { program := "ytjmaadoeholmiaa", sum := "93b0b33bdce65cfe9df35954c95d3243fa136f53596fe56b914fe0d668de6201", func := "loop.example/vectorstore/laws.FnPasses", spec := "fnPasses", apart := false }
def FnPassesSaid : Prop := fnPassesRow.holds Try.pinned (OpenSpec.ofChange fnPassesSpec)

/-- ITS FALSE NEIGHBOUR: 'it returns false'. Refute it at one input. -/
def fnPassesWrong : ChangeSpec := { name := "fnPasses", fn := fun _ => fun
  | [d] => { results := [.lit (.bool false)], args := [d] }
  | _ => none }
def FnPassesWrongFalsely : Prop := fnPassesRow.holds Try.pinned (OpenSpec.ofChange fnPassesWrong)

/-- 'laws.FnPassesBits': WHATEVER THE INPUT: true; the input reads as it did. -/
def fnPassesBitsSpec : ChangeSpec := { name := "fnPassesBits", fn := fun _ => fun
  | [d] => { results := [.lit (.bool true)], args := [d] }
  | _ => none }
def fnPassesBitsRow : OpenClaim := { program := "ytjmaadoeholmiaa", sum := "93b0b33bdce65cfe9df35954c95d3243fa136f53596fe56b914fe0d668de6201", func := "loop.example/vectorstore/laws.FnPassesBits", spec := "fnPassesBits", apart := false }
def FnPassesBitsSaid : Prop := fnPassesBitsRow.holds Try.pinned (OpenSpec.ofChange fnPassesBitsSpec)

/-- ITS FALSE NEIGHBOUR: 'it returns false'. Refute it at one input. -/
def fnPassesBitsWrong : ChangeSpec := { name := "fnPassesBits", fn := fun _ => fun
  | [d] => { results := [.lit (.bool false)], args := [d] }
  | _ => none }
def FnPassesBitsWrongFalsely : Prop := fnPassesBitsRow.holds Try.pinned (OpenSpec.ofChange fnPassesBitsWrong)

/- THE SECOND FORM. 'bulk': how many values and letters a reading holds, each counted each time it is reached (what is shared counts as often as it is met; a slice's spare places count too). A statement '..UptoSaid' is the law's where the arguments, and the package variables that the reading takes, are together of bulk at most 1048576: NARROWER than '..Said'. Prove '..Said' where nothing that the law and all that it calls make is longer than what came in: it says more and counts as full. Else prove '..UptoSaid'. A law counts once. -/
mutual
def uptoBulk {H : Type} : DataW H → Nat
  | .lit (.string bytes) => bytes.length + 1
  | .lit _ => 1
  | .nil => 1
  | .ptr d => uptoBulk d + 1
  | .slice elems spare => uptoBulkAll elems + uptoBulkAll spare + 1
  | .agg parts => uptoBulkAll parts + 1
  | .iface _ d => uptoBulk d + 1
  | .map entries => uptoBulkEntries entries + 1
  | .held _ => 1
def uptoBulkAll {H : Type} : List (DataW H) → Nat
  | [] => 0
  | d :: r => uptoBulk d + uptoBulkAll r
def uptoBulkEntries {H : Type} : List (Lit × DataW H) → Nat
  | [] => 0
  | x :: r => uptoBulkEntry x + uptoBulkEntries r
def uptoBulkEntry {H : Type} : Lit × DataW H → Nat
  | (.string bytes, d) => bytes.length + uptoBulk d + 1
  | (_, d) => uptoBulk d + 1
 end
def uptoSmall : (H : Type) → List (DataW H) → Bool := fun _ ds => decide (uptoBulkAll ds ≤ 1048576)
def OpenSpec.upto (s : _root_.Go.ChangeSpec) : _root_.Go.OpenSpec := { _root_.Go.OpenSpec.ofChange s with cond := some uptoSmall }

/-- 'laws.FnLinksOfCount', WHERE WHAT IT READS IS OF BULK AT MOST 1048576: true; the input reads as it did. -/
def fnLinksOfCountUptoRow : OpenClaim := { program := "ytjmaadoeholmiaa", sum := "93b0b33bdce65cfe9df35954c95d3243fa136f53596fe56b914fe0d668de6201", func := "loop.example/vectorstore/laws.FnLinksOfCount", spec := "fnLinksOfCount", unfollowed := true, recurses := true, apart := false, narrowed := true }
def FnLinksOfCountUptoSaid : Prop := fnLinksOfCountUptoRow.holds Try.pinned (OpenSpec.upto fnLinksOfCountSpec)

/-- 'laws.FnMutualLinks', WHERE WHAT IT READS IS OF BULK AT MOST 1048576: true; the input reads as it did. -/
def fnMutualLinksUptoRow : OpenClaim := { program := "ytjmaadoeholmiaa", sum := "93b0b33bdce65cfe9df35954c95d3243fa136f53596fe56b914fe0d668de6201", func := "loop.example/vectorstore/laws.FnMutualLinks", spec := "fnMutualLinks", unfollowed := true, recurses := true, apart := false, narrowed := true }
def FnMutualLinksUptoSaid : Prop := fnMutualLinksUptoRow.holds Try.pinned (OpenSpec.upto fnMutualLinksSpec)

/-- 'laws.FnMutualLinksClosest', WHERE WHAT IT READS IS OF BULK AT MOST 1048576: true; the input reads as it did. -/
def fnMutualLinksClosestUptoRow : OpenClaim := { program := "ytjmaadoeholmiaa", sum := "93b0b33bdce65cfe9df35954c95d3243fa136f53596fe56b914fe0d668de6201", func := "loop.example/vectorstore/laws.FnMutualLinksClosest", spec := "fnMutualLinksClosest", unfollowed := true, recurses := true, apart := false, narrowed := true }
def FnMutualLinksClosestUptoSaid : Prop := fnMutualLinksClosestUptoRow.holds Try.pinned (OpenSpec.upto fnMutualLinksClosestSpec)

/-- 'laws.FnValidFilter', WHERE WHAT IT READS IS OF BULK AT MOST 1048576: true; the input reads as it did. -/
def fnValidFilterUptoRow : OpenClaim := { program := "ytjmaadoeholmiaa", sum := "93b0b33bdce65cfe9df35954c95d3243fa136f53596fe56b914fe0d668de6201", func := "loop.example/vectorstore/laws.FnValidFilter", spec := "fnValidFilter", apart := false, narrowed := true }
def FnValidFilterUptoSaid : Prop := fnValidFilterUptoRow.holds Try.pinned (OpenSpec.upto fnValidFilterSpec)

/-- 'laws.FnPasses', WHERE WHAT IT READS IS OF BULK AT MOST 1048576: true; the input reads as it did. -/
def fnPassesUptoRow : OpenClaim := { program := "ytjmaadoeholmiaa", sum := "93b0b33bdce65cfe9df35954c95d3243fa136f53596fe56b914fe0d668de6201", func := "loop.example/vectorstore/laws.FnPasses", spec := "fnPasses", apart := false, narrowed := true }
def FnPassesUptoSaid : Prop := fnPassesUptoRow.holds Try.pinned (OpenSpec.upto fnPassesSpec)

/-- 'laws.FnPassesBits', WHERE WHAT IT READS IS OF BULK AT MOST 1048576: true; the input reads as it did. -/
def fnPassesBitsUptoRow : OpenClaim := { program := "ytjmaadoeholmiaa", sum := "93b0b33bdce65cfe9df35954c95d3243fa136f53596fe56b914fe0d668de6201", func := "loop.example/vectorstore/laws.FnPassesBits", spec := "fnPassesBits", apart := false, narrowed := true }
def FnPassesBitsUptoSaid : Prop := fnPassesBitsUptoRow.holds Try.pinned (OpenSpec.upto fnPassesBitsSpec)

end Rows
end Go.Proofs.Ytjmaadoeholmiaa
