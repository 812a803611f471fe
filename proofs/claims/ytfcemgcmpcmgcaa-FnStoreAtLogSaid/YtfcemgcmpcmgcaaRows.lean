/-
  No cell of these rows narrows 'for every input' (looked for: loops, veiled, ifaces, maps, wideKeys, modest, calm, conditions, laid).
  DERIVED. THE GIVEN ROWS OF THIS SEAT. 12 by the template 'for every input the law returns true; each argument reads behind the call as it read before'; 0 by the template 'total and deterministic' (their statements: YtfcemgcmpcmgcaaTotals.lean).
  GIVEN WITH THE SEED: the statements are not yours to turn. If you find one false, say at which input.
  Laid BY PROGRAM, IN A SANDBOX (cutbox-rows.mjs): the forced cells as the released guide's own fill.sh prints them over the translation cdb3129b95b58254… (all of the seat's roots in one cut). By AI agents, Wed Nov 11 2026. No macro, syntax, notation, axiom, sorry.
-/
import Derived.Test.YtfcemgcmpcmgcaaChecked
import GoSem.Claim
import GoSem.ClaimJoined
import GoSem.ClaimMapViews
import Derived.JoinedTies
import Derived.KernelRfl
namespace Go.Proofs.Ytfcemgcmpcmgcaa
/- THE CELL 'sum', in the pinned program and in every row, IS THE sha256 OF THE DUMP (.gsa) THAT YtfcemgcmpcmgcaaProg.lean LOADS. Nothing in Lean hashes anything: it is a label: what it is worth is what the hold of that sum in a sandbox is worth. -/
noncomputable def Try.pinned : Pinned := { name := "ytfcemgcmpcmgcaa", sum := "cdb3129b95b5825483121c33cfb81e0b2cb97f605709f8ac0a2d942b8bed647f", checked := Try.checked }
namespace Rows
def none {H : Type} : Left H := { results := [], args := [] }

/-- 'laws.FnValidHistory': WHATEVER THE INPUT: true; the input reads as it did. -/
def fnValidHistorySpec : ChangeSpec := { name := "fnValidHistory", fn := fun _ => fun
  | [d] => { results := [.lit (.bool true)], args := [d] }
  | _ => none }
def fnValidHistoryRow : OpenClaim := { program := "ytfcemgcmpcmgcaa", sum := "cdb3129b95b5825483121c33cfb81e0b2cb97f605709f8ac0a2d942b8bed647f", func := "loop.example/vectorstore/laws.FnValidHistory", spec := "fnValidHistory", unfollowed := true, recurses := true, apart := false }
def FnValidHistorySaid : Prop := fnValidHistoryRow.holds Try.pinned (OpenSpec.ofChange fnValidHistorySpec)

/-- ITS FALSE NEIGHBOUR: 'it returns false'. Refute it at one input. -/
def fnValidHistoryWrong : ChangeSpec := { name := "fnValidHistory", fn := fun _ => fun
  | [d] => { results := [.lit (.bool false)], args := [d] }
  | _ => none }
def FnValidHistoryWrongFalsely : Prop := fnValidHistoryRow.holds Try.pinned (OpenSpec.ofChange fnValidHistoryWrong)

/-- 'laws.FnStoreAt': WHATEVER THE INPUT: true; the input reads as it did. -/
def fnStoreAtSpec : ChangeSpec := { name := "fnStoreAt", fn := fun _ => fun
  | [d] => { results := [.lit (.bool true)], args := [d] }
  | _ => none }
def fnStoreAtRow : OpenClaim := { program := "ytfcemgcmpcmgcaa", sum := "cdb3129b95b5825483121c33cfb81e0b2cb97f605709f8ac0a2d942b8bed647f", func := "loop.example/vectorstore/laws.FnStoreAt", spec := "fnStoreAt", unfollowed := true, recurses := true, apart := false }
def FnStoreAtSaid : Prop := fnStoreAtRow.holds Try.pinned (OpenSpec.ofChange fnStoreAtSpec)

/-- ITS FALSE NEIGHBOUR: 'it returns false'. Refute it at one input. -/
def fnStoreAtWrong : ChangeSpec := { name := "fnStoreAt", fn := fun _ => fun
  | [d] => { results := [.lit (.bool false)], args := [d] }
  | _ => none }
def FnStoreAtWrongFalsely : Prop := fnStoreAtRow.holds Try.pinned (OpenSpec.ofChange fnStoreAtWrong)

/-- 'laws.FnStoreAtBetween': WHATEVER THE INPUT: true; the input reads as it did. -/
def fnStoreAtBetweenSpec : ChangeSpec := { name := "fnStoreAtBetween", fn := fun _ => fun
  | [d] => { results := [.lit (.bool true)], args := [d] }
  | _ => none }
def fnStoreAtBetweenRow : OpenClaim := { program := "ytfcemgcmpcmgcaa", sum := "cdb3129b95b5825483121c33cfb81e0b2cb97f605709f8ac0a2d942b8bed647f", func := "loop.example/vectorstore/laws.FnStoreAtBetween", spec := "fnStoreAtBetween", unfollowed := true, recurses := true, apart := false }
def FnStoreAtBetweenSaid : Prop := fnStoreAtBetweenRow.holds Try.pinned (OpenSpec.ofChange fnStoreAtBetweenSpec)

/-- ITS FALSE NEIGHBOUR: 'it returns false'. Refute it at one input. -/
def fnStoreAtBetweenWrong : ChangeSpec := { name := "fnStoreAtBetween", fn := fun _ => fun
  | [d] => { results := [.lit (.bool false)], args := [d] }
  | _ => none }
def FnStoreAtBetweenWrongFalsely : Prop := fnStoreAtBetweenRow.holds Try.pinned (OpenSpec.ofChange fnStoreAtBetweenWrong)

/-- 'laws.FnAddEntry': WHATEVER THE INPUT: true; the input reads as it did. -/
def fnAddEntrySpec : ChangeSpec := { name := "fnAddEntry", fn := fun _ => fun
  | [d] => { results := [.lit (.bool true)], args := [d] }
  | _ => none }
def fnAddEntryRow : OpenClaim := { program := "ytfcemgcmpcmgcaa", sum := "cdb3129b95b5825483121c33cfb81e0b2cb97f605709f8ac0a2d942b8bed647f", func := "loop.example/vectorstore/laws.FnAddEntry", spec := "fnAddEntry", unfollowed := true, recurses := true, apart := false }
def FnAddEntrySaid : Prop := fnAddEntryRow.holds Try.pinned (OpenSpec.ofChange fnAddEntrySpec)

/-- ITS FALSE NEIGHBOUR: 'it returns false'. Refute it at one input. -/
def fnAddEntryWrong : ChangeSpec := { name := "fnAddEntry", fn := fun _ => fun
  | [d] => { results := [.lit (.bool false)], args := [d] }
  | _ => none }
def FnAddEntryWrongFalsely : Prop := fnAddEntryRow.holds Try.pinned (OpenSpec.ofChange fnAddEntryWrong)

/-- 'laws.FnAddEntryRollBack': WHATEVER THE INPUT: true; the input reads as it did. -/
def fnAddEntryRollBackSpec : ChangeSpec := { name := "fnAddEntryRollBack", fn := fun _ => fun
  | [d] => { results := [.lit (.bool true)], args := [d] }
  | _ => none }
def fnAddEntryRollBackRow : OpenClaim := { program := "ytfcemgcmpcmgcaa", sum := "cdb3129b95b5825483121c33cfb81e0b2cb97f605709f8ac0a2d942b8bed647f", func := "loop.example/vectorstore/laws.FnAddEntryRollBack", spec := "fnAddEntryRollBack", unfollowed := true, recurses := true, apart := false }
def FnAddEntryRollBackSaid : Prop := fnAddEntryRollBackRow.holds Try.pinned (OpenSpec.ofChange fnAddEntryRollBackSpec)

/-- ITS FALSE NEIGHBOUR: 'it returns false'. Refute it at one input. -/
def fnAddEntryRollBackWrong : ChangeSpec := { name := "fnAddEntryRollBack", fn := fun _ => fun
  | [d] => { results := [.lit (.bool false)], args := [d] }
  | _ => none }
def FnAddEntryRollBackWrongFalsely : Prop := fnAddEntryRollBackRow.holds Try.pinned (OpenSpec.ofChange fnAddEntryRollBackWrong)

/-- 'laws.FnRollBack': WHATEVER THE INPUT: true; the input reads as it did. -/
def fnRollBackSpec : ChangeSpec := { name := "fnRollBack", fn := fun _ => fun
  | [d] => { results := [.lit (.bool true)], args := [d] }
  | _ => none }
def fnRollBackRow : OpenClaim := { program := "ytfcemgcmpcmgcaa", sum := "cdb3129b95b5825483121c33cfb81e0b2cb97f605709f8ac0a2d942b8bed647f", func := "loop.example/vectorstore/laws.FnRollBack", spec := "fnRollBack", unfollowed := true, recurses := true, apart := false }
def FnRollBackSaid : Prop := fnRollBackRow.holds Try.pinned (OpenSpec.ofChange fnRollBackSpec)

/-- ITS FALSE NEIGHBOUR: 'it returns false'. Refute it at one input. -/
def fnRollBackWrong : ChangeSpec := { name := "fnRollBack", fn := fun _ => fun
  | [d] => { results := [.lit (.bool false)], args := [d] }
  | _ => none }
def FnRollBackWrongFalsely : Prop := fnRollBackRow.holds Try.pinned (OpenSpec.ofChange fnRollBackWrong)

/-- 'laws.FnRollBackTwice': WHATEVER THE INPUT: true; the input reads as it did. -/
def fnRollBackTwiceSpec : ChangeSpec := { name := "fnRollBackTwice", fn := fun _ => fun
  | [d] => { results := [.lit (.bool true)], args := [d] }
  | _ => none }
def fnRollBackTwiceRow : OpenClaim := { program := "ytfcemgcmpcmgcaa", sum := "cdb3129b95b5825483121c33cfb81e0b2cb97f605709f8ac0a2d942b8bed647f", func := "loop.example/vectorstore/laws.FnRollBackTwice", spec := "fnRollBackTwice", unfollowed := true, recurses := true, apart := false }
def FnRollBackTwiceSaid : Prop := fnRollBackTwiceRow.holds Try.pinned (OpenSpec.ofChange fnRollBackTwiceSpec)

/-- ITS FALSE NEIGHBOUR: 'it returns false'. Refute it at one input. -/
def fnRollBackTwiceWrong : ChangeSpec := { name := "fnRollBackTwice", fn := fun _ => fun
  | [d] => { results := [.lit (.bool false)], args := [d] }
  | _ => none }
def FnRollBackTwiceWrongFalsely : Prop := fnRollBackTwiceRow.holds Try.pinned (OpenSpec.ofChange fnRollBackTwiceWrong)

/-- 'laws.FnChangedKeys': WHATEVER THE INPUT: true; the input reads as it did. -/
def fnChangedKeysSpec : ChangeSpec := { name := "fnChangedKeys", fn := fun _ => fun
  | [d] => { results := [.lit (.bool true)], args := [d] }
  | _ => none }
def fnChangedKeysRow : OpenClaim := { program := "ytfcemgcmpcmgcaa", sum := "cdb3129b95b5825483121c33cfb81e0b2cb97f605709f8ac0a2d942b8bed647f", func := "loop.example/vectorstore/laws.FnChangedKeys", spec := "fnChangedKeys", unfollowed := true, recurses := true, apart := false }
def FnChangedKeysSaid : Prop := fnChangedKeysRow.holds Try.pinned (OpenSpec.ofChange fnChangedKeysSpec)

/-- ITS FALSE NEIGHBOUR: 'it returns false'. Refute it at one input. -/
def fnChangedKeysWrong : ChangeSpec := { name := "fnChangedKeys", fn := fun _ => fun
  | [d] => { results := [.lit (.bool false)], args := [d] }
  | _ => none }
def FnChangedKeysWrongFalsely : Prop := fnChangedKeysRow.holds Try.pinned (OpenSpec.ofChange fnChangedKeysWrong)

/-- 'laws.FnChangedKeysLog': WHATEVER THE INPUT: true; the input reads as it did. -/
def fnChangedKeysLogSpec : ChangeSpec := { name := "fnChangedKeysLog", fn := fun _ => fun
  | [d] => { results := [.lit (.bool true)], args := [d] }
  | _ => none }
def fnChangedKeysLogRow : OpenClaim := { program := "ytfcemgcmpcmgcaa", sum := "cdb3129b95b5825483121c33cfb81e0b2cb97f605709f8ac0a2d942b8bed647f", func := "loop.example/vectorstore/laws.FnChangedKeysLog", spec := "fnChangedKeysLog", unfollowed := true, recurses := true, apart := false }
def FnChangedKeysLogSaid : Prop := fnChangedKeysLogRow.holds Try.pinned (OpenSpec.ofChange fnChangedKeysLogSpec)

/-- ITS FALSE NEIGHBOUR: 'it returns false'. Refute it at one input. -/
def fnChangedKeysLogWrong : ChangeSpec := { name := "fnChangedKeysLog", fn := fun _ => fun
  | [d] => { results := [.lit (.bool false)], args := [d] }
  | _ => none }
def FnChangedKeysLogWrongFalsely : Prop := fnChangedKeysLogRow.holds Try.pinned (OpenSpec.ofChange fnChangedKeysLogWrong)

/-- 'laws.FnStoreAtLog': WHATEVER THE INPUT: true; the input reads as it did. -/
def fnStoreAtLogSpec : ChangeSpec := { name := "fnStoreAtLog", fn := fun _ => fun
  | [d] => { results := [.lit (.bool true)], args := [d] }
  | _ => none }
def fnStoreAtLogRow : OpenClaim := { program := "ytfcemgcmpcmgcaa", sum := "cdb3129b95b5825483121c33cfb81e0b2cb97f605709f8ac0a2d942b8bed647f", func := "loop.example/vectorstore/laws.FnStoreAtLog", spec := "fnStoreAtLog", unfollowed := true, recurses := true, apart := false }
def FnStoreAtLogSaid : Prop := fnStoreAtLogRow.holds Try.pinned (OpenSpec.ofChange fnStoreAtLogSpec)

/-- ITS FALSE NEIGHBOUR: 'it returns false'. Refute it at one input. -/
def fnStoreAtLogWrong : ChangeSpec := { name := "fnStoreAtLog", fn := fun _ => fun
  | [d] => { results := [.lit (.bool false)], args := [d] }
  | _ => none }
def FnStoreAtLogWrongFalsely : Prop := fnStoreAtLogRow.holds Try.pinned (OpenSpec.ofChange fnStoreAtLogWrong)

/-- 'laws.FnAddEntryTime': WHATEVER THE INPUT: true; the input reads as it did. -/
def fnAddEntryTimeSpec : ChangeSpec := { name := "fnAddEntryTime", fn := fun _ => fun
  | [d] => { results := [.lit (.bool true)], args := [d] }
  | _ => none }
def fnAddEntryTimeRow : OpenClaim := { program := "ytfcemgcmpcmgcaa", sum := "cdb3129b95b5825483121c33cfb81e0b2cb97f605709f8ac0a2d942b8bed647f", func := "loop.example/vectorstore/laws.FnAddEntryTime", spec := "fnAddEntryTime", unfollowed := true, recurses := true, apart := false }
def FnAddEntryTimeSaid : Prop := fnAddEntryTimeRow.holds Try.pinned (OpenSpec.ofChange fnAddEntryTimeSpec)

/-- ITS FALSE NEIGHBOUR: 'it returns false'. Refute it at one input. -/
def fnAddEntryTimeWrong : ChangeSpec := { name := "fnAddEntryTime", fn := fun _ => fun
  | [d] => { results := [.lit (.bool false)], args := [d] }
  | _ => none }
def FnAddEntryTimeWrongFalsely : Prop := fnAddEntryTimeRow.holds Try.pinned (OpenSpec.ofChange fnAddEntryTimeWrong)

/-- 'laws.FnRollBackAdd': WHATEVER THE INPUT: true; the input reads as it did. -/
def fnRollBackAddSpec : ChangeSpec := { name := "fnRollBackAdd", fn := fun _ => fun
  | [d] => { results := [.lit (.bool true)], args := [d] }
  | _ => none }
def fnRollBackAddRow : OpenClaim := { program := "ytfcemgcmpcmgcaa", sum := "cdb3129b95b5825483121c33cfb81e0b2cb97f605709f8ac0a2d942b8bed647f", func := "loop.example/vectorstore/laws.FnRollBackAdd", spec := "fnRollBackAdd", unfollowed := true, recurses := true, apart := false }
def FnRollBackAddSaid : Prop := fnRollBackAddRow.holds Try.pinned (OpenSpec.ofChange fnRollBackAddSpec)

/-- ITS FALSE NEIGHBOUR: 'it returns false'. Refute it at one input. -/
def fnRollBackAddWrong : ChangeSpec := { name := "fnRollBackAdd", fn := fun _ => fun
  | [d] => { results := [.lit (.bool false)], args := [d] }
  | _ => none }
def FnRollBackAddWrongFalsely : Prop := fnRollBackAddRow.holds Try.pinned (OpenSpec.ofChange fnRollBackAddWrong)

/- THE SECOND FORM. 'bulk': how many values and letters a reading holds, each counted each time it is reached (what is shared counts as often as it is met; a slice's spare places count too). A statement '..UptoSaid' is the law's where the arguments, and the package variables that the reading takes, are together of bulk at most 1048576: NARROWER than '..Said'. Prove '..Said' where nothing that the law and all that it calls make is longer than what came in: it says more and counts as full. Else prove '..UptoSaid'. A law counts once. -/
mutual
def uptoBulk {H : Type} : DataW H → Nat
  | .lit (.string bytes) => bytes.length + 1
  | .lit _ => 1
  | .nil => 1
  | .ptr d => uptoBulk d + 1
  | .slice elems spare => uptoBulkAll elems + uptoBulkAll spare + 1
  | .agg parts => uptoBulkAll parts + 1
  | .iface _ d => uptoBulk d + 1
  | .map entries => uptoBulkEntries entries + 1
  | .held _ => 1
def uptoBulkAll {H : Type} : List (DataW H) → Nat
  | [] => 0
  | d :: r => uptoBulk d + uptoBulkAll r
def uptoBulkEntries {H : Type} : List (Lit × DataW H) → Nat
  | [] => 0
  | x :: r => uptoBulkEntry x + uptoBulkEntries r
def uptoBulkEntry {H : Type} : Lit × DataW H → Nat
  | (.string bytes, d) => bytes.length + uptoBulk d + 1
  | (_, d) => uptoBulk d + 1
 end
def uptoSmall : (H : Type) → List (DataW H) → Bool := fun _ ds => decide (uptoBulkAll ds ≤ 1048576)
def OpenSpec.upto (s : _root_.Go.ChangeSpec) : _root_.Go.OpenSpec := { _root_.Go.OpenSpec.ofChange s with cond := some uptoSmall }

/-- 'laws.FnValidHistory', WHERE WHAT IT READS IS OF BULK AT MOST 1048576: true; the input reads as it did. -/
def fnValidHistoryUptoRow : OpenClaim := { program := "ytfcemgcmpcmgcaa", sum := "cdb3129b95b5825483121c33cfb81e0b2cb97f605709f8ac0a2d942b8bed647f", func := "loop.example/vectorstore/laws.FnValidHistory", spec := "fnValidHistory", unfollowed := true, recurses := true, apart := false, narrowed := true }
def FnValidHistoryUptoSaid : Prop := fnValidHistoryUptoRow.holds Try.pinned (OpenSpec.upto fnValidHistorySpec)

/-- 'laws.FnStoreAt', WHERE WHAT IT READS IS OF BULK AT MOST 1048576: true; the input reads as it did. -/
def fnStoreAtUptoRow : OpenClaim := { program := "ytfcemgcmpcmgcaa", sum := "cdb3129b95b5825483121c33cfb81e0b2cb97f605709f8ac0a2d942b8bed647f", func := "loop.example/vectorstore/laws.FnStoreAt", spec := "fnStoreAt", unfollowed := true, recurses := true, apart := false, narrowed := true }
def FnStoreAtUptoSaid : Prop := fnStoreAtUptoRow.holds Try.pinned (OpenSpec.upto fnStoreAtSpec)

/-- 'laws.FnStoreAtBetween', WHERE WHAT IT READS IS OF BULK AT MOST 1048576: true; the input reads as it did. -/
def fnStoreAtBetweenUptoRow : OpenClaim := { program := "ytfcemgcmpcmgcaa", sum := "cdb3129b95b5825483121c33cfb81e0b2cb97f605709f8ac0a2d942b8bed647f", func := "loop.example/vectorstore/laws.FnStoreAtBetween", spec := "fnStoreAtBetween", unfollowed := true, recurses := true, apart := false, narrowed := true }
def FnStoreAtBetweenUptoSaid : Prop := fnStoreAtBetweenUptoRow.holds Try.pinned (OpenSpec.upto fnStoreAtBetweenSpec)

/-- 'laws.FnAddEntry', WHERE WHAT IT READS IS OF BULK AT MOST 1048576: true; the input reads as it did. -/
def fnAddEntryUptoRow : OpenClaim := { program := "ytfcemgcmpcmgcaa", sum := "cdb3129b95b5825483121c33cfb81e0b2cb97f605709f8ac0a2d942b8bed647f", func := "loop.example/vectorstore/laws.FnAddEntry", spec := "fnAddEntry", unfollowed := true, recurses := true, apart := false, narrowed := true }
def FnAddEntryUptoSaid : Prop := fnAddEntryUptoRow.holds Try.pinned (OpenSpec.upto fnAddEntrySpec)

/-- 'laws.FnAddEntryRollBack', WHERE WHAT IT READS IS OF BULK AT MOST 1048576: true; the input reads as it did. -/
def fnAddEntryRollBackUptoRow : OpenClaim := { program := "ytfcemgcmpcmgcaa", sum := "cdb3129b95b5825483121c33cfb81e0b2cb97f605709f8ac0a2d942b8bed647f", func := "loop.example/vectorstore/laws.FnAddEntryRollBack", spec := "fnAddEntryRollBack", unfollowed := true, recurses := true, apart := false, narrowed := true }
def FnAddEntryRollBackUptoSaid : Prop := fnAddEntryRollBackUptoRow.holds Try.pinned (OpenSpec.upto fnAddEntryRollBackSpec)

/-- 'laws.FnRollBack', WHERE WHAT IT READS IS OF BULK AT MOST 1048576: true; the input reads as it did. -/
def fnRollBackUptoRow : OpenClaim := { program := "ytfcemgcmpcmgcaa", sum := "cdb3129b95b5825483121c33cfb81e0b2cb97f605709f8ac0a2d942b8bed647f", func := "loop.example/vectorstore/laws.FnRollBack", spec := "fnRollBack", unfollowed := true, recurses := true, apart := false, narrowed := true }
def FnRollBackUptoSaid : Prop := fnRollBackUptoRow.holds Try.pinned (OpenSpec.upto fnRollBackSpec)

/-- 'laws.FnRollBackTwice', WHERE WHAT IT READS IS OF BULK AT MOST 1048576: true; the input reads as it did. -/
def fnRollBackTwiceUptoRow : OpenClaim := { program := "ytfcemgcmpcmgcaa", sum := "cdb3129b95b5825483121c33cfb81e0b2cb97f605709f8ac0a2d942b8bed647f", func := "loop.example/vectorstore/laws.FnRollBackTwice", spec := "fnRollBackTwice", unfollowed := true, recurses := true, apart := false, narrowed := true }
def FnRollBackTwiceUptoSaid : Prop := fnRollBackTwiceUptoRow.holds Try.pinned (OpenSpec.upto fnRollBackTwiceSpec)

/-- 'laws.FnChangedKeys', WHERE WHAT IT READS IS OF BULK AT MOST 1048576: true; the input reads as it did. -/
def fnChangedKeysUptoRow : OpenClaim := { program := "ytfcemgcmpcmgcaa", sum := "cdb3129b95b5825483121c33cfb81e0b2cb97f605709f8ac0a2d942b8bed647f", func := "loop.example/vectorstore/laws.FnChangedKeys", spec := "fnChangedKeys", unfollowed := true, recurses := true, apart := false, narrowed := true }
def FnChangedKeysUptoSaid : Prop := fnChangedKeysUptoRow.holds Try.pinned (OpenSpec.upto fnChangedKeysSpec)

/-- 'laws.FnChangedKeysLog', WHERE WHAT IT READS IS OF BULK AT MOST 1048576: true; the input reads as it did. -/
def fnChangedKeysLogUptoRow : OpenClaim := { program := "ytfcemgcmpcmgcaa", sum := "cdb3129b95b5825483121c33cfb81e0b2cb97f605709f8ac0a2d942b8bed647f", func := "loop.example/vectorstore/laws.FnChangedKeysLog", spec := "fnChangedKeysLog", unfollowed := true, recurses := true, apart := false, narrowed := true }
def FnChangedKeysLogUptoSaid : Prop := fnChangedKeysLogUptoRow.holds Try.pinned (OpenSpec.upto fnChangedKeysLogSpec)

/-- 'laws.FnStoreAtLog', WHERE WHAT IT READS IS OF BULK AT MOST 1048576: true; the input reads as it did. -/
def fnStoreAtLogUptoRow : OpenClaim := { program := "ytfcemgcmpcmgcaa", sum := "cdb3129b95b5825483121c33cfb81e0b2cb97f605709f8ac0a2d942b8bed647f", func := "loop.example/vectorstore/laws.FnStoreAtLog", spec := "fnStoreAtLog", unfollowed := true, recurses := true, apart := false, narrowed := true }
def FnStoreAtLogUptoSaid : Prop := fnStoreAtLogUptoRow.holds Try.pinned (OpenSpec.upto fnStoreAtLogSpec)

/-- 'laws.FnAddEntryTime', WHERE WHAT IT READS IS OF BULK AT MOST 1048576: true; the input reads as it did. -/
def fnAddEntryTimeUptoRow : OpenClaim := { program := "ytfcemgcmpcmgcaa", sum := "cdb3129b95b5825483121c33cfb81e0b2cb97f605709f8ac0a2d942b8bed647f", func := "loop.example/vectorstore/laws.FnAddEntryTime", spec := "fnAddEntryTime", unfollowed := true, recurses := true, apart := false, narrowed := true }
def FnAddEntryTimeUptoSaid : Prop := fnAddEntryTimeUptoRow.holds Try.pinned (OpenSpec.upto fnAddEntryTimeSpec)

/-- 'laws.FnRollBackAdd', WHERE WHAT IT READS IS OF BULK AT MOST 1048576: true; the input reads as it did. -/
def fnRollBackAddUptoRow : OpenClaim := { program := "ytfcemgcmpcmgcaa", sum := "cdb3129b95b5825483121c33cfb81e0b2cb97f605709f8ac0a2d942b8bed647f", func := "loop.example/vectorstore/laws.FnRollBackAdd", spec := "fnRollBackAdd", unfollowed := true, recurses := true, apart := false, narrowed := true }
def FnRollBackAddUptoSaid : Prop := fnRollBackAddUptoRow.holds Try.pinned (OpenSpec.upto fnRollBackAddSpec)

end Rows
end Go.Proofs.Ytfcemgcmpcmgcaa
