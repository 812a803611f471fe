/- For every input, the law FnExactValidHistory of the translated program returns true, and the input reads as it did: proved under no further condition. -/
import Derived.Test.YtfcemgcmpcmgcabExactValidHistoryEng1
import Derived.Test.YtfcemgcmpcmgcabKExactValidHistoryC4
import Derived.Test.YtfcemgcmpcmgcabExactValidHistoryPure1
import Derived.Test.YtfcemgcmpcmgcabRows
set_option linter.unusedVariables false
set_option linter.unusedSimpArgs false
namespace Go.Proofs.Ytfcemgcmpcmgcab
open Go.Vs Go.ChangeShapes Go.WideShapes Go.ChangeAt Go.RowKit

theorem Try.own : ownKnob Try.prog.godebug = none := by kernel_rfl
theorem Try.laidOut : laidOutB Try.prog = true := by kernel_rfl
theorem Try.cells3 : Try.prog.cellsOf 3 = 1 := by kernel_rfl
theorem Try.cells24 : Try.prog.cellsOf 24 = 1 := by kernel_rfl
theorem Try.cells38 : Try.prog.cellsOf 38 = 1 := by kernel_rfl
theorem Try.cells40 : Try.prog.cellsOf 40 = 2 := by kernel_rfl
theorem Try.cells49 : Try.prog.cellsOf 49 = 3 := by kernel_rfl
theorem Try.cells51 : Try.prog.cellsOf 51 = 4 := by kernel_rfl

set_option maxRecDepth 100000 in
theorem fnExactValidHistory_lifted (os : Os) (started : os.Started) (H : Type) (enc : TypeId × Value → H) :
    ReturnsInHanded {} Try.checked os 4 .any (Rows.fnExactValidHistorySpec.pre6 enc Try.prog Try.f4 Rows.fnExactValidHistoryRow.domain false) (Rows.fnExactValidHistorySpec.post enc Try.prog Try.f4 false true false false) := by
  refine returnsInHanded_of_change (C := Try.checked) Try.own started (by kernel_rfl) Try.func4
    (ChangeSpec.witness6 (enc := enc) (C := Try.checked) false ⟨#[], #[.agg #[.slice none 0 0, .slice none 0 0]], []⟩ 8 (by kernel_rfl) (by kernel_rfl) (by kernel_rfl) (by kernel_rfl)) ?_
  intro W base args ds gs before hval0 hW _ _
  have hval : ∀ (j : Nat) t v, Try.f4.params[j]? = some t → args[j]? = some v → Value.okWide Try.prog W .any base t v := hval0
  have hW' := hW
  obtain ⟨p, q, hA0, hV, rfl, _, _⟩ := hW
  have hA : DataW.TrodAll enc Try.prog W 0 (fun _ => true) true Try.f4.params.toList args.toList ds p := hA0
  rw [Try.params4] at hA hval
  obtain ⟨v0, d0, rfl, rfl, h0⟩ := trodAll_one hA
  obtain ⟨rfl, rfl⟩ := trodVars_none hV
  simp only [List.append_nil] at hW'
  have hlt : ∀ x ∈ p, x.block < W.heap.size := fun x hx => by simpa using hW'.lt x (by simpa using hx)
  have l0 : ∀ x ∈ p, x.block < W.heap.size := fun x hx => hlt x (by simp [hx])
  have k0 := h0
  have hv0 := hval 0 40 _ rfl rfl
  obtain ⟨xs0, a0, c0, b0, e0, N0, ok0, rfl, hR0, hQ0⟩ := arg_pair Try.underlying40 (opens_struct2 Try.underlying40 Try.cells40 rfl rfl Try.cells38 Try.cells24 (opens_slice Try.underlying38 Try.cells51 (opens_struct2 Try.underlying51 Try.cells51 rfl rfl Try.cells3 Try.cells49 (opens_int Try.underlying3) (opens_struct3 Try.underlying49 Try.cells49 rfl rfl rfl Try.cells3 Try.cells24 Try.cells3 (opens_int Try.underlying3) (opens_slice Try.underlying24 Try.cells3 (opens_int Try.underlying3)) (opens_int Try.underlying3)))) (opens_slice Try.underlying24 Try.cells3 (opens_int Try.underlying3))) hv0 h0 l0
  have r0 : ∀ (W' : World), Below W.heap.size W W' → DataW.Trod enc Try.prog W' 0 (fun b => decide (b < W.heap.size)) true 40 (.agg #[(Sl a0 xs0.1 c0), (Sl b0 xs0.2 e0)]) d0 p :=
    fun W' hn => Below.trod Try.laidOut (by kernel_rfl) (of_decide_eq_true (by kernel_rfl)) k0 hn l0
  clear hA0 hval0
  refine ((c_laws_FnExactValidHistory (aaH_0_0 := a0) (caH_0_0 := c0) (aaH_0_1 := b0) (caH_0_1 := e0) (law_ExactValidHistory xs0 ok0)).runs (allIn W (N0)) 0 (Nat.zero_le _) (Hp.begin (all_ro (hR0 _ (by omega)) (all_ro (hQ0 _ (by omega)) trivial)) (apart_ro (apart_ro trivial)))).mono ?_
  rintro e w' ⟨v, σ', L', rfl, rfl, ⟨rfl, rfl⟩, H⟩
  have hnx : Below W.heap.size W σ'.w := H.md.below (cov_ro (cov_ro cov_nil))
  refine ⟨_, rfl, _, _, _, [], p, [], hW', ?_, ?_, by rfl, hnx.frame _, fun h => by cases h⟩
  · exact trodAll_mk1 (shut_bool Try.underlying4 true)
  · exact trodAll_mk1 (r0 _ hnx)

theorem fnExactValidHistory_holds : Rows.FnExactValidHistorySaid :=
  OpenClaim.holds_of_wide 4 Try.f4 rfl rfl rfl rfl rfl rfl rfl ⟨rfl, rfl, rfl, rfl, rfl⟩ rfl rfl rfl rfl rfl (by kernel_rfl) Try.func4 (by kernel_rfl)
    (of_decide_eq_true (by kernel_rfl)) (by unfold Func.isWrapper; first | (rw [if_pos (by decide +kernel)]; kernel_rfl) | (rw [if_neg (by decide +kernel)]; exact ⟨rfl, rfl⟩))
    (fun os started H enc _ => fnExactValidHistory_lifted os started H enc)
end Go.Proofs.Ytfcemgcmpcmgcab
