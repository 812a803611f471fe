/- For every input, the law FnExactFilterStore of the translated program returns true, and the input reads as it did: proved under no further condition. -/
import Derived.Test.YtanbdmdbfjonhaaExactFilterStoreEng1
import Derived.Test.YtanbdmdbfjonhaaKExactFilterStoreC2
import Derived.Test.YtanbdmdbfjonhaaExactFilterStorePure1
import Derived.Test.YtanbdmdbfjonhaaRows
set_option linter.unusedVariables false
set_option linter.unusedSimpArgs false
namespace Go.Proofs.Ytanbdmdbfjonhaa
open Go.Vs Go.ChangeShapes Go.WideShapes Go.ChangeAt Go.RowKit

theorem Try.own : ownKnob Try.prog.godebug = none := by kernel_rfl
theorem Try.laidOut : laidOutB Try.prog = true := by kernel_rfl
theorem Try.cells3 : Try.prog.cellsOf 3 = 1 := by kernel_rfl
theorem Try.cells30 : Try.prog.cellsOf 30 = 1 := by kernel_rfl
theorem Try.cells50 : Try.prog.cellsOf 50 = 3 := by kernel_rfl
theorem Try.cells84 : Try.prog.cellsOf 84 = 3 := by kernel_rfl

set_option maxRecDepth 100000 in
theorem fnExactFilterStore_lifted (os : Os) (started : os.Started) (H : Type) (enc : TypeId × Value → H) :
    ReturnsInHanded {} Try.checked os 9 .any (Rows.fnExactFilterStoreSpec.pre6 enc Try.prog Try.f9 Rows.fnExactFilterStoreRow.domain false) (Rows.fnExactFilterStoreSpec.post enc Try.prog Try.f9 false true false false) := by
  refine returnsInHanded_of_change (C := Try.checked) Try.own started (by kernel_rfl) Try.func9
    (ChangeSpec.witness6 (enc := enc) (C := Try.checked) false ⟨#[], #[.slice none 0 0, .agg #[.int .i64 0, .int .i64 0, .int .i64 0]], []⟩ 8 (by kernel_rfl) (by kernel_rfl) (by kernel_rfl) (by kernel_rfl)) ?_
  intro W base args ds gs before hval0 hW _ _
  have hval : ∀ (j : Nat) t v, Try.f9.params[j]? = some t → args[j]? = some v → Value.okWide Try.prog W .any base t v := hval0
  have hW' := hW
  obtain ⟨p, q, hA0, hV, rfl, _, _⟩ := hW
  have hA : DataW.TrodAll enc Try.prog W 0 (fun _ => true) true Try.f9.params.toList args.toList ds p := hA0
  rw [Try.params9] at hA hval
  obtain ⟨v0, v1, d0, d1, p0, p1, rfl, rfl, rfl, h0, h1⟩ := trodAll_two hA
  obtain ⟨rfl, rfl⟩ := trodVars_none hV
  simp only [List.append_nil] at hW'
  have hlt : ∀ x ∈ p0 ++ p1, x.block < W.heap.size := fun x hx => by simpa using hW'.lt x (by simpa using hx)
  have l0 : ∀ x ∈ p0, x.block < W.heap.size := fun x hx => hlt x (by simp [hx])
  have k0 := h0
  have hv0 := hval 0 49 _ rfl rfl
  obtain ⟨a0, xs0, c0, N0, ok0, rfl, hR0⟩ := arg_list Try.underlying49 Try.cells84 (opens_struct3 Try.underlying84 Try.cells84 rfl rfl rfl Try.cells3 Try.cells30 Try.cells3 (opens_int Try.underlying3) (opens_slice Try.underlying30 Try.cells3 (opens_int Try.underlying3)) (opens_int Try.underlying3)) hv0 h0 l0
  have r0 : ∀ (W' : World), Below W.heap.size W W' → DataW.Trod enc Try.prog W' 0 (fun b => decide (b < W.heap.size)) true 49 (Sl a0 xs0 c0) d0 p0 :=
    fun W' hn => Below.trod Try.laidOut (by kernel_rfl) (of_decide_eq_true (by kernel_rfl)) k0 hn l0
  have l1 : ∀ x ∈ p1, x.block < W.heap.size := fun x hx => hlt x (by simp [hx])
  have k1 := h1
  have hv1 := hval 1 50 _ rfl rfl
  obtain ⟨xs1, ok1, rfl⟩ := arg_rec3 Try.underlying50 (opens_struct3 Try.underlying50 Try.cells50 rfl rfl rfl Try.cells3 Try.cells3 Try.cells3 (opens_int Try.underlying3) (opens_int Try.underlying3) (opens_int Try.underlying3)) hv1 h1 l1
  have r1 : ∀ (W' : World), Below W.heap.size W W' → DataW.Trod enc Try.prog W' 0 (fun b => decide (b < W.heap.size)) true 50 (.agg #[(I xs1.1), (I xs1.2.1), (I xs1.2.2)]) d1 p1 :=
    fun W' hn => Below.trod Try.laidOut (by kernel_rfl) (of_decide_eq_true (by kernel_rfl)) k1 hn l1
  clear hA0 hval0
  refine ((c_laws_FnExactFilterStore (aaList_0 := a0) (caList_0 := c0) (law_ExactFilterStore xs0 xs1 ok0 ok1)).runs (allIn W (N0)) 0 (Nat.zero_le _) (Hp.begin (all_ro (hR0 _ (by omega)) trivial) (apart_ro trivial))).mono ?_
  rintro e w' ⟨v, σ', L', rfl, rfl, ⟨rfl, rfl⟩, H⟩
  have hnx : Below W.heap.size W σ'.w := H.md.below (cov_ro cov_nil)
  refine ⟨_, rfl, _, _, _, [], p0 ++ p1, [], hW', ?_, ?_, by rfl, hnx.frame _, fun h => by cases h⟩
  · exact trodAll_mk1 (shut_bool Try.underlying4 true)
  · exact trodAll_mk2 (r0 _ hnx) (r1 _ hnx)

theorem fnExactFilterStore_holds : Rows.FnExactFilterStoreSaid :=
  OpenClaim.holds_of_wide 9 Try.f9 rfl rfl rfl rfl rfl rfl rfl ⟨rfl, rfl, rfl, rfl, rfl⟩ rfl rfl rfl rfl rfl (by kernel_rfl) Try.func9 (by kernel_rfl)
    (of_decide_eq_true (by kernel_rfl)) (by unfold Func.isWrapper; first | (rw [if_pos (by decide +kernel)]; kernel_rfl) | (rw [if_neg (by decide +kernel)]; exact ⟨rfl, rfl⟩))
    (fun os started H enc _ => fnExactFilterStore_lifted os started H enc)
end Go.Proofs.Ytanbdmdbfjonhaa
