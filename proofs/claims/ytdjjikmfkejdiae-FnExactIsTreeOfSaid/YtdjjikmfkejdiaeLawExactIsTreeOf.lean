/- For every input, the law FnExactIsTreeOf of the translated program returns true, and the input reads as it did: proved under no further condition. -/
import Derived.Test.YtdjjikmfkejdiaeExactIsTreeOfEng1
import Derived.Test.YtdjjikmfkejdiaeKExactIsTreeOfC3
import Derived.Test.YtdjjikmfkejdiaeExactIsTreeOfPure1
import Derived.Test.YtdjjikmfkejdiaeRows
set_option linter.unusedVariables false
set_option linter.unusedSimpArgs false
namespace Go.Proofs.Ytdjjikmfkejdiae
open Go.Vs Go.ChangeShapes Go.WideShapes Go.ChangeAt Go.RowKit

theorem Try.own : ownKnob Try.prog.godebug = none := by kernel_rfl
theorem Try.laidOut : laidOutB Try.prog = true := by kernel_rfl
theorem Try.cells3 : Try.prog.cellsOf 3 = 1 := by kernel_rfl
theorem Try.cells23 : Try.prog.cellsOf 23 = 1 := by kernel_rfl
theorem Try.cells59 : Try.prog.cellsOf 59 = 3 := by kernel_rfl
theorem Try.cells79 : Try.prog.cellsOf 79 = 4 := by kernel_rfl

set_option maxRecDepth 100000 in
theorem fnExactIsTreeOf_lifted (os : Os) (started : os.Started) (H : Type) (enc : TypeId × Value → H) :
    ReturnsInHanded {} Try.checked os 5 .any (Rows.fnExactIsTreeOfSpec.pre6 enc Try.prog Try.f5 Rows.fnExactIsTreeOfRow.domain false) (Rows.fnExactIsTreeOfSpec.post enc Try.prog Try.f5 false true false false) := by
  refine returnsInHanded_of_change (C := Try.checked) Try.own started (by kernel_rfl) Try.func5
    (ChangeSpec.witness6 (enc := enc) (C := Try.checked) false ⟨#[], #[.slice none 0 0, .slice none 0 0, .int .i64 0], []⟩ 8 (by kernel_rfl) (by kernel_rfl) (by kernel_rfl) (by kernel_rfl)) ?_
  intro W base args ds gs before hval0 hW _ _
  have hval : ∀ (j : Nat) t v, Try.f5.params[j]? = some t → args[j]? = some v → Value.okWide Try.prog W .any base t v := hval0
  have hW' := hW
  obtain ⟨p, q, hA0, hV, rfl, _, _⟩ := hW
  have hA : DataW.TrodAll enc Try.prog W 0 (fun _ => true) true Try.f5.params.toList args.toList ds p := hA0
  rw [Try.params5] at hA hval
  obtain ⟨v0, v1, v2, d0, d1, d2, p0, p1, p2, rfl, rfl, rfl, h0, h1, h2⟩ := trodAll_three hA
  obtain ⟨rfl, rfl⟩ := trodVars_none hV
  simp only [List.append_nil] at hW'
  have hlt : ∀ x ∈ p0 ++ p1 ++ p2, x.block < W.heap.size := fun x hx => by simpa using hW'.lt x (by simpa using hx)
  have l0 : ∀ x ∈ p0, x.block < W.heap.size := fun x hx => hlt x (by simp [hx])
  have k0 := h0
  have hv0 := hval 0 42 _ rfl rfl
  obtain ⟨a0, xs0, c0, N0, ok0, rfl, hR0⟩ := arg_list Try.underlying42 Try.cells79 (opens_struct4 Try.underlying79 Try.cells79 rfl rfl rfl rfl Try.cells3 Try.cells3 Try.cells3 Try.cells3 (opens_int Try.underlying3) (opens_int Try.underlying3) (opens_int Try.underlying3) (opens_int Try.underlying3)) hv0 h0 l0
  have r0 : ∀ (W' : World), Below W.heap.size W W' → DataW.Trod enc Try.prog W' 0 (fun b => decide (b < W.heap.size)) true 42 (Sl a0 xs0 c0) d0 p0 :=
    fun W' hn => Below.trod Try.laidOut (by kernel_rfl) (of_decide_eq_true (by kernel_rfl)) k0 hn l0
  have l1 : ∀ x ∈ p1, x.block < W.heap.size := fun x hx => hlt x (by simp [hx])
  have k1 := h1
  have hv1 := hval 1 22 _ rfl rfl
  obtain ⟨a1, xs1, c1, N1, ok1, rfl, hR1⟩ := arg_list Try.underlying22 Try.cells59 (opens_struct3 Try.underlying59 Try.cells59 rfl rfl rfl Try.cells3 Try.cells23 Try.cells3 (opens_int Try.underlying3) (opens_slice Try.underlying23 Try.cells3 (opens_int Try.underlying3)) (opens_int Try.underlying3)) hv1 h1 l1
  have r1 : ∀ (W' : World), Below W.heap.size W W' → DataW.Trod enc Try.prog W' 0 (fun b => decide (b < W.heap.size)) true 22 (Sl a1 xs1 c1) d1 p1 :=
    fun W' hn => Below.trod Try.laidOut (by kernel_rfl) (of_decide_eq_true (by kernel_rfl)) k1 hn l1
  obtain ⟨n2, rfl, rfl, rfl, w2⟩ := open_int Try.underlying3 (hval 2 3 _ rfl rfl) h2
  clear hA0 hval0
  refine ((c_laws_FnExactIsTreeOf (aaNodes_0 := a0) (caNodes_0 := c0) (aaList_1 := a1) (caList_1 := c1) (law_ExactIsTreeOf xs0 xs1 n2 ok0 ok1)).runs (allIn W (N0 + N1)) 0 (Nat.zero_le _) (Hp.begin (all_ro (hR0 _ (by omega)) (all_ro (hR1 _ (by omega)) trivial)) (apart_ro (apart_ro trivial)))).mono ?_
  rintro e w' ⟨v, σ', L', rfl, rfl, ⟨rfl, rfl⟩, H⟩
  have hnx : Below W.heap.size W σ'.w := H.md.below (cov_ro (cov_ro cov_nil))
  refine ⟨_, rfl, _, _, _, [], p0 ++ p1 ++ [], [], hW', ?_, ?_, by rfl, hnx.frame _, fun h => by cases h⟩
  · exact trodAll_mk1 (shut_bool Try.underlying4 true)
  · rw [List.append_assoc]; exact trodAll_mk3 (r0 _ hnx) (r1 _ hnx) (shut_int Try.underlying3 w2)

theorem fnExactIsTreeOf_holds : Rows.FnExactIsTreeOfSaid :=
  OpenClaim.holds_of_wide 5 Try.f5 rfl rfl rfl rfl rfl rfl rfl ⟨rfl, rfl, rfl, rfl, rfl⟩ rfl rfl rfl rfl rfl (by kernel_rfl) Try.func5 (by kernel_rfl)
    (of_decide_eq_true (by kernel_rfl)) (by unfold Func.isWrapper; first | (rw [if_pos (by decide +kernel)]; kernel_rfl) | (rw [if_neg (by decide +kernel)]; exact ⟨rfl, rfl⟩))
    (fun os started H enc _ => fnExactIsTreeOf_lifted os started H enc)
end Go.Proofs.Ytdjjikmfkejdiae
