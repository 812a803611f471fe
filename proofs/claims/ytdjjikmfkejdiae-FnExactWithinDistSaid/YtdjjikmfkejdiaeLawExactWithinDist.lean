/- For every input, the law FnExactWithinDist of the translated program returns true, and the input reads as it did: proved under no further condition. -/
import Derived.Test.YtdjjikmfkejdiaeExactWithinDistEng1
import Derived.Test.YtdjjikmfkejdiaeKExactWithinDistC4
import Derived.Test.YtdjjikmfkejdiaeExactWithinDistPure1
import Derived.Test.YtdjjikmfkejdiaeRows
set_option linter.unusedVariables false
set_option linter.unusedSimpArgs false
namespace Go.Proofs.Ytdjjikmfkejdiae
open Go.Vs Go.ChangeShapes Go.WideShapes Go.ChangeAt Go.RowKit

theorem Try.own : ownKnob Try.prog.godebug = none := by kernel_rfl
theorem Try.laidOut : laidOutB Try.prog = true := by kernel_rfl
theorem Try.cells3 : Try.prog.cellsOf 3 = 1 := by kernel_rfl
theorem Try.cells23 : Try.prog.cellsOf 23 = 1 := by kernel_rfl
theorem Try.cells59 : Try.prog.cellsOf 59 = 3 := by kernel_rfl

set_option maxRecDepth 100000 in
theorem fnExactWithinDist_lifted (os : Os) (started : os.Started) (H : Type) (enc : TypeId × Value → H) :
    ReturnsInHanded {} Try.checked os 3 .any (Rows.fnExactWithinDistSpec.pre6 enc Try.prog Try.f3 Rows.fnExactWithinDistRow.domain false) (Rows.fnExactWithinDistSpec.post enc Try.prog Try.f3 false true false false) := by
  refine returnsInHanded_of_change (C := Try.checked) Try.own started (by kernel_rfl) Try.func3
    (ChangeSpec.witness6 (enc := enc) (C := Try.checked) false ⟨#[], #[.slice none 0 0, .int .i64 0, .slice none 0 0, .int .i64 0], []⟩ 8 (by kernel_rfl) (by kernel_rfl) (by kernel_rfl) (by kernel_rfl)) ?_
  intro W base args ds gs before hval0 hW _ _
  have hval : ∀ (j : Nat) t v, Try.f3.params[j]? = some t → args[j]? = some v → Value.okWide Try.prog W .any base t v := hval0
  have hW' := hW
  obtain ⟨p, q, hA0, hV, rfl, _, _⟩ := hW
  have hA : DataW.TrodAll enc Try.prog W 0 (fun _ => true) true Try.f3.params.toList args.toList ds p := hA0
  rw [Try.params3] at hA hval
  obtain ⟨v0, v1, v2, v3, d0, d1, d2, d3, p0, p1, p2, p3, rfl, rfl, rfl, h0, h1, h2, h3⟩ := trodAll_four hA
  obtain ⟨rfl, rfl⟩ := trodVars_none hV
  simp only [List.append_nil] at hW'
  have hlt : ∀ x ∈ p0 ++ p1 ++ p2 ++ p3, x.block < W.heap.size := fun x hx => by simpa using hW'.lt x (by simpa using hx)
  have l0 : ∀ x ∈ p0, x.block < W.heap.size := fun x hx => hlt x (by simp [hx])
  have k0 := h0
  have hv0 := hval 0 22 _ rfl rfl
  obtain ⟨a0, xs0, c0, N0, ok0, rfl, hR0⟩ := arg_list Try.underlying22 Try.cells59 (opens_struct3 Try.underlying59 Try.cells59 rfl rfl rfl Try.cells3 Try.cells23 Try.cells3 (opens_int Try.underlying3) (opens_slice Try.underlying23 Try.cells3 (opens_int Try.underlying3)) (opens_int Try.underlying3)) hv0 h0 l0
  have r0 : ∀ (W' : World), Below W.heap.size W W' → DataW.Trod enc Try.prog W' 0 (fun b => decide (b < W.heap.size)) true 22 (Sl a0 xs0 c0) d0 p0 :=
    fun W' hn => Below.trod Try.laidOut (by kernel_rfl) (of_decide_eq_true (by kernel_rfl)) k0 hn l0
  obtain ⟨n1, rfl, rfl, rfl, w1⟩ := open_int Try.underlying3 (hval 1 3 _ rfl rfl) h1
  have l2 : ∀ x ∈ p2, x.block < W.heap.size := fun x hx => hlt x (by simp [hx])
  have k2 := h2
  have hv2 := hval 2 23 _ rfl rfl
  obtain ⟨a2, xs2, c2, N2, rfl, hR2⟩ := arg_ints Try.underlying23 Try.underlying3 Try.cells3 hv2 h2 l2
  have r2 : ∀ (W' : World), Below W.heap.size W W' → DataW.Trod enc Try.prog W' 0 (fun b => decide (b < W.heap.size)) true 23 (Sl a2 xs2 c2) d2 p2 :=
    fun W' hn => Below.trod Try.laidOut (by kernel_rfl) (of_decide_eq_true (by kernel_rfl)) k2 hn l2
  obtain ⟨n3, rfl, rfl, rfl, w3⟩ := open_int Try.underlying3 (hval 3 3 _ rfl rfl) h3
  clear hA0 hval0
  refine ((c_laws_FnExactWithinDist (aaList_0 := a0) (caList_0 := c0) (aaAt_2 := a2) (caAt_2 := c2) (law_ExactWithinDist xs0 n1 xs2 n3 ok0)).runs (allIn W (N0 + N2)) 0 (Nat.zero_le _) (Hp.begin (all_ro (hR0 _ (by omega)) (all_ro (hR2 _ (by omega)) trivial)) (apart_ro (apart_ro trivial)))).mono ?_
  rintro e w' ⟨v, σ', L', rfl, rfl, ⟨rfl, rfl⟩, H⟩
  have hnx : Below W.heap.size W σ'.w := H.md.below (cov_ro (cov_ro cov_nil))
  refine ⟨_, rfl, _, _, _, [], p0 ++ [] ++ p2 ++ [], [], hW', ?_, ?_, by rfl, hnx.frame _, fun h => by cases h⟩
  · exact trodAll_mk1 (shut_bool Try.underlying4 true)
  · rw [List.append_assoc, List.append_assoc]; exact trodAll_mk4 (r0 _ hnx) (shut_int Try.underlying3 w1) (r2 _ hnx) (shut_int Try.underlying3 w3)

theorem fnExactWithinDist_holds : Rows.FnExactWithinDistSaid :=
  OpenClaim.holds_of_wide 3 Try.f3 rfl rfl rfl rfl rfl rfl rfl ⟨rfl, rfl, rfl, rfl, rfl⟩ rfl rfl rfl rfl rfl (by kernel_rfl) Try.func3 (by kernel_rfl)
    (of_decide_eq_true (by kernel_rfl)) (by unfold Func.isWrapper; first | (rw [if_pos (by decide +kernel)]; kernel_rfl) | (rw [if_neg (by decide +kernel)]; exact ⟨rfl, rfl⟩))
    (fun os started H enc _ => fnExactWithinDist_lifted os started H enc)
end Go.Proofs.Ytdjjikmfkejdiae
