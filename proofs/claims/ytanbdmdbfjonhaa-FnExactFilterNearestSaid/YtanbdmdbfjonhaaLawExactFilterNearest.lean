/- For every input, the law FnExactFilterNearest of the translated program returns true, and the input reads as it did: proved under no further condition. -/
import Derived.Test.YtanbdmdbfjonhaaExactFilterNearestEng1
import Derived.Test.YtanbdmdbfjonhaaKExactFilterNearestC4
import Derived.Test.YtanbdmdbfjonhaaExactFilterNearestPure1
import Derived.Test.YtanbdmdbfjonhaaRows
set_option linter.unusedVariables false
set_option linter.unusedSimpArgs false
namespace Go.Proofs.Ytanbdmdbfjonhaa
open Go.Vs Go.ChangeShapes Go.WideShapes Go.ChangeAt Go.RowKit

theorem Try.own : ownKnob Try.prog.godebug = none := by kernel_rfl
theorem Try.laidOut : laidOutB Try.prog = true := by kernel_rfl
theorem Try.cells3 : Try.prog.cellsOf 3 = 1 := by kernel_rfl
theorem Try.cells30 : Try.prog.cellsOf 30 = 1 := by kernel_rfl
theorem Try.cells50 : Try.prog.cellsOf 50 = 3 := by kernel_rfl
theorem Try.cells84 : Try.prog.cellsOf 84 = 3 := by kernel_rfl

set_option maxRecDepth 100000 in
theorem fnExactFilterNearest_lifted (os : Os) (started : os.Started) (H : Type) (enc : TypeId × Value → H) :
    ReturnsInHanded {} Try.checked os 10 .any (Rows.fnExactFilterNearestSpec.pre6 enc Try.prog Try.f10 Rows.fnExactFilterNearestRow.domain false) (Rows.fnExactFilterNearestSpec.post enc Try.prog Try.f10 false true false false) := by
  refine returnsInHanded_of_change (C := Try.checked) Try.own started (by kernel_rfl) Try.func10
    (ChangeSpec.witness6 (enc := enc) (C := Try.checked) false ⟨#[], #[.slice none 0 0, .agg #[.int .i64 0, .int .i64 0, .int .i64 0], .int .i64 0, .slice none 0 0, .int .i64 0], []⟩ 8 (by kernel_rfl) (by kernel_rfl) (by kernel_rfl) (by kernel_rfl)) ?_
  intro W base args ds gs before hval0 hW _ _
  have hval : ∀ (j : Nat) t v, Try.f10.params[j]? = some t → args[j]? = some v → Value.okWide Try.prog W .any base t v := hval0
  have hW' := hW
  obtain ⟨p, q, hA0, hV, rfl, _, _⟩ := hW
  have hA : DataW.TrodAll enc Try.prog W 0 (fun _ => true) true Try.f10.params.toList args.toList ds p := hA0
  rw [Try.params10] at hA hval
  obtain ⟨v0, v1, v2, v3, v4, d0, d1, d2, d3, d4, p0, p1, p2, p3, p4, rfl, rfl, rfl, h0, h1, h2, h3, h4⟩ := trodAll_five hA
  obtain ⟨rfl, rfl⟩ := trodVars_none hV
  simp only [List.append_nil] at hW'
  have hlt : ∀ x ∈ p0 ++ p1 ++ p2 ++ p3 ++ p4, x.block < W.heap.size := fun x hx => by simpa using hW'.lt x (by simpa using hx)
  have l0 : ∀ x ∈ p0, x.block < W.heap.size := fun x hx => hlt x (by simp [hx])
  have k0 := h0
  have hv0 := hval 0 49 _ rfl rfl
  obtain ⟨a0, xs0, c0, N0, ok0, rfl, hR0⟩ := arg_list Try.underlying49 Try.cells84 (opens_struct3 Try.underlying84 Try.cells84 rfl rfl rfl Try.cells3 Try.cells30 Try.cells3 (opens_int Try.underlying3) (opens_slice Try.underlying30 Try.cells3 (opens_int Try.underlying3)) (opens_int Try.underlying3)) hv0 h0 l0
  have r0 : ∀ (W' : World), Below W.heap.size W W' → DataW.Trod enc Try.prog W' 0 (fun b => decide (b < W.heap.size)) true 49 (Sl a0 xs0 c0) d0 p0 :=
    fun W' hn => Below.trod Try.laidOut (by kernel_rfl) (of_decide_eq_true (by kernel_rfl)) k0 hn l0
  have l1 : ∀ x ∈ p1, x.block < W.heap.size := fun x hx => hlt x (by simp [hx])
  have k1 := h1
  have hv1 := hval 1 50 _ rfl rfl
  obtain ⟨xs1, ok1, rfl⟩ := arg_rec3 Try.underlying50 (opens_struct3 Try.underlying50 Try.cells50 rfl rfl rfl Try.cells3 Try.cells3 Try.cells3 (opens_int Try.underlying3) (opens_int Try.underlying3) (opens_int Try.underlying3)) hv1 h1 l1
  have r1 : ∀ (W' : World), Below W.heap.size W W' → DataW.Trod enc Try.prog W' 0 (fun b => decide (b < W.heap.size)) true 50 (.agg #[(I xs1.1), (I xs1.2.1), (I xs1.2.2)]) d1 p1 :=
    fun W' hn => Below.trod Try.laidOut (by kernel_rfl) (of_decide_eq_true (by kernel_rfl)) k1 hn l1
  obtain ⟨n2, rfl, rfl, rfl, w2⟩ := open_int Try.underlying3 (hval 2 3 _ rfl rfl) h2
  have l3 : ∀ x ∈ p3, x.block < W.heap.size := fun x hx => hlt x (by simp [hx])
  have k3 := h3
  have hv3 := hval 3 30 _ rfl rfl
  obtain ⟨a3, xs3, c3, N3, rfl, hR3⟩ := arg_ints Try.underlying30 Try.underlying3 Try.cells3 hv3 h3 l3
  have r3 : ∀ (W' : World), Below W.heap.size W W' → DataW.Trod enc Try.prog W' 0 (fun b => decide (b < W.heap.size)) true 30 (Sl a3 xs3 c3) d3 p3 :=
    fun W' hn => Below.trod Try.laidOut (by kernel_rfl) (of_decide_eq_true (by kernel_rfl)) k3 hn l3
  obtain ⟨n4, rfl, rfl, rfl, w4⟩ := open_int Try.underlying3 (hval 4 3 _ rfl rfl) h4
  clear hA0 hval0
  refine ((c_laws_FnExactFilterNearest (aaList_0 := a0) (caList_0 := c0) (aaAt_3 := a3) (caAt_3 := c3) (law_ExactFilterNearest xs0 xs1 n2 xs3 n4 ok0 ok1)).runs (allIn W (N0 + N3)) 0 (Nat.zero_le _) (Hp.begin (all_ro (hR0 _ (by omega)) (all_ro (hR3 _ (by omega)) trivial)) (apart_ro (apart_ro trivial)))).mono ?_
  rintro e w' ⟨v, σ', L', rfl, rfl, ⟨rfl, rfl⟩, H⟩
  have hnx : Below W.heap.size W σ'.w := H.md.below (cov_ro (cov_ro cov_nil))
  refine ⟨_, rfl, _, _, _, [], p0 ++ p1 ++ [] ++ p3 ++ [], [], hW', ?_, ?_, by rfl, hnx.frame _, fun h => by cases h⟩
  · exact trodAll_mk1 (shut_bool Try.underlying4 true)
  · rw [List.append_assoc, List.append_assoc, List.append_assoc]; exact trodAll_mk5 (r0 _ hnx) (r1 _ hnx) (shut_int Try.underlying3 w2) (r3 _ hnx) (shut_int Try.underlying3 w4)

theorem fnExactFilterNearest_holds : Rows.FnExactFilterNearestSaid :=
  OpenClaim.holds_of_wide 10 Try.f10 rfl rfl rfl rfl rfl rfl rfl ⟨rfl, rfl, rfl, rfl, rfl⟩ rfl rfl rfl rfl rfl (by kernel_rfl) Try.func10 (by kernel_rfl)
    (of_decide_eq_true (by kernel_rfl)) (by unfold Func.isWrapper; first | (rw [if_pos (by decide +kernel)]; kernel_rfl) | (rw [if_neg (by decide +kernel)]; exact ⟨rfl, rfl⟩))
    (fun os started H enc _ => fnExactFilterNearest_lifted os started H enc)
end Go.Proofs.Ytanbdmdbfjonhaa
