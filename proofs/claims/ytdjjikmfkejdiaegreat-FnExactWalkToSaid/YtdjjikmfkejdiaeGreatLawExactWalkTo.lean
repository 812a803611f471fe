/- For every input, the law FnExactWalkTo of the translated program returns true, and the input reads as it did: proved under no further condition. -/
import Derived.Test.YtdjjikmfkejdiaeGreatExactWalkToEng1
import Derived.Test.YtdjjikmfkejdiaeGreatKExactWalkToC4
import Derived.Test.YtdjjikmfkejdiaeGreatExactWalkToPure1
import Derived.Test.YtdjjikmfkejdiaeGreatRows
set_option linter.unusedVariables false
set_option linter.unusedSimpArgs false
namespace Go.Proofs.YtdjjikmfkejdiaeGreat
open Go.Vs Go.ChangeShapes Go.WideShapes Go.ChangeAt Go.RowKit

theorem Tryz.own : ownKnob Tryz.prog.godebug = none := by kernel_rfl
theorem Tryz.laidOut : laidOutB Tryz.prog = true := by kernel_rfl
theorem Tryz.cells3 : Tryz.prog.cellsOf 3 = 1 := by kernel_rfl
theorem Tryz.cells26 : Tryz.prog.cellsOf 26 = 1 := by kernel_rfl
theorem Tryz.cells57 : Tryz.prog.cellsOf 57 = 3 := by kernel_rfl

set_option maxRecDepth 100000 in
theorem fnExactWalkTo_lifted (os : Os) (started : os.Started) (H : Type) (enc : TypeId × Value → H) :
    ReturnsInHanded {} Tryz.checked os 6 .any (Rows.fnExactWalkToSpec.pre6 enc Tryz.prog Tryz.f6 Rows.fnExactWalkToRow.domain false) (Rows.fnExactWalkToSpec.post enc Tryz.prog Tryz.f6 false true false false) := by
  refine returnsInHanded_of_change (C := Tryz.checked) Tryz.own started (by kernel_rfl) Tryz.func6
    (ChangeSpec.witness6 (enc := enc) (C := Tryz.checked) false ⟨#[], #[.slice none 0 0, .int .i64 0, .int .i64 0, .int .i64 0, .slice none 0 0], []⟩ 8 (by kernel_rfl) (by kernel_rfl) (by kernel_rfl) (by kernel_rfl)) ?_
  intro W base args ds gs before hval0 hW _ _
  have hval : ∀ (j : Nat) t v, Tryz.f6.params[j]? = some t → args[j]? = some v → Value.okWide Tryz.prog W .any base t v := hval0
  have hW' := hW
  obtain ⟨p, q, hA0, hV, rfl, _, _⟩ := hW
  have hA : DataW.TrodAll enc Tryz.prog W 0 (fun _ => true) true Tryz.f6.params.toList args.toList ds p := hA0
  rw [Tryz.params6] at hA hval
  obtain ⟨v0, v1, v2, v3, v4, d0, d1, d2, d3, d4, p0, p1, p2, p3, p4, rfl, rfl, rfl, h0, h1, h2, h3, h4⟩ := trodAll_five hA
  obtain ⟨rfl, rfl⟩ := trodVars_none hV
  simp only [List.append_nil] at hW'
  have hlt : ∀ x ∈ p0 ++ p1 ++ p2 ++ p3 ++ p4, x.block < W.heap.size := fun x hx => by simpa using hW'.lt x (by simpa using hx)
  have l0 : ∀ x ∈ p0, x.block < W.heap.size := fun x hx => hlt x (by simp [hx])
  have k0 := h0
  have hv0 := hval 0 25 _ rfl rfl
  obtain ⟨a0, xs0, c0, N0, ok0, rfl, hR0⟩ := arg_list Tryz.underlying25 Tryz.cells57 (opens_struct3 Tryz.underlying57 Tryz.cells57 rfl rfl rfl Tryz.cells3 Tryz.cells26 Tryz.cells3 (opens_int Tryz.underlying3) (opens_slice Tryz.underlying26 Tryz.cells3 (opens_int Tryz.underlying3)) (opens_int Tryz.underlying3)) hv0 h0 l0
  have r0 : ∀ (W' : World), Below W.heap.size W W' → DataW.Trod enc Tryz.prog W' 0 (fun b => decide (b < W.heap.size)) true 25 (Sl a0 xs0 c0) d0 p0 :=
    fun W' hn => Below.trod Tryz.laidOut (by kernel_rfl) (of_decide_eq_true (by kernel_rfl)) k0 hn l0
  obtain ⟨n1, rfl, rfl, rfl, w1⟩ := open_int Tryz.underlying3 (hval 1 3 _ rfl rfl) h1
  obtain ⟨n2, rfl, rfl, rfl, w2⟩ := open_int Tryz.underlying3 (hval 2 3 _ rfl rfl) h2
  obtain ⟨n3, rfl, rfl, rfl, w3⟩ := open_int Tryz.underlying3 (hval 3 3 _ rfl rfl) h3
  have l4 : ∀ x ∈ p4, x.block < W.heap.size := fun x hx => hlt x (by simp [hx])
  have k4 := h4
  have hv4 := hval 4 26 _ rfl rfl
  obtain ⟨a4, xs4, c4, N4, rfl, hR4⟩ := arg_ints Tryz.underlying26 Tryz.underlying3 Tryz.cells3 hv4 h4 l4
  have r4 : ∀ (W' : World), Below W.heap.size W W' → DataW.Trod enc Tryz.prog W' 0 (fun b => decide (b < W.heap.size)) true 26 (Sl a4 xs4 c4) d4 p4 :=
    fun W' hn => Below.trod Tryz.laidOut (by kernel_rfl) (of_decide_eq_true (by kernel_rfl)) k4 hn l4
  clear hA0 hval0
  refine ((c_laws_FnExactWalkTo (Hg := a0) (Hi := c0) (Hj := a4) (Hk := c4) (law_ExactWalkTo xs0 n1 n2 n3 xs4 ok0)).runs (allIn W (N0 + N4)) 0 (Nat.zero_le _) (Hp.begin (all_ro (hR0 _ (by omega)) (all_ro (hR4 _ (by omega)) trivial)) (apart_ro (apart_ro trivial)))).mono ?_
  rintro e w' ⟨v, σ', L', rfl, rfl, ⟨rfl, rfl⟩, H⟩
  have hnx : Below W.heap.size W σ'.w := H.md.below (cov_ro (cov_ro cov_nil))
  refine ⟨_, rfl, _, _, _, [], p0 ++ [] ++ [] ++ [] ++ p4, [], hW', ?_, ?_, by rfl, hnx.frame _, fun h => by cases h⟩
  · exact trodAll_mk1 (shut_bool Tryz.underlying4 true)
  · rw [List.append_assoc, List.append_assoc, List.append_assoc]; exact trodAll_mk5 (r0 _ hnx) (shut_int Tryz.underlying3 w1) (shut_int Tryz.underlying3 w2) (shut_int Tryz.underlying3 w3) (r4 _ hnx)

theorem fnExactWalkTo_holds : Rows.FnExactWalkToSaid :=
  OpenClaim.holds_of_wide 6 Tryz.f6 rfl rfl rfl rfl rfl rfl rfl ⟨rfl, rfl, rfl, rfl, rfl⟩ rfl rfl rfl rfl rfl (by kernel_rfl) Tryz.func6 (by kernel_rfl)
    (of_decide_eq_true (by kernel_rfl)) (by unfold Func.isWrapper; first | (rw [if_pos (by decide +kernel)]; kernel_rfl) | (rw [if_neg (by decide +kernel)]; exact ⟨rfl, rfl⟩))
    (fun os started H enc _ => fnExactWalkTo_lifted os started H enc)
end Go.Proofs.YtdjjikmfkejdiaeGreat
