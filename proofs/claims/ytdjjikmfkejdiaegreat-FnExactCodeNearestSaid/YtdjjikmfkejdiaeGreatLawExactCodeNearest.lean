/- For every input, the law FnExactCodeNearest of the translated program returns true, and the input reads as it did: proved under no further condition. -/
import Derived.Test.YtdjjikmfkejdiaeGreatExactCodeNearestEng1
import Derived.Test.YtdjjikmfkejdiaeGreatKExactCodeNearestC5
import Derived.Test.YtdjjikmfkejdiaeGreatExactCodeNearestPure1
import Derived.Test.YtdjjikmfkejdiaeGreatRows
set_option linter.unusedVariables false
set_option linter.unusedSimpArgs false
namespace Go.Proofs.YtdjjikmfkejdiaeGreat
open Go.Vs Go.ChangeShapes Go.WideShapes Go.ChangeAt Go.RowKit

theorem Tryz.own : ownKnob Tryz.prog.godebug = none := by kernel_rfl
theorem Tryz.laidOut : laidOutB Tryz.prog = true := by kernel_rfl
theorem Tryz.cells3 : Tryz.prog.cellsOf 3 = 1 := by kernel_rfl
theorem Tryz.cells22 : Tryz.prog.cellsOf 22 = 1 := by kernel_rfl
theorem Tryz.cells24 : Tryz.prog.cellsOf 24 = 2 := by kernel_rfl
theorem Tryz.cells26 : Tryz.prog.cellsOf 26 = 1 := by kernel_rfl
theorem Tryz.cells57 : Tryz.prog.cellsOf 57 = 3 := by kernel_rfl

set_option maxRecDepth 100000 in
theorem fnExactCodeNearest_lifted (os : Os) (started : os.Started) (H : Type) (enc : TypeId × Value → H) :
    ReturnsInHanded {} Tryz.checked os 3 .any (Rows.fnExactCodeNearestSpec.pre6 enc Tryz.prog Tryz.f3 Rows.fnExactCodeNearestRow.domain false) (Rows.fnExactCodeNearestSpec.post enc Tryz.prog Tryz.f3 false true false false) := by
  refine returnsInHanded_of_change (C := Tryz.checked) Tryz.own started (by kernel_rfl) Tryz.func3
    (ChangeSpec.witness6 (enc := enc) (C := Tryz.checked) false ⟨#[], #[.agg #[.slice none 0 0, .slice none 0 0], .slice none 0 0, .slice none 0 0, .int .i64 0], []⟩ 8 (by kernel_rfl) (by kernel_rfl) (by kernel_rfl) (by kernel_rfl)) ?_
  intro W base args ds gs before hval0 hW _ _
  have hval : ∀ (j : Nat) t v, Tryz.f3.params[j]? = some t → args[j]? = some v → Value.okWide Tryz.prog W .any base t v := hval0
  have hW' := hW
  obtain ⟨p, q, hA0, hV, rfl, _, _⟩ := hW
  have hA : DataW.TrodAll enc Tryz.prog W 0 (fun _ => true) true Tryz.f3.params.toList args.toList ds p := hA0
  rw [Tryz.params3] at hA hval
  obtain ⟨v0, v1, v2, v3, d0, d1, d2, d3, p0, p1, p2, p3, rfl, rfl, rfl, h0, h1, h2, h3⟩ := trodAll_four hA
  obtain ⟨rfl, rfl⟩ := trodVars_none hV
  simp only [List.append_nil] at hW'
  have hlt : ∀ x ∈ p0 ++ p1 ++ p2 ++ p3, x.block < W.heap.size := fun x hx => by simpa using hW'.lt x (by simpa using hx)
  have l0 : ∀ x ∈ p0, x.block < W.heap.size := fun x hx => hlt x (by simp [hx])
  have k0 := h0
  have hv0 := hval 0 24 _ rfl rfl
  obtain ⟨xs0, a0, c0, b0, e0, N0, ok0, rfl, hR0, hQ0⟩ := arg_pair Tryz.underlying24 (opens_struct2 Tryz.underlying24 Tryz.cells24 rfl rfl Tryz.cells22 Tryz.cells22 (opens_slice Tryz.underlying22 Tryz.cells26 (opens_slice Tryz.underlying26 Tryz.cells3 (opens_int Tryz.underlying3))) (opens_slice Tryz.underlying22 Tryz.cells26 (opens_slice Tryz.underlying26 Tryz.cells3 (opens_int Tryz.underlying3)))) hv0 h0 l0
  have r0 : ∀ (W' : World), Below W.heap.size W W' → DataW.Trod enc Tryz.prog W' 0 (fun b => decide (b < W.heap.size)) true 24 (.agg #[(Sl a0 xs0.1 c0), (Sl b0 xs0.2 e0)]) d0 p0 :=
    fun W' hn => Below.trod Tryz.laidOut (by kernel_rfl) (of_decide_eq_true (by kernel_rfl)) k0 hn l0
  have l1 : ∀ x ∈ p1, x.block < W.heap.size := fun x hx => hlt x (by simp [hx])
  have k1 := h1
  have hv1 := hval 1 25 _ rfl rfl
  obtain ⟨a1, xs1, c1, N1, ok1, rfl, hR1⟩ := arg_list Tryz.underlying25 Tryz.cells57 (opens_struct3 Tryz.underlying57 Tryz.cells57 rfl rfl rfl Tryz.cells3 Tryz.cells26 Tryz.cells3 (opens_int Tryz.underlying3) (opens_slice Tryz.underlying26 Tryz.cells3 (opens_int Tryz.underlying3)) (opens_int Tryz.underlying3)) hv1 h1 l1
  have r1 : ∀ (W' : World), Below W.heap.size W W' → DataW.Trod enc Tryz.prog W' 0 (fun b => decide (b < W.heap.size)) true 25 (Sl a1 xs1 c1) d1 p1 :=
    fun W' hn => Below.trod Tryz.laidOut (by kernel_rfl) (of_decide_eq_true (by kernel_rfl)) k1 hn l1
  have l2 : ∀ x ∈ p2, x.block < W.heap.size := fun x hx => hlt x (by simp [hx])
  have k2 := h2
  have hv2 := hval 2 26 _ rfl rfl
  obtain ⟨a2, xs2, c2, N2, rfl, hR2⟩ := arg_ints Tryz.underlying26 Tryz.underlying3 Tryz.cells3 hv2 h2 l2
  have r2 : ∀ (W' : World), Below W.heap.size W W' → DataW.Trod enc Tryz.prog W' 0 (fun b => decide (b < W.heap.size)) true 26 (Sl a2 xs2 c2) d2 p2 :=
    fun W' hn => Below.trod Tryz.laidOut (by kernel_rfl) (of_decide_eq_true (by kernel_rfl)) k2 hn l2
  obtain ⟨n3, rfl, rfl, rfl, w3⟩ := open_int Tryz.underlying3 (hval 3 3 _ rfl rfl) h3
  clear hA0 hval0
  refine ((c_laws_FnExactCodeNearest (Ha := a0) (Hc := c0) (Hd := b0) (He := e0) (Hf := a1) (Hg := c1) (Hi := a2) (Hj := c2) (law_ExactCodeNearest xs0 xs1 xs2 n3 ok0 ok1)).runs (allIn W (N0 + N1 + N2)) 0 (Nat.zero_le _) (Hp.begin (all_ro (hR0 _ (by omega)) (all_ro (hQ0 _ (by omega)) (all_ro (hR1 _ (by omega)) (all_ro (hR2 _ (by omega)) trivial)))) (apart_ro (apart_ro (apart_ro (apart_ro trivial)))))).mono ?_
  rintro e w' ⟨v, σ', L', rfl, rfl, ⟨rfl, rfl⟩, H⟩
  have hnx : Below W.heap.size W σ'.w := H.md.below (cov_ro (cov_ro (cov_ro (cov_ro cov_nil))))
  refine ⟨_, rfl, _, _, _, [], p0 ++ p1 ++ p2 ++ [], [], hW', ?_, ?_, by rfl, hnx.frame _, fun h => by cases h⟩
  · exact trodAll_mk1 (shut_bool Tryz.underlying4 true)
  · rw [List.append_assoc, List.append_assoc]; exact trodAll_mk4 (r0 _ hnx) (r1 _ hnx) (r2 _ hnx) (shut_int Tryz.underlying3 w3)

theorem fnExactCodeNearest_holds : Rows.FnExactCodeNearestSaid :=
  OpenClaim.holds_of_wide 3 Tryz.f3 rfl rfl rfl rfl rfl rfl rfl ⟨rfl, rfl, rfl, rfl, rfl⟩ rfl rfl rfl rfl rfl (by kernel_rfl) Tryz.func3 (by kernel_rfl)
    (of_decide_eq_true (by kernel_rfl)) (by unfold Func.isWrapper; first | (rw [if_pos (by decide +kernel)]; kernel_rfl) | (rw [if_neg (by decide +kernel)]; exact ⟨rfl, rfl⟩))
    (fun os started H enc _ => fnExactCodeNearest_lifted os started H enc)
end Go.Proofs.YtdjjikmfkejdiaeGreat
