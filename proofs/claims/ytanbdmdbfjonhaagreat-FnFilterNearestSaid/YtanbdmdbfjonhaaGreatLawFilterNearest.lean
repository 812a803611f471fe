/- For every string of bytes, the law FnFilterNearest of the translated program returns true: proved under no further condition. -/
import Derived.Test.YtanbdmdbfjonhaaGreatFilterNearestEng1
import Derived.Test.YtanbdmdbfjonhaaGreatKFilterNearestC5
import Derived.Test.YtanbdmdbfjonhaaGreatFilterNearestPure1
import Derived.Test.YtanbdmdbfjonhaaGreatRows
set_option linter.unusedVariables false
set_option linter.unusedSimpArgs false
namespace Go.Proofs.YtanbdmdbfjonhaaGreat
open Go.Vs Go.ChangeShapes Go.WideShapes Go.ChangeAt Go.RowKit

theorem Tryz.own : ownKnob Tryz.prog.godebug = none := by kernel_rfl
theorem Tryz.laidOut : laidOutB Tryz.prog = true := by kernel_rfl
theorem Tryz.cells5 : Tryz.prog.cellsOf 5 = 1 := by kernel_rfl

set_option maxRecDepth 100000 in
theorem fnFilterNearest_lifted (hp : ∀ code, M.laws_FnFilterNearest code = some true) (os : Os) (started : os.Started) (H : Type) (enc : TypeId × Value → H) :
    ReturnsInHanded {} Tryz.checked os 3 .any (Rows.fnFilterNearestSpec.pre6 enc Tryz.prog Tryz.f3 Rows.fnFilterNearestRow.domain false) (Rows.fnFilterNearestSpec.post enc Tryz.prog Tryz.f3 false true false false) := by
  refine returnsInHanded_of_change (C := Tryz.checked) Tryz.own started (by kernel_rfl) Tryz.func3
    (ChangeSpec.witness6 (enc := enc) (C := Tryz.checked) false ⟨#[], #[.slice none 0 0], []⟩ 8 (by kernel_rfl) (by kernel_rfl) (by kernel_rfl) (by kernel_rfl)) ?_
  intro W base args ds gs before hval0 hW _ _
  have hval : ∀ (j : Nat) t v, Tryz.f3.params[j]? = some t → args[j]? = some v → Value.okWide Tryz.prog W .any base t v := hval0
  have hW' := hW
  obtain ⟨p, q, hA0, hV, rfl, _, _⟩ := hW
  have hA : DataW.TrodAll enc Tryz.prog W 0 (fun _ => true) true Tryz.f3.params.toList args.toList ds p := hA0
  rw [Tryz.params3] at hA hval
  obtain ⟨v0, d0, rfl, rfl, h0⟩ := trodAll_one hA
  obtain ⟨rfl, rfl⟩ := trodVars_none hV
  obtain ⟨a0, len, cap, rfl⟩ := okWide_slice Tryz.underlying22 (hval 0 22 v0 rfl rfl)
  have h0k := h0
  obtain ⟨fuel, hf⟩ := h0
  clear hA0 hval0
  simp only [List.append_nil] at hW'
  have hlt : ∀ x ∈ p, x.block < W.heap.size := fun x hx => by simpa using hW'.lt x hx
  have hargs : ∀ (W' : World), Below W.heap.size W W' → DataW.Trod enc Tryz.prog W' 0 (fun b => decide (b < W.heap.size)) true 22 (.slice a0 len cap) d0 p :=
    fun W' hn => Below.trod Tryz.laidOut (by kernel_rfl) (of_decide_eq_true (by kernel_rfl)) h0k hn hlt
  have fin : ∀ (σ0 : St) (code : List UInt8), σ0.w = W → len = code.length → RS 0 σ0 (Sl a0 code cap) code → Calls Tryz.checked.prog 3 #[.slice a0 len cap] W fun e W' => ∃ v, e = Ending.returned v ∧ Rows.fnFilterNearestSpec.post enc Tryz.checked.prog Tryz.f3 false true false false W #[.slice a0 len cap] v W' := by
    intro σ0 code hw hl hR
    subst hl; subst hw
    refine ((c_laws_FnFilterNearest (Ac := a0) (Ad := cap) (hp code)).runs σ0 0 (Nat.zero_le _) (Hp.begin (all_ro hR trivial) (apart_ro trivial))).mono ?_
    rintro e w' ⟨v, σ', L', rfl, rfl, ⟨rfl, rfl⟩, H⟩
    have hnx := H.md.below (cov_ro cov_nil)
    refine ⟨_, rfl, _, _, _, [], p, [], hW', ?_, ?_, by rfl, hnx.frame _, fun h => by cases h⟩
    · exact trodAll_mk1 (shut_bool Tryz.underlying4 true)
    · exact trodAll_mk1 (hargs _ hnx)
  rcases open_ints Tryz.underlying22 Tryz.underlying5 Tryz.cells5 hf with ⟨hcs, hx⟩ | ⟨a, len', cap', zs, hcs, _, hl, hm, hz, hx, hcell, hwz⟩
  · simp [Value.cells] at hcs
    obtain ⟨rfl, rfl, rfl⟩ := hcs
    obtain ⟨σ0, hσ, hR⟩ := nil_in W none 0
    exact fin σ0 [] hσ rfl hR
  · simp [Value.cells] at hcs
    obtain ⟨rfl, rfl, rfl⟩ := hcs
    simp only [Prod.mk.injEq] at hx
    obtain ⟨rfl, rfl⟩ := hx
    simp only [if_true] at hz
    by_cases hl0 : len = 0
    · subst hl0
      obtain ⟨σ0, hσ, hR⟩ := nil_in W (some a) cap
      exact fin σ0 [] hσ rfl hR
    · obtain ⟨b, off, spot⟩ := a
      have hspot : spot = none := by simpa [Addr.add] using World.cell?_spot (hcell 0 (by omega))
      subst hspot
      have hbW : b < W.heap.size := hlt (.cell b off) (MemPlace.mem_row.2 ⟨0, by omega, by simp⟩)
      obtain ⟨σ0, hσ, hR⟩ := bytes_in (W := W) (b := b) (off := off) (len := len) (cap := cap) (zs := zs.take len) hbW hl (by simp; omega)
        (fun i hi => by
          simp only [List.length_take] at hi
          have := hcell i (by omega)
          rw [Go.Vs.add_plain] at this
          have hi' : i < len := by omega
          rw [this]; simp [List.getD, List.getElem?_take, hi']) (fun n hn => hwz n (List.mem_of_mem_take hn))
      exact fin σ0 _ hσ (by simp [bytesOf]; omega) hR

theorem fnFilterNearest_holds : Rows.FnFilterNearestSaid :=
  OpenClaim.holds_of_wide 3 Tryz.f3 rfl rfl rfl rfl rfl rfl rfl ⟨rfl, rfl, rfl, rfl, rfl⟩ rfl rfl rfl rfl rfl (by kernel_rfl) Tryz.func3 (by kernel_rfl)
    (of_decide_eq_true (by kernel_rfl)) (by unfold Func.isWrapper; first | (rw [if_pos (by decide +kernel)]; kernel_rfl) | (rw [if_neg (by decide +kernel)]; exact ⟨rfl, rfl⟩))
    (fun os started H enc _ => fnFilterNearest_lifted law_FilterNearest os started H enc)
end Go.Proofs.YtanbdmdbfjonhaaGreat
