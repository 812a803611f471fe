/- For every string of bytes, the law FnExactParsePage of the translated program returns true, its package-level errors being tied to the program's text: proved under no further condition. -/
import Derived.Test.YtnkflplbeagljacDoorExactParsePageEng1
import Derived.Test.YtnkflplbeagljacDoorKExactParsePageC3
import Derived.Test.YtnkflplbeagljacDoorExactParsePagePure1
import Derived.LaidMore
import Derived.MakeChecks
import Derived.SevenTiedAt
import Derived.Test.YtnkflplbeagljacDoorRows
import Derived.Test.YtnkflplbeagljacDoorCards
import Derived.Test.YtnkflplbeagljacDoorTie
set_option linter.unusedVariables false
set_option linter.unusedSimpArgs false
namespace Go.Proofs.YtnkflplbeagljacDoor
open Go.Vs Go.ChangeShapes Go.WideShapes Go.ChangeAt Go.RowKit

theorem Tryd.own : ownKnob Tryd.prog.godebug = none := by kernel_rfl
theorem Tryd.laidOut : laidOutB Tryd.prog = true := by kernel_rfl
theorem Tryd.cells5 : Tryd.prog.cellsOf 5 = 1 := by kernel_rfl
theorem Tryd.cells89 : Tryd.prog.cellsOf 89 = 1 := by kernel_rfl
theorem Tryd.cells9 : Tryd.prog.cellsOf 9 = 1 := by kernel_rfl
theorem Tryd.star : "*" ++ "errors.errorString" = "*errors.errorString" := by decide
theorem Tryd.rowE (u : TypeId) (h : Tryd.prog.typeName? 3 u = some "*errors.errorString") : u = 72 :=
  typeName_ptr_named (nm := "errors.errorString") (by rw [Tryd.star]; kernel_rfl) (by kernel_rfl) (by decide) u (by rw [Tryd.star]; exact h)
theorem Tryd.g_errLongPage : Tryd.prog.globalNamed "loop.example/vectorstore/impl.errLongPage" = some 1 := by kernel_rfl
theorem Tryd.t_errLongPage : (Tryd.prog.globals[1]?).map (·.type) = some 44 := by kernel_rfl
theorem Tryd.g_errShortPage : Tryd.prog.globalNamed "loop.example/vectorstore/impl.errShortPage" = some 2 := by kernel_rfl
theorem Tryd.t_errShortPage : (Tryd.prog.globals[2]?).map (·.type) = some 44 := by kernel_rfl
theorem Tryd.g_errWrongCheck : Tryd.prog.globalNamed "loop.example/vectorstore/impl.errWrongCheck" = some 0 := by kernel_rfl
theorem Tryd.t_errWrongCheck : (Tryd.prog.globals[0]?).map (·.type) = some 44 := by kernel_rfl
theorem vars_read {H : Type} (enc : TypeId × Value → H) {W : World} {a_errShortPage a_errWrongCheck a_errLongPage : Addr} (h_errShortPage : W.var? Tryd.prog "loop.example/vectorstore/impl.errShortPage" = some #[(.iface 72 (.pointer (some a_errShortPage)))]) (h_errWrongCheck : W.var? Tryd.prog "loop.example/vectorstore/impl.errWrongCheck" = some #[(.iface 72 (.pointer (some a_errWrongCheck)))]) (h_errLongPage : W.var? Tryd.prog "loop.example/vectorstore/impl.errLongPage" = some #[(.iface 72 (.pointer (some a_errLongPage)))]) (sp : Nat → Bool) :
    DataW.TrodVars enc Tryd.prog W sp ["loop.example/vectorstore/impl.errShortPage", "loop.example/vectorstore/impl.errWrongCheck", "loop.example/vectorstore/impl.errLongPage"] [tok enc (.iface 72 (.pointer (some a_errShortPage))), tok enc (.iface 72 (.pointer (some a_errWrongCheck))), tok enc (.iface 72 (.pointer (some a_errLongPage)))] [.cell 2 0, .cell 0 0, .cell 1 0] :=
  ⟨2, 44, #[(.iface 72 (.pointer (some a_errShortPage)))], 1, [], [.cell 0 0, .cell 1 0], Tryd.g_errShortPage, Tryd.t_errShortPage, h_errShortPage, trod_held (v := (.iface 72 (.pointer (some a_errShortPage)))) Tryd.underlying44 trivial 0, ⟨0, 44, #[(.iface 72 (.pointer (some a_errWrongCheck)))], 1, [], [.cell 1 0], Tryd.g_errWrongCheck, Tryd.t_errWrongCheck, h_errWrongCheck, trod_held (v := (.iface 72 (.pointer (some a_errWrongCheck)))) Tryd.underlying44 trivial 0, ⟨1, 44, #[(.iface 72 (.pointer (some a_errLongPage)))], 1, [], [], Tryd.g_errLongPage, Tryd.t_errLongPage, h_errLongPage, trod_held (v := (.iface 72 (.pointer (some a_errLongPage)))) Tryd.underlying44 trivial 0, rfl, rfl⟩, rfl⟩, rfl⟩

theorem door_met (os : Os) (args : Array Value) : laidMetH Tryd.prog Rows.fnExactParsePageRow.laid ((World.doorLaid Tryd.prog 66 os).forCall (fun _ _ => 0) ⟨#[], args, []⟩).memory :=
  laidMetH_of_parts3 (fuel := 8) (laidMet_of_run' 8 (by kernel_rfl) (by kernel_rfl)) (by kernel_rfl) (by kernel_rfl)

set_option maxRecDepth 100000 in
theorem fnExactParsePage_lifted (os : Os) (started : os.Started) (H : Type) (enc : TypeId × Value → H) :
    ReturnsInHanded {} Tryd.checked os 5 .any (fun w args => (Rows.fnExactParsePageSpec.pre enc Tryd.prog Tryd.f5 [] false w args ∧ laidMetH Tryd.prog Rows.fnExactParsePageRow.laid w) ∧ sizedMet enc Tryd.prog Tryd.f5 (OpenSpec.ofChange Rows.fnExactParsePageSpec) false w args)
      (Rows.fnExactParsePageSpec.post enc Tryd.prog Tryd.f5 false true false false) := by
  refine returnsInHanded_of_change_and (C := Tryd.checked) (X := (fun w _ => laidMetH Tryd.prog Rows.fnExactParsePageRow.laid w)) (fun _ _ _ hh h => h.of_heap hh) Tryd.own started (by kernel_rfl) Tryd.func5
    (ChangeSpec.witness_shaped (enc := enc) (C := Tryd.checked) (os := os) (X := (fun w _ => laidMetH Tryd.prog Rows.fnExactParsePageRow.laid w)) false (World.doorLaid Tryd.prog 66 os) #[.slice none 0 0] 8 rfl (World.shaped_of_RefB (by kernel_rfl) (by kernel_rfl)) (by kernel_rfl) (by kernel_rfl) (by kernel_rfl) (door_met os _)) ?_
  intro W base args ds gs before hval0 hW _ _ hL0 _
  have hL : laidMetH Tryd.prog Rows.fnExactParsePageRow.laid W := hL0
  rw [MakeChecks.laidMetH_plain _ _ _ (by kernel_rfl)] at hL
  have hval : ∀ (j : Nat) t v, Tryd.f5.params[j]? = some t → args[j]? = some v → Value.okWide Tryd.prog W .any base t v := hval0
  have hW' := hW
  obtain ⟨p, q, hA0, hV0, rfl, _, _⟩ := hW
  have hA : DataW.TrodAll enc Tryd.prog W 0 (fun _ => true) true Tryd.f5.params.toList args.toList ds p := hA0
  have hV : DataW.TrodVars enc Tryd.prog W (fun _ => true) ["loop.example/vectorstore/impl.errShortPage", "loop.example/vectorstore/impl.errWrongCheck", "loop.example/vectorstore/impl.errLongPage"] gs q := hV0
  rw [Tryd.params5] at hA hval
  obtain ⟨v0, d0, rfl, rfl, h0⟩ := trodAll_one hA
  obtain ⟨a_errShortPage, s_0, h_errShortPage, _, _, _⟩ := laid_sentinel hL Tryd.g_errShortPage Tryd.t_errShortPage Tryd.underlying44 Tryd.rowE Tryd.underlying72 Tryd.underlying89 rfl rfl Tryd.underlying9 Tryd.cells89 Tryd.cells9
  obtain ⟨a_errWrongCheck, s_1, h_errWrongCheck, _, _, _⟩ := laid_sentinel hL.tail Tryd.g_errWrongCheck Tryd.t_errWrongCheck Tryd.underlying44 Tryd.rowE Tryd.underlying72 Tryd.underlying89 rfl rfl Tryd.underlying9 Tryd.cells89 Tryd.cells9
  obtain ⟨a_errLongPage, s_2, h_errLongPage, _, _, _⟩ := laid_sentinel hL.tail.tail Tryd.g_errLongPage Tryd.t_errLongPage Tryd.underlying44 Tryd.rowE Tryd.underlying72 Tryd.underlying89 rfl rfl Tryd.underlying9 Tryd.cells89 Tryd.cells9
  obtain ⟨rfl, rfl⟩ := hV.unique (vars_read enc h_errShortPage h_errWrongCheck h_errLongPage _)
  have hg : ∀ j i : Nat, ([1, 2, 0] : List Nat)[j]? = some i → W.cell? ⟨i, 0, none⟩ = some (er 72 (fun j => [a_errLongPage, a_errShortPage, a_errWrongCheck].getD j a_errLongPage) ((j : Int) + 1)) := by
    intro j i hj
    match j, hj with
    | 0, hj =>
      obtain rfl : 1 = i := by simpa using hj
      exact (World.var?_cell Tryd.g_errLongPage h_errLongPage 0).trans rfl
    | 1, hj =>
      obtain rfl : 2 = i := by simpa using hj
      exact (World.var?_cell Tryd.g_errShortPage h_errShortPage 0).trans rfl
    | 2, hj =>
      obtain rfl : 0 = i := by simpa using hj
      exact (World.var?_cell Tryd.g_errWrongCheck h_errWrongCheck 0).trans rfl
    | j + 3, hj =>
      simp at hj
  have hlt : ∀ x ∈ p, x.block < W.heap.size := fun x hx => hW'.lt x (List.mem_append_left _ hx)
  have k0 := h0
  obtain ⟨a0, xs0, c0, N0, ok0, rfl, hR0⟩ := arg_list Tryd.underlying22 Tryd.cells5 (opens_byte Tryd.underlying5) (hval 0 22 _ rfl rfl) h0 hlt
  have r0 : ∀ (W' : World), Below W.heap.size W W' → DataW.Trod enc Tryd.prog W' 0 (fun b => decide (b < W.heap.size)) true 22 (Sl a0 xs0 c0) d0 p :=
    fun W' hn => Below.trod Tryd.laidOut (by kernel_rfl) (of_decide_eq_true (by kernel_rfl)) k0 hn hlt
  clear hA0 hV0 hval0
  refine ((c_laws_FnExactParsePage (aaB_0 := a0) (caB_0 := c0) (ga := (fun j => [a_errLongPage, a_errShortPage, a_errWrongCheck].getD j a_errLongPage)) (law_ExactParsePage xs0 ok0)).runs (allIn W (N0 + 1)) 0 (Nat.zero_le _) (Hp.begin (all_ro (hR0 _ (by omega)) (all_gl (allIn_gl (by omega) hg) trivial)) (apart_ro (apart_gl trivial)))).mono ?_
  rintro e w' ⟨v, σ', L', rfl, rfl, ⟨rfl, rfl⟩, H⟩
  have hnx : Below W.heap.size W σ'.w := H.md.below (cov_ro (cov_gl cov_nil))
  refine ⟨_, rfl, _, _, _, [], p, [.cell 2 0, .cell 0 0, .cell 1 0], hW', ?_, ?_, ?_, hnx.frame _, fun h => by cases h⟩
  · exact trodAll_mk1 (shut_bool Tryd.underlying4 true)
  · exact trodAll_mk1 (r0 _ hnx)
  · exact vars_read enc (var_below hnx h_errShortPage) (var_below hnx h_errWrongCheck) (var_below hnx h_errLongPage) _

theorem fnExactParsePage_holds : Rows.FnExactParsePageSaid :=
  OpenClaim.holds_of_wide 5 Tryd.f5 rfl rfl rfl rfl rfl rfl rfl ⟨rfl, rfl, rfl, rfl, rfl⟩ rfl rfl rfl rfl rfl (by kernel_rfl) Tryd.func5 (by kernel_rfl)
    (of_decide_eq_true (by kernel_rfl)) (by unfold Func.isWrapper; first | (rw [if_pos (by decide +kernel)]; kernel_rfl) | (rw [if_neg (by decide +kernel)]; exact ⟨rfl, rfl⟩))
    (fun os started H enc _ => fnExactParsePage_lifted os started H enc)

/-- The tied card. -/
theorem fnExactParsePage_card : Rows.FnExactParsePageCardSaid :=
  Claim7.holds_tied_plain_at .later [] [.sentinel, .sentinel, .sentinel] true (true, "50508d4d97b8c337c0dcded0be780b34384ad5f5d25d83c67186a5244a7708f0") false
    fnExactParsePage_holds (fun _ h => by cases h) (by kernel_rfl) (fun _ h => by cases h) fnExactParsePage_row_tie rfl ⟨rfl, rfl⟩ (by kernel_rfl) rfl
    (fun f fn hf hfn => by
      obtain rfl : f = 5 := Option.some.inj ((show Tryd.prog.funcNamed "loop.example/vectorstore/laws.FnExactParsePage" = some 5 by kernel_rfl).symm.trans hf) |>.symm
      obtain rfl : fn = Tryd.f5 := (Option.some.inj (Tryd.func5.symm.trans hfn)).symm
      exact ⟨by kernel_rfl, fun j t ht => by
        rw [Tryd.params5] at ht
        have hm : t ∈ [22] := by simpa using Array.mem_of_getElem? ht
        have hall : ([22].all fun u => !Tryd.prog.wantsStandIn u) = true := by kernel_rfl
        exact (show Tryd.prog.wantsStandIn t = false by simpa using List.all_eq_true.1 hall t hm)⟩)
    (by kernel_rfl)
end Go.Proofs.YtnkflplbeagljacDoor
