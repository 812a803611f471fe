/- For every string of bytes, the law FnPageRoundTrip of the translated program returns true, its package-level errors being tied to the program's text: proved under no further condition. -/
import Derived.Test.YtnkflplbeagljabDoorPageRoundTripEng1
import Derived.Test.YtnkflplbeagljabDoorKPageRoundTripC3
import Derived.Test.YtnkflplbeagljabDoorPageRoundTripPure1
import Derived.LaidMore
import Derived.MakeChecks
import Derived.SevenTiedAt
import Derived.Test.YtnkflplbeagljabDoorRows
import Derived.Test.YtnkflplbeagljabDoorCards
import Derived.Test.YtnkflplbeagljabDoorTie
set_option linter.unusedVariables false
set_option linter.unusedSimpArgs false
namespace Go.Proofs.YtnkflplbeagljabDoor
open Go.Vs Go.ChangeShapes Go.WideShapes Go.ChangeAt Go.RowKit

theorem Tryd.own : ownKnob Tryd.prog.godebug = none := by kernel_rfl
theorem Tryd.laidOut : laidOutB Tryd.prog = true := by kernel_rfl
theorem Tryd.cells5 : Tryd.prog.cellsOf 5 = 1 := by kernel_rfl
theorem Tryd.cells85 : Tryd.prog.cellsOf 85 = 1 := by kernel_rfl
theorem Tryd.cells9 : Tryd.prog.cellsOf 9 = 1 := by kernel_rfl
theorem Tryd.star : "*" ++ "errors.errorString" = "*errors.errorString" := by decide
theorem Tryd.rowE (u : TypeId) (h : Tryd.prog.typeName? 3 u = some "*errors.errorString") : u = 68 :=
  typeName_ptr_named (nm := "errors.errorString") (by rw [Tryd.star]; kernel_rfl) (by kernel_rfl) (by decide) u (by rw [Tryd.star]; exact h)
theorem Tryd.g_errLongPage : Tryd.prog.globalNamed "loop.example/vectorstore/impl.errLongPage" = some 1 := by kernel_rfl
theorem Tryd.t_errLongPage : (Tryd.prog.globals[1]?).map (·.type) = some 42 := by kernel_rfl
theorem Tryd.g_errShortPage : Tryd.prog.globalNamed "loop.example/vectorstore/impl.errShortPage" = some 2 := by kernel_rfl
theorem Tryd.t_errShortPage : (Tryd.prog.globals[2]?).map (·.type) = some 42 := by kernel_rfl
theorem Tryd.g_errWrongCheck : Tryd.prog.globalNamed "loop.example/vectorstore/impl.errWrongCheck" = some 0 := by kernel_rfl
theorem Tryd.t_errWrongCheck : (Tryd.prog.globals[0]?).map (·.type) = some 42 := by kernel_rfl
theorem vars_read {H : Type} (enc : TypeId × Value → H) {W : World} {a_errShortPage a_errWrongCheck a_errLongPage : Addr} (h_errShortPage : W.var? Tryd.prog "loop.example/vectorstore/impl.errShortPage" = some #[(.iface 68 (.pointer (some a_errShortPage)))]) (h_errWrongCheck : W.var? Tryd.prog "loop.example/vectorstore/impl.errWrongCheck" = some #[(.iface 68 (.pointer (some a_errWrongCheck)))]) (h_errLongPage : W.var? Tryd.prog "loop.example/vectorstore/impl.errLongPage" = some #[(.iface 68 (.pointer (some a_errLongPage)))]) (sp : Nat → Bool) :
    DataW.TrodVars enc Tryd.prog W sp ["loop.example/vectorstore/impl.errShortPage", "loop.example/vectorstore/impl.errWrongCheck", "loop.example/vectorstore/impl.errLongPage"] [tok enc (.iface 68 (.pointer (some a_errShortPage))), tok enc (.iface 68 (.pointer (some a_errWrongCheck))), tok enc (.iface 68 (.pointer (some a_errLongPage)))] [.cell 2 0, .cell 0 0, .cell 1 0] :=
  ⟨2, 42, #[(.iface 68 (.pointer (some a_errShortPage)))], 1, [], [.cell 0 0, .cell 1 0], Tryd.g_errShortPage, Tryd.t_errShortPage, h_errShortPage, trod_held (v := (.iface 68 (.pointer (some a_errShortPage)))) Tryd.underlying42 trivial 0, ⟨0, 42, #[(.iface 68 (.pointer (some a_errWrongCheck)))], 1, [], [.cell 1 0], Tryd.g_errWrongCheck, Tryd.t_errWrongCheck, h_errWrongCheck, trod_held (v := (.iface 68 (.pointer (some a_errWrongCheck)))) Tryd.underlying42 trivial 0, ⟨1, 42, #[(.iface 68 (.pointer (some a_errLongPage)))], 1, [], [], Tryd.g_errLongPage, Tryd.t_errLongPage, h_errLongPage, trod_held (v := (.iface 68 (.pointer (some a_errLongPage)))) Tryd.underlying42 trivial 0, rfl, rfl⟩, rfl⟩, rfl⟩

theorem door_met (os : Os) (args : Array Value) : laidMetH Tryd.prog Rows.fnPageRoundTripRow.laid ((World.doorLaid Tryd.prog 66 os).forCall (fun _ _ => 0) ⟨#[], args, []⟩).memory :=
  laidMetH_of_parts3 (fuel := 8) (laidMet_of_run' 8 (by kernel_rfl) (by kernel_rfl)) (by kernel_rfl) (by kernel_rfl)

set_option maxRecDepth 100000 in
theorem fnPageRoundTrip_lifted (hp : ∀ code, M.laws_FnPageRoundTrip code = some true) (os : Os) (started : os.Started) (H : Type) (enc : TypeId × Value → H) :
    ReturnsInHanded {} Tryd.checked os 3 .any (fun w args => (Rows.fnPageRoundTripSpec.pre enc Tryd.prog Tryd.f3 [] false w args ∧ laidMetH Tryd.prog Rows.fnPageRoundTripRow.laid w) ∧ sizedMet enc Tryd.prog Tryd.f3 (OpenSpec.ofChange Rows.fnPageRoundTripSpec) false w args)
      (Rows.fnPageRoundTripSpec.post enc Tryd.prog Tryd.f3 false true false false) := by
  refine returnsInHanded_of_change_and (C := Tryd.checked) (X := (fun w _ => laidMetH Tryd.prog Rows.fnPageRoundTripRow.laid w)) (fun _ _ _ hh h => h.of_heap hh) Tryd.own started (by kernel_rfl) Tryd.func3
    (ChangeSpec.witness_shaped (enc := enc) (C := Tryd.checked) (os := os) (X := (fun w _ => laidMetH Tryd.prog Rows.fnPageRoundTripRow.laid w)) false (World.doorLaid Tryd.prog 66 os) #[.slice none 0 0] 8 rfl (World.shaped_of_RefB (by kernel_rfl) (by kernel_rfl)) (by kernel_rfl) (by kernel_rfl) (by kernel_rfl) (door_met os _)) ?_
  intro W base args ds gs before hval0 hW _ _ hL0 _
  have hL : laidMetH Tryd.prog Rows.fnPageRoundTripRow.laid W := hL0
  rw [MakeChecks.laidMetH_plain _ _ _ (by kernel_rfl)] at hL
  have hval : ∀ (j : Nat) t v, Tryd.f3.params[j]? = some t → args[j]? = some v → Value.okWide Tryd.prog W .any base t v := hval0
  have hW' := hW
  obtain ⟨p, q, hA0, hV0, rfl, _, _⟩ := hW
  have hA : DataW.TrodAll enc Tryd.prog W 0 (fun _ => true) true Tryd.f3.params.toList args.toList ds p := hA0
  have hV : DataW.TrodVars enc Tryd.prog W (fun _ => true) ["loop.example/vectorstore/impl.errShortPage", "loop.example/vectorstore/impl.errWrongCheck", "loop.example/vectorstore/impl.errLongPage"] gs q := hV0
  rw [Tryd.params3] at hA hval
  obtain ⟨v0, d0, rfl, rfl, h0⟩ := trodAll_one hA
  obtain ⟨a_errShortPage, s_0, h_errShortPage, _, _, _⟩ := laid_sentinel hL Tryd.g_errShortPage Tryd.t_errShortPage Tryd.underlying42 Tryd.rowE Tryd.underlying68 Tryd.underlying85 rfl rfl Tryd.underlying9 Tryd.cells85 Tryd.cells9
  obtain ⟨a_errWrongCheck, s_1, h_errWrongCheck, _, _, _⟩ := laid_sentinel hL.tail Tryd.g_errWrongCheck Tryd.t_errWrongCheck Tryd.underlying42 Tryd.rowE Tryd.underlying68 Tryd.underlying85 rfl rfl Tryd.underlying9 Tryd.cells85 Tryd.cells9
  obtain ⟨a_errLongPage, s_2, h_errLongPage, _, _, _⟩ := laid_sentinel hL.tail.tail Tryd.g_errLongPage Tryd.t_errLongPage Tryd.underlying42 Tryd.rowE Tryd.underlying68 Tryd.underlying85 rfl rfl Tryd.underlying9 Tryd.cells85 Tryd.cells9
  obtain ⟨rfl, rfl⟩ := hV.unique (vars_read enc h_errShortPage h_errWrongCheck h_errLongPage _)
  have hg : ∀ j i : Nat, ([1, 2, 0] : List Nat)[j]? = some i → W.cell? ⟨i, 0, none⟩ = some (er 68 (fun j => [a_errLongPage, a_errShortPage, a_errWrongCheck].getD j a_errLongPage) ((j : Int) + 1)) := by
    intro j i hj
    match j, hj with
    | 0, hj =>
      obtain rfl : 1 = i := by simpa using hj
      exact (World.var?_cell Tryd.g_errLongPage h_errLongPage 0).trans rfl
    | 1, hj =>
      obtain rfl : 2 = i := by simpa using hj
      exact (World.var?_cell Tryd.g_errShortPage h_errShortPage 0).trans rfl
    | 2, hj =>
      obtain rfl : 0 = i := by simpa using hj
      exact (World.var?_cell Tryd.g_errWrongCheck h_errWrongCheck 0).trans rfl
    | j + 3, hj =>
      simp at hj
  obtain ⟨a0, len, cap, rfl⟩ := okWide_slice Tryd.underlying22 (hval 0 22 v0 rfl rfl)
  have h0k := h0
  obtain ⟨fuel, hf⟩ := h0
  clear hA0 hV0 hval0
  have hlt : ∀ x ∈ p, x.block < W.heap.size := fun x hx => hW'.lt x (List.mem_append_left _ hx)
  have hargs : ∀ (W' : World), Below W.heap.size W W' → DataW.Trod enc Tryd.prog W' 0 (fun b => decide (b < W.heap.size)) true 22 (.slice a0 len cap) d0 p :=
    fun W' hn => Below.trod Tryd.laidOut (by kernel_rfl) (of_decide_eq_true (by kernel_rfl)) h0k hn hlt
  have fin : ∀ (σ0 : St) (code : List UInt8), σ0.w = W → len = code.length → RS 0 σ0 (Sl a0 code cap) code → (Ch.gl 68 (fun j => [a_errLongPage, a_errShortPage, a_errWrongCheck].getD j a_errLongPage) [1, 2, 0]).as σ0 → Calls Tryd.checked.prog 3 #[.slice a0 len cap] W fun e W' => ∃ v, e = Ending.returned v ∧ Rows.fnPageRoundTripSpec.post enc Tryd.checked.prog Tryd.f3 false true false false W #[.slice a0 len cap] v W' := by
    intro σ0 code hw hl hR hG
    subst hl; subst hw
    refine ((c_laws_FnPageRoundTrip (acode_0 := a0) (ccode_0 := cap) (ga := (fun j => [a_errLongPage, a_errShortPage, a_errWrongCheck].getD j a_errLongPage)) (hp code)).runs σ0 0 (Nat.zero_le _) (Hp.begin (all_ro hR (all_gl hG trivial)) (apart_ro (apart_gl trivial)))).mono ?_
    rintro e w' ⟨v, σ', L', rfl, rfl, ⟨rfl, rfl⟩, H⟩
    have hnx := H.md.below (cov_ro (cov_gl cov_nil))
    refine ⟨_, rfl, _, _, _, [], p, [.cell 2 0, .cell 0 0, .cell 1 0], hW', ?_, ?_, ?_, hnx.frame _, fun h => by cases h⟩
    · exact trodAll_mk1 (shut_bool Tryd.underlying4 true)
    · exact trodAll_mk1 (hargs _ hnx)
    · exact vars_read enc (var_below hnx h_errShortPage) (var_below hnx h_errWrongCheck) (var_below hnx h_errLongPage) _
  rcases open_ints Tryd.underlying22 Tryd.underlying5 Tryd.cells5 hf with ⟨hcs, hx⟩ | ⟨a, len', cap', zs, hcs, _, hl, hm, hz, hx, hcell, hwz⟩
  · simp [Value.cells] at hcs
    obtain ⟨rfl, rfl, rfl⟩ := hcs
    obtain ⟨σ0, hσ, hR, hG⟩ := nil_inG W none 0 hg
    exact fin σ0 [] hσ rfl hR hG
  · simp [Value.cells] at hcs
    obtain ⟨rfl, rfl, rfl⟩ := hcs
    simp only [Prod.mk.injEq] at hx
    obtain ⟨rfl, rfl⟩ := hx
    simp only [if_true] at hz
    by_cases hl0 : len = 0
    · subst hl0
      obtain ⟨σ0, hσ, hR, hG⟩ := nil_inG W (some a) cap hg
      exact fin σ0 [] hσ rfl hR hG
    · obtain ⟨b, off, spot⟩ := a
      have hspot : spot = none := by simpa [Addr.add] using World.cell?_spot (hcell 0 (by omega))
      subst hspot
      have hbW : b < W.heap.size := hlt (.cell b off) (MemPlace.mem_row.2 ⟨0, by omega, by simp⟩)
      obtain ⟨σ0, hσ, hR, hG⟩ := bytes_inG (W := W) (b := b) (off := off) (len := len) (cap := cap) (zs := zs.take len) hbW hl (by simp; omega)
        (fun i hi => by
          simp only [List.length_take] at hi
          have := hcell i (by omega)
          rw [Go.Vs.add_plain] at this
          have hi' : i < len := by omega
          rw [this]; simp [List.getD, List.getElem?_take, hi']) (fun n hn => hwz n (List.mem_of_mem_take hn)) hg
      exact fin σ0 _ hσ (by simp [bytesOf]; omega) hR hG

theorem fnPageRoundTrip_holds : Rows.FnPageRoundTripSaid :=
  OpenClaim.holds_of_wide 3 Tryd.f3 rfl rfl rfl rfl rfl rfl rfl ⟨rfl, rfl, rfl, rfl, rfl⟩ rfl rfl rfl rfl rfl (by kernel_rfl) Tryd.func3 (by kernel_rfl)
    (of_decide_eq_true (by kernel_rfl)) (by unfold Func.isWrapper; first | (rw [if_pos (by decide +kernel)]; kernel_rfl) | (rw [if_neg (by decide +kernel)]; exact ⟨rfl, rfl⟩))
    (fun os started H enc _ => fnPageRoundTrip_lifted law_PageRoundTrip os started H enc)

/-- The tied card. -/
theorem fnPageRoundTrip_card : Rows.FnPageRoundTripCardSaid :=
  Claim7.holds_tied_plain_at .later [] [.sentinel, .sentinel, .sentinel] true (true, "17c570b186a219a3fc1209208ddad2ddb667fe974af5363b097fee1af08dd37a") false
    fnPageRoundTrip_holds (fun _ h => by cases h) (by kernel_rfl) (fun _ h => by cases h) fnPageRoundTrip_row_tie rfl ⟨rfl, rfl⟩ (by kernel_rfl) rfl
    (fun f fn hf hfn => by
      obtain rfl : f = 3 := Option.some.inj ((show Tryd.prog.funcNamed "loop.example/vectorstore/laws.FnPageRoundTrip" = some 3 by kernel_rfl).symm.trans hf) |>.symm
      obtain rfl : fn = Tryd.f3 := (Option.some.inj (Tryd.func3.symm.trans hfn)).symm
      exact ⟨by kernel_rfl, fun j t ht => by
        rw [Tryd.params3] at ht
        have hm : t ∈ [22] := by simpa using Array.mem_of_getElem? ht
        have hall : ([22].all fun u => !Tryd.prog.wantsStandIn u) = true := by kernel_rfl
        exact (show Tryd.prog.wantsStandIn t = false by simpa using List.all_eq_true.1 hall t hm)⟩)
    (by kernel_rfl)
end Go.Proofs.YtnkflplbeagljabDoor
