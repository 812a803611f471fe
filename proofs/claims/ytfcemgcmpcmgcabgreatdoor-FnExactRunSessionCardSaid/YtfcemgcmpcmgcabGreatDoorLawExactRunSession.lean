/- For every input, the law FnExactRunSession of the translated program returns true, and the input reads as it did, the variables of the library being tied to the program's text: proved under no further condition. -/
import Derived.Test.YtfcemgcmpcmgcabGreatDoorExactRunSessionSrt1
import Derived.Test.YtfcemgcmpcmgcabGreatDoorKExactRunSessionC6
import Derived.Test.YtfcemgcmpcmgcabGreatDoorExactRunSessionPure2
import Derived.LaidMore
import Derived.MakeChecks
import Derived.SevenTiedAt
import Derived.Test.YtfcemgcmpcmgcabGreatDoorRows
import Derived.Test.YtfcemgcmpcmgcabGreatDoorCards
import Derived.Test.YtfcemgcmpcmgcabGreatDoorTie
set_option linter.unusedVariables false
set_option linter.unusedSimpArgs false
namespace Go.Proofs.YtfcemgcmpcmgcabGreatDoor
open Go.Vs Go.ChangeShapes Go.WideShapes Go.ChangeAt Go.RowKit

theorem Tryz.own : ownKnob Tryz.prog.godebug = none := by kernel_rfl
theorem Tryz.laidOut : laidOutB Tryz.prog = true := by kernel_rfl
theorem Tryz.cells9 : Tryz.prog.cellsOf 9 = 1 := by kernel_rfl
theorem Tryz.cells126 : Tryz.prog.cellsOf 126 = 1 := by kernel_rfl
theorem Tryz.cells148 : Tryz.prog.cellsOf 148 = 20 := by kernel_rfl
theorem Tryz.cells180 : Tryz.prog.cellsOf 180 = 1 := by kernel_rfl
theorem Tryz.star : "*" ++ "errors.errorString" = "*errors.errorString" := by decide
theorem Tryz.rowE (u : TypeId) (h : Tryz.prog.typeName? 3 u = some "*errors.errorString") : u = 178 :=
  typeName_ptr_named (nm := "errors.errorString") (by rw [Tryz.star]; kernel_rfl) (by kernel_rfl) (by decide) u (by rw [Tryz.star]; exact h)
theorem Tryz.gP : Tryz.prog.globalNamed "internal/strconv.uint64pow10" = some 1 := by kernel_rfl
theorem Tryz.gE : Tryz.prog.globalNamed "strconv.ErrSyntax" = some 4 := by kernel_rfl
theorem Tryz.tP : (Tryz.prog.globals[1]?).map (·.type) = some 148 := by kernel_rfl
theorem Tryz.tE : (Tryz.prog.globals[4]?).map (·.type) = some 42 := by kernel_rfl
theorem Tryz.tab : (Rows.laid_internal_strconv_uint64pow10 : DataW Unit) = Lib.tabData .u64 Lib.pow10Tab := by kernel_rfl
noncomputable def startW (os : Os) : World := { World.doorLaid Tryz.prog 72 os with heap := (World.doorLaid Tryz.prog 72 os).heap.modify 2 (recell (Go.Pinned.utf8FirstZ.map fun (n : Nat) => Value.int .u8 (n : Int)).toArray) }
theorem door_met (os : Os) (args : Array Value) : laidMetH Tryz.prog Rows.fnExactRunSessionRow.laid ((startW os).forCall (fun _ _ => 0) ⟨#[], args, []⟩).memory :=
  laidMetH_of_parts3 (fuel := 8) (laidMet_of_run' 8 (by kernel_rfl) (by kernel_rfl)) (by kernel_rfl) (by kernel_rfl)

set_option maxRecDepth 100000 in
theorem fnExactRunSession_lifted (os : Os) (started : os.Started) (H : Type) (enc : TypeId × Value → H) :
    ReturnsInHanded {} Tryz.checked os 3 .any (fun w args => (Rows.fnExactRunSessionSpec.pre enc Tryz.prog Tryz.f3 [] false w args ∧ laidMetH Tryz.prog Rows.fnExactRunSessionRow.laid w) ∧ sizedMet enc Tryz.prog Tryz.f3 (OpenSpec.ofChange Rows.fnExactRunSessionSpec) false w args)
      (Rows.fnExactRunSessionSpec.post enc Tryz.prog Tryz.f3 false true false false) := by
  refine handed_and_shaped (C := Tryz.checked) (X := (fun w _ => laidMetH Tryz.prog Rows.fnExactRunSessionRow.laid w)) (fun _ _ _ hh h => h.of_heap hh) Tryz.own started (by kernel_rfl) Tryz.func3
    (ChangeSpec.witness_shaped (enc := enc) (C := Tryz.checked) (os := os) (X := (fun w _ => laidMetH Tryz.prog Rows.fnExactRunSessionRow.laid w)) false (startW os) #[.slice none 0 0] 8 rfl (World.shaped_of_RefB (by kernel_rfl) (by kernel_rfl)) (by kernel_rfl) (by kernel_rfl) (by kernel_rfl) (door_met os _)) ?_
  intro W base args ds gs before hval0 hW hL0 hsh
  have hL : laidMetH Tryz.prog Rows.fnExactRunSessionRow.laid W := hL0
  rw [MakeChecks.laidMetH_plain _ _ _ (by kernel_rfl)] at hL
  have hval : ∀ (j : Nat) t v, Tryz.f3.params[j]? = some t → args[j]? = some v → Value.okWide Tryz.prog W .any base t v := hval0
  have hW' := hW
  obtain ⟨p, q, hA0, hV, rfl, _, _⟩ := hW
  have hA : DataW.TrodAll enc Tryz.prog W 0 (fun _ => true) true Tryz.f3.params.toList args.toList ds p := hA0
  rw [Tryz.params3] at hA hval
  obtain ⟨v0, d0, rfl, rfl, h0⟩ := trodAll_one hA
  obtain ⟨rfl, rfl⟩ := trodVars_none hV
  simp only [List.append_nil] at hW'
  have k1 : Lib.TabIs Tryz.prog W "internal/strconv.uint64pow10" .u64 Lib.pow10Tab := Lib.tabIs_of_head Tryz.gP Tryz.tP Tryz.underlying148 Tryz.underlying126 Tryz.cells126 Tryz.cells148
    (show laidMet Tryz.prog ((_, Lib.tabData .u64 Lib.pow10Tab) :: _) W by rw [← Tryz.tab]; exact hL.tail.tail)
  obtain ⟨m0, k2⟩ := cell_of_shapedOpen_int (P := Tryz.prog) (g := 0) (t := 3) (zero := #[.int .i64 0]) hsh (of_decide_eq_true (by kernel_rfl)) (by kernel_rfl) rfl (by kernel_rfl) (by kernel_rfl) Tryz.underlying3
  obtain ⟨aE, sE, k3, _, _, _⟩ := laid_sentinel hL.tail.tail.tail.tail.tail Tryz.gE Tryz.tE Tryz.underlying42 Tryz.rowE Tryz.underlying178 Tryz.underlying180 rfl rfl Tryz.underlying9 Tryz.cells180 Tryz.cells9
  have hg : gw0.p W := libG_met Tryz.gP Tryz.gE k1 ⟨m0, k2⟩ k3
  have hn : gw0.n ≤ W.heap.size := var_lt Tryz.gE k3
  have hlt : ∀ x ∈ p, x.block < W.heap.size := fun x hx => by simpa using hW'.lt x (by simpa using hx)
  have k0 := h0
  obtain ⟨a0, xs0, c0, N0, ok0, rfl, hR0⟩ := arg_list Tryz.underlying22 Tryz.cells9 (opens_str Tryz.underlying9) (hval 0 22 _ rfl rfl) h0 hlt
  have r0 : ∀ (W' : World), Below W.heap.size W W' → DataW.Trod enc Tryz.prog W' 0 (fun b => decide (b < W.heap.size)) true 22 (Sl a0 xs0 c0) d0 p :=
    fun W' hn => Below.trod Tryz.laidOut (by kernel_rfl) (of_decide_eq_true (by kernel_rfl)) k0 hn hlt
  clear hA0 hval0
  refine ((c_laws_FnExactRunSession (Ht := a0) (Hu := c0) (law_ExactRunSession xs0 ok0)).runs (allIn W (N0 + 1)) 0 (Nat.zero_le _) (Hp.begin (all_ro (hR0 _ (by omega)) (all_gw (allIn_gw (by omega) hn hg) trivial)) (apart_ro (apart_gw trivial)))).mono ?_
  rintro e w' ⟨v, σ', L', rfl, rfl, ⟨rfl, rfl⟩, H⟩
  have hnx : Below W.heap.size W σ'.w := H.md.below (cov_ro (cov_gw cov_nil))
  refine ⟨_, rfl, _, _, _, [], p, [], hW', ?_, ?_, by rfl, hnx.frame _, fun h => by cases h⟩
  · exact trodAll_mk1 (shut_bool Tryz.underlying4 true)
  · exact trodAll_mk1 (r0 _ hnx)

theorem fnExactRunSession_holds : Rows.FnExactRunSessionSaid :=
  OpenClaim.holds_of_wide 3 Tryz.f3 rfl rfl rfl rfl rfl rfl rfl ⟨rfl, rfl, rfl, rfl, rfl⟩ rfl rfl rfl rfl rfl (by kernel_rfl) Tryz.func3 (by kernel_rfl)
    (of_decide_eq_true (by kernel_rfl)) (by unfold Func.isWrapper; first | (rw [if_pos (by decide +kernel)]; kernel_rfl) | (rw [if_neg (by decide +kernel)]; exact ⟨rfl, rfl⟩))
    (fun os started H enc _ => fnExactRunSession_lifted os started H enc)

theorem fnExactRunSession_card : Rows.FnExactRunSessionCardSaid :=
  Claim7.holds_tied_plain_at .later [] [.data, .data, .data, .data, .sentinel, .sentinel, .pinned] true (true, "cb36e18f95a03a7b08de7b1d81b681099b05e4a56e1d8e1565219bb57342a14e") true
    fnExactRunSession_holds (fun _ h => by cases h) (by kernel_rfl) (fun _ h => by cases h) fnExactRunSession_row_tie rfl ⟨rfl, rfl⟩ (by kernel_rfl) rfl
    (fun f fn hf hfn => by
      obtain rfl : f = 3 := Option.some.inj ((show Tryz.prog.funcNamed "loop.example/vectorstore/laws.FnExactRunSession" = some 3 by kernel_rfl).symm.trans hf) |>.symm
      obtain rfl : fn = Tryz.f3 := (Option.some.inj (Tryz.func3.symm.trans hfn)).symm
      exact ⟨by kernel_rfl, fun j t ht => by
        rw [Tryz.params3] at ht
        have hm : t ∈ [22] := by simpa using Array.mem_of_getElem? ht
        have hall : ([22].all fun u => !Tryz.prog.wantsStandIn u) = true := by kernel_rfl
        exact (show Tryz.prog.wantsStandIn t = false by simpa using List.all_eq_true.1 hall t hm)⟩)
    (by kernel_rfl)
end Go.Proofs.YtfcemgcmpcmgcabGreatDoor
