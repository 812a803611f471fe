/- The functions compute what their models say. -/
import Derived.Test.YtfcemgcmpcmgcaaKAddEntryTimeC6
set_option linter.unusedVariables false
set_option linter.unusedSimpArgs false
set_option maxRecDepth 20000
namespace Go.Vs
open Go Go.Proofs
attribute [local irreducible] Code.wp Code.wpIn wpList wpListIn wpQuiet Calls CallsIn

theorem c_laws_FnAddEntryTime {code_0 : List UInt8} {acode_0 : Option Addr} {ccode_0 : Nat} {r : Bool} (h : M.laws_FnAddEntryTime code_0 = some r) :
    Cal2 Try.prog 13 [(Sl acode_0 code_0 ccode_0)] [Ch.ro 0 (Sl acode_0 code_0 ccode_0) code_0] (fun n0 v L => v = (B r) ∧ L = []) := by
 refine cal2 (n := 103) Try.func13 rfl rfl rfl rfl ?_
 intro S0 σ0 n0 hn0 H
 unfold M.laws_FnAddEntryTime at h
 refine c_seq ?_
 refine rg ?_
 refine st (v := (B false)) (rv_assign rfl) ?_
 refine w_end ?_
 refine q_then ?_
 refine c_seq ?_
 refine c_seq ?_
 refine rg ?_
 refine st (v := (Sl acode_0 code_0 ccode_0)) (rv_move rfl) ?_
 refine st (v := (I (code_0.length : Int))) (rv_len Try.underlying22 rfl) ?_
 refine st (v := (B (decide (1048576 < (code_0.length : Int))))) (rv_gtr (a := (code_0.length : Int)) (b := 1048576) rfl rfl) ?_
 refine w_end ?_
 refine q_then ?_
 refine cd_cond (decide (1048576 < (code_0.length : Int))) rfl (fun hb1 => ?_) (fun hb1 => ?_)
 ·replace h := bif_t hb1 h
  refine c_seq ?_
  refine rg ?_
  refine st (v := (B true)) (rv_assign rfl) ?_
  refine w_end ?_
  refine q_then ?_
  refine c_ret ?_
  refine q_then_r ?_
  obtain rfl := Option.some.inj h
  exact fin_ret (v := (B true)) (results_ok Try.results13 (res_tmp (v := (B true)) rfl res_nil) rfl) ⟨rfl, rfl⟩ (H.sel' [] rfl rfl)
 ·replace h := bif_f hb1 h
  refine c_skip ?_
  refine q_then ?_
  refine c_seq ?_
  refine rg ?_
  refine st (v := (Sl acode_0 code_0 ccode_0)) (rv_move rfl) ?_
  obtain ⟨r2, hx3, h'⟩ := bind_some h
  clear h
  have h := h'; clear h'
  have hc4 := c_spec_DrawAddEntry (acode_0 := acode_0) (ccode_0 := ccode_0) hx3
  refine st_call (cx_call hc4 (ent_f hc4.fn rfl) hn0 (show Hp S0 σ0 _ ([Ch.ro 0 (Sl acode_0 code_0 ccode_0) code_0] ++ [Ch.ro 0 (Sl acode_0 code_0 ccode_0) code_0]) from (H.sel' [0, 0] rfl rfl))) wn ?_
  rintro _ σ11 ⟨_, ⟨a5, c6, a7, c8, a9, c10, rfl, rfl⟩, H, -⟩
  replace H : Hp S0 σ0 σ11 [Ch.own n0 n0 (Sl a5 r2.1.1 c6) r2.1.1, Ch.own n0 n0 (Sl a7 r2.1.2 c8) r2.1.2, Ch.own n0 n0 (Sl a9 r2.2.1.2.2.1 c10) r2.2.1.2.2.1, Ch.ro 0 (Sl acode_0 code_0 ccode_0) code_0] := H
  refine st (v := (.tuple #[(.agg #[(Sl a5 r2.1.1 c6), (Sl a7 r2.1.2 c8)]), (.agg #[(I r2.2.1.1), (I r2.2.1.2.1), (Sl a9 r2.2.1.2.2.1 c10), (I r2.2.1.2.2.2)]), (I r2.2.2)])) (rv_move rfl) ?_
  refine st (v := (.agg #[(Sl a5 r2.1.1 c6), (Sl a7 r2.1.2 c8)])) (rv_extract rfl rfl) ?_
  refine st (v := (.agg #[(I r2.2.1.1), (I r2.2.1.2.1), (Sl a9 r2.2.1.2.2.1 c10), (I r2.2.1.2.2.2)])) (rv_extract rfl rfl) ?_
  refine st (v := (I r2.2.2)) (rv_extract rfl rfl) ?_
  refine st_ex (ex_alloc (cs := [(.slice none 0 0), (.slice none 0 0)]) H hn0 ti26 rfl) wn ?_
  rintro _ σ13 ⟨b12, rfl, H, -⟩
  refine st_ex (ex_alloc (cs := [(I 0), (I 0), (.slice none 0 0), (I 0)]) H hn0 ti43 rfl) wn ?_
  rintro _ σ15 ⟨b14, rfl, H, -⟩
  refine st_exS (ex_store_box (k := 0) (cs := [(.slice none 0 0), (.slice none 0 0)]) (vs := [(Sl a5 r2.1.1 c6), (Sl a7 r2.1.2 c8)]) (cs' := [(Sl a5 r2.1.1 c6), (Sl a7 r2.1.2 c8)]) H (i := 1) rfl ti26 rfl rfl rfl rfl rfl (Nat.le_of_ble_eq_true rfl) (by simp [plain]) rfl) wn ?_
  rintro σ16 ⟨H, -⟩
  refine st_exS (ex_store_box (k := 0) (cs := [(I 0), (I 0), (.slice none 0 0), (I 0)]) (vs := [(I r2.2.1.1), (I r2.2.1.2.1), (Sl a9 r2.2.1.2.2.1 c10), (I r2.2.1.2.2.2)]) (cs' := [(I r2.2.1.1), (I r2.2.1.2.1), (Sl a9 r2.2.1.2.2.1 c10), (I r2.2.1.2.2.2)]) H (i := 1) rfl ti43 rfl rfl rfl rfl rfl (Nat.le_of_ble_eq_true rfl) (by simp [plain]) rfl) wn ?_
  rintro σ17 ⟨H, -⟩
  refine st (v := (I r2.2.2)) (rv_assign rfl) ?_
  refine w_end ?_
  refine q_then ?_
  refine c_seq ?_
  refine rg ?_
  have hc18 := H.cells 1 rfl
  refine st (v := (.agg #[(Sl a5 r2.1.1 c6), (Sl a7 r2.1.2 c8)])) (rv_load (cs := [(Sl a5 r2.1.1 c6), (Sl a7 r2.1.2 c8)]) Try.underlying26 rfl ti26 rfl rfl hc18) ?_
  have hc19 := H.cells 0 rfl
  refine st (v := (.agg #[(I r2.2.1.1), (I r2.2.1.2.1), (Sl a9 r2.2.1.2.2.1 c10), (I r2.2.1.2.2.2)])) (rv_load (cs := [(I r2.2.1.1), (I r2.2.1.2.1), (Sl a9 r2.2.1.2.2.1 c10), (I r2.2.1.2.2.2)]) Try.underlying43 rfl ti43 rfl rfl hc19) ?_
  refine st (v := (I r2.2.2)) (rv_move rfl) ?_
  obtain ⟨r20, hx21, h'⟩ := bind_some h
  clear h
  have h := h'; clear h'
  have hc22 := c_impl_AddEntry (ah_0_0 := a5) (ch_0_0 := c6) (ah_0_1 := a7) (ch_0_1 := c8) (ae_1_1_1 := a9) (ce_1_1_1 := c10) hx21
  have hle := Nat.le_trans hn0 H.size
  refine st_call (cx_lend (Loan.lend (Loan.lend (Loan.lend Loan.nil))) hc22 (ent_f hc22.fn rfl) (show Hp S0 σ0 _ ([Ch.own n0 n0 (Sl a5 r2.1.1 c6) r2.1.1, Ch.own n0 n0 (Sl a7 r2.1.2 c8) r2.1.2, Ch.own n0 n0 (Sl a9 r2.2.1.2.2.1 c10) r2.2.1.2.2.1] ++ ([] ++ [Ch.bx n0 b14 0 [(I r2.2.1.1), (I r2.2.1.2.1), (Sl a9 r2.2.1.2.2.1 c10), (I r2.2.1.2.2.2)] [] [], Ch.bx n0 b12 0 [(Sl a5 r2.1.1 c6), (Sl a7 r2.1.2 c8)] [] [], Ch.ro 0 (Sl acode_0 code_0 ccode_0) code_0])) from (H.sel' [2, 3, 4, 0, 1, 5] rfl rfl)) (by rintro _ _ _ ⟨_, _, _, _, rfl, rfl, _⟩; exact ⟨Ab.own (Nat.le_refl _), Ab.ownSc, trivial⟩)) wn ?_
  rintro _ σ28 ⟨_, ⟨a23, c24, a26, c27, rfl, rfl, ht25⟩, H, -, -⟩
  replace H : Hp S0 σ0 σ28 [Ch.own σ17.size σ17.size (Sl a23 r20.1.1 c24) r20.1.1, Ch.own σ17.size σ17.size (Sl a26 r20.1.2 c27) r20.1.2, Ch.own n0 n0 (Sl a5 r2.1.1 c6) r2.1.1, Ch.own n0 n0 (Sl a7 r2.1.2 c8) r2.1.2, Ch.own n0 n0 (Sl a9 r2.2.1.2.2.1 c10) r2.2.1.2.2.1, Ch.bx n0 b14 0 [(I r2.2.1.1), (I r2.2.1.2.1), (Sl a9 r2.2.1.2.2.1 c10), (I r2.2.1.2.2.2)] [] [], Ch.bx n0 b12 0 [(Sl a5 r2.1.1 c6), (Sl a7 r2.1.2 c8)] [] [], Ch.ro 0 (Sl acode_0 code_0 ccode_0) code_0] := H
  replace H := H.ownLow 0 n0 n0 rfl hle hle
  replace H := H.ownLow 1 n0 n0 rfl hle hle
  clear hle
  replace H : Hp S0 σ0 σ28 [Ch.own n0 n0 (Sl a26 r20.1.2 c27) r20.1.2, Ch.own n0 n0 (Sl a23 r20.1.1 c24) r20.1.1, Ch.own n0 n0 (Sl a5 r2.1.1 c6) r2.1.1, Ch.own n0 n0 (Sl a7 r2.1.2 c8) r2.1.2, Ch.own n0 n0 (Sl a9 r2.2.1.2.2.1 c10) r2.2.1.2.2.1, Ch.bx n0 b14 0 [(I r2.2.1.1), (I r2.2.1.2.1), (Sl a9 r2.2.1.2.2.1 c10), (I r2.2.1.2.2.2)] [] [], Ch.bx n0 b12 0 [(Sl a5 r2.1.1 c6), (Sl a7 r2.1.2 c8)] [] [], Ch.ro 0 (Sl acode_0 code_0 ccode_0) code_0] := H
  replace H : Hp S0 σ0 σ28 [Ch.own n0 n0 (Sl a26 r20.1.2 c27) r20.1.2, Ch.own n0 n0 (Sl a23 r20.1.1 c24) r20.1.1, Ch.own n0 n0 (Sl a5 r2.1.1 c6) r2.1.1, Ch.own n0 n0 (Sl a7 r2.1.2 c8) r2.1.2, Ch.own n0 n0 (Sl a9 r2.2.1.2.2.1 c10) r2.2.1.2.2.1, Ch.bx n0 b14 0 [(I r2.2.1.1), (I r2.2.1.2.1), (Sl a9 r2.2.1.2.2.1 c10), (I r2.2.1.2.2.2)] [] [], Ch.bx n0 b12 0 [(Sl a5 r2.1.1 c6), (Sl a7 r2.1.2 c8)] [] []] := H.sel' [0, 1, 2, 3, 4, 5, 6] rfl rfl
  refine st (v := (.tuple #[(.agg #[(Sl a23 r20.1.1 c24), (Sl a26 r20.1.2 c27)]), (B r20.2)])) (rv_move rfl) ?_
  refine st (v := (.agg #[(Sl a23 r20.1.1 c24), (Sl a26 r20.1.2 c27)])) (rv_extract rfl rfl) ?_
  refine st (v := (B r20.2)) (rv_extract rfl rfl) ?_
  refine st_ex (ex_alloc (cs := [(.slice none 0 0), (.slice none 0 0)]) H hn0 ti26 rfl) wn ?_
  rintro _ σ30 ⟨b29, rfl, H, -⟩
  refine st_exS (ex_store_box (k := 0) (cs := [(.slice none 0 0), (.slice none 0 0)]) (vs := [(Sl a23 r20.1.1 c24), (Sl a26 r20.1.2 c27)]) (cs' := [(Sl a23 r20.1.1 c24), (Sl a26 r20.1.2 c27)]) H (i := 0) rfl ti26 rfl rfl rfl rfl rfl (Nat.le_of_ble_eq_true rfl) (by simp [plain]) rfl) wn ?_
  rintro σ31 ⟨H, -⟩
  refine st (v := (B r20.2)) (rv_assign rfl) ?_
  refine w_end ?_
  refine q_then ?_
  refine c_seq ?_
  refine rg ?_
  have hc32 := H.cells 7 rfl
  refine st (v := (.agg #[(Sl a5 r2.1.1 c6), (Sl a7 r2.1.2 c8)])) (rv_load (cs := [(Sl a5 r2.1.1 c6), (Sl a7 r2.1.2 c8)]) Try.underlying26 rfl ti26 rfl rfl hc32) ?_
  have hc33 := H.cells 6 rfl
  refine st (v := (.agg #[(I r2.2.1.1), (I r2.2.1.2.1), (Sl a9 r2.2.1.2.2.1 c10), (I r2.2.1.2.2.2)])) (rv_load (cs := [(I r2.2.1.1), (I r2.2.1.2.1), (Sl a9 r2.2.1.2.2.1 c10), (I r2.2.1.2.2.2)]) Try.underlying43 rfl ti43 rfl rfl hc33) ?_
  refine st (v := (I r2.2.2)) (rv_move rfl) ?_
  obtain ⟨r34, hx35, h'⟩ := bind_some h
  clear h
  have h := h'; clear h'
  have hc36 := c_spec_AddEntry (ah_0_0 := a5) (ch_0_0 := c6) (ah_0_1 := a7) (ch_0_1 := c8) (ae_1_1_1 := a9) (ce_1_1_1 := c10) hx35
  have hle := Nat.le_trans hn0 H.size
  refine st_call (cx_lend (Loan.lend (Loan.lend (Loan.lend Loan.nil))) hc36 (ent_f hc36.fn rfl) (show Hp S0 σ0 _ ([Ch.own n0 n0 (Sl a5 r2.1.1 c6) r2.1.1, Ch.own n0 n0 (Sl a7 r2.1.2 c8) r2.1.2, Ch.own n0 n0 (Sl a9 r2.2.1.2.2.1 c10) r2.2.1.2.2.1] ++ ([] ++ [Ch.bx n0 b29 0 [(Sl a23 r20.1.1 c24), (Sl a26 r20.1.2 c27)] [] [], Ch.own n0 n0 (Sl a26 r20.1.2 c27) r20.1.2, Ch.own n0 n0 (Sl a23 r20.1.1 c24) r20.1.1, Ch.bx n0 b14 0 [(I r2.2.1.1), (I r2.2.1.2.1), (Sl a9 r2.2.1.2.2.1 c10), (I r2.2.1.2.2.2)] [] [], Ch.bx n0 b12 0 [(Sl a5 r2.1.1 c6), (Sl a7 r2.1.2 c8)] [] []])) from (H.sel' [3, 4, 5, 0, 1, 2, 6, 7] rfl rfl)) (by rintro _ _ _ ⟨_, _, _, _, rfl, rfl⟩; exact ⟨Ab.own (Nat.le_refl _), Ab.ownSc, trivial⟩)) wn ?_
  rintro _ σ41 ⟨_, ⟨a37, c38, a39, c40, rfl, rfl⟩, H, -, -⟩
  replace H : Hp S0 σ0 σ41 [Ch.own σ31.size σ31.size (Sl a37 r34.1.1 c38) r34.1.1, Ch.own σ31.size σ31.size (Sl a39 r34.1.2 c40) r34.1.2, Ch.own n0 n0 (Sl a5 r2.1.1 c6) r2.1.1, Ch.own n0 n0 (Sl a7 r2.1.2 c8) r2.1.2, Ch.own n0 n0 (Sl a9 r2.2.1.2.2.1 c10) r2.2.1.2.2.1, Ch.bx n0 b29 0 [(Sl a23 r20.1.1 c24), (Sl a26 r20.1.2 c27)] [] [], Ch.own n0 n0 (Sl a26 r20.1.2 c27) r20.1.2, Ch.own n0 n0 (Sl a23 r20.1.1 c24) r20.1.1, Ch.bx n0 b14 0 [(I r2.2.1.1), (I r2.2.1.2.1), (Sl a9 r2.2.1.2.2.1 c10), (I r2.2.1.2.2.2)] [] [], Ch.bx n0 b12 0 [(Sl a5 r2.1.1 c6), (Sl a7 r2.1.2 c8)] [] []] := H
  replace H := H.ownLow 0 n0 n0 rfl hle hle
  replace H := H.ownLow 1 n0 n0 rfl hle hle
  clear hle
  replace H : Hp S0 σ0 σ41 [Ch.own n0 n0 (Sl a39 r34.1.2 c40) r34.1.2, Ch.own n0 n0 (Sl a37 r34.1.1 c38) r34.1.1, Ch.own n0 n0 (Sl a5 r2.1.1 c6) r2.1.1, Ch.own n0 n0 (Sl a7 r2.1.2 c8) r2.1.2, Ch.own n0 n0 (Sl a9 r2.2.1.2.2.1 c10) r2.2.1.2.2.1, Ch.bx n0 b29 0 [(Sl a23 r20.1.1 c24), (Sl a26 r20.1.2 c27)] [] [], Ch.own n0 n0 (Sl a26 r20.1.2 c27) r20.1.2, Ch.own n0 n0 (Sl a23 r20.1.1 c24) r20.1.1, Ch.bx n0 b14 0 [(I r2.2.1.1), (I r2.2.1.2.1), (Sl a9 r2.2.1.2.2.1 c10), (I r2.2.1.2.2.2)] [] [], Ch.bx n0 b12 0 [(Sl a5 r2.1.1 c6), (Sl a7 r2.1.2 c8)] [] []] := H
  refine st (v := (.tuple #[(.agg #[(Sl a37 r34.1.1 c38), (Sl a39 r34.1.2 c40)]), (B r34.2)])) (rv_move rfl) ?_
  refine st (v := (.agg #[(Sl a37 r34.1.1 c38), (Sl a39 r34.1.2 c40)])) (rv_extract rfl rfl) ?_
  refine st (v := (B r34.2)) (rv_extract rfl rfl) ?_
  refine st_ex (ex_alloc (cs := [(.slice none 0 0), (.slice none 0 0)]) H hn0 ti26 rfl) wn ?_
  rintro _ σ43 ⟨b42, rfl, H, -⟩
  refine st_exS (ex_store_box (k := 0) (cs := [(.slice none 0 0), (.slice none 0 0)]) (vs := [(Sl a37 r34.1.1 c38), (Sl a39 r34.1.2 c40)]) (cs' := [(Sl a37 r34.1.1 c38), (Sl a39 r34.1.2 c40)]) H (i := 0) rfl ti26 rfl rfl rfl rfl rfl (Nat.le_of_ble_eq_true rfl) (by simp [plain]) rfl) wn ?_
  rintro σ44 ⟨H, -⟩
  refine st (v := (B r34.2)) (rv_assign rfl) ?_
  refine w_end ?_
  refine q_then ?_
  refine c_seq ?_
  refine c_seq ?_
  obtain ⟨o45, hj, h'⟩ := bind_some h
  clear h
  refine c_cut (fun e a w => e = .normal ∧ ∃ (ρ : Nat → Value) (σ : St), a = fr 103 (updL ρ [(3, (pt b12 0)), (4, (pt b14 0)), (6, (pt b29 0)), (7, (B r20.2)), (8, (pt b42 0)), (9, (B r34.2)), (56, (B o45))]) ∧ w = σ.w ∧ Hp S0 σ0 σ [Ch.own n0 n0 (Sl a5 r2.1.1 c6) r2.1.1, Ch.own n0 n0 (Sl a7 r2.1.2 c8) r2.1.2, Ch.bx n0 b12 0 [(Sl a5 r2.1.1 c6), (Sl a7 r2.1.2 c8)] [] [], Ch.own n0 n0 (Sl a9 r2.2.1.2.2.1 c10) r2.2.1.2.2.1, Ch.bx n0 b14 0 [(I r2.2.1.1), (I r2.2.1.2.1), (Sl a9 r2.2.1.2.2.1 c10), (I r2.2.1.2.2.2)] [] [], Ch.own n0 n0 (Sl a23 r20.1.1 c24) r20.1.1, Ch.own n0 n0 (Sl a26 r20.1.2 c27) r20.1.2, Ch.bx n0 b29 0 [(Sl a23 r20.1.1 c24), (Sl a26 r20.1.2 c27)] [] [], Ch.own n0 n0 (Sl a37 r34.1.1 c38) r34.1.1, Ch.own n0 n0 (Sl a39 r34.1.2 c40) r34.1.2, Ch.bx n0 b42 0 [(Sl a37 r34.1.1 c38), (Sl a39 r34.1.2 c40)] [] []]) ?_ ?_
  ·clear h'
   rename _ = some o45 => h
   refine rg ?_
   have hc46 := H.cells 6 rfl
   refine st (v := (.agg #[(Sl a23 r20.1.1 c24), (Sl a26 r20.1.2 c27)])) (rv_load (cs := [(Sl a23 r20.1.1 c24), (Sl a26 r20.1.2 c27)]) Try.underlying26 rfl ti26 rfl rfl hc46) ?_
   have hc47 := H.cells 0 rfl
   refine st (v := (.agg #[(Sl a37 r34.1.1 c38), (Sl a39 r34.1.2 c40)])) (rv_load (cs := [(Sl a37 r34.1.1 c38), (Sl a39 r34.1.2 c40)]) Try.underlying26 rfl ti26 rfl rfl hc47) ?_
   obtain ⟨r48, hx49, h'⟩ := bind_some h
   clear h
   have h := h'; clear h'
   have hc50 := c_laws_equalHistory (aa_0_0 := a23) (ca_0_0 := c24) (aa_0_1 := a26) (ca_0_1 := c27) (ab_1_0 := a37) (cb_1_0 := c38) (ab_1_1 := a39) (cb_1_1 := c40) hx49
   have hle := Nat.le_trans hn0 H.size
   refine st_call (cx_lend (Loan.lend (Loan.lend (Loan.lend (Loan.lend Loan.nil)))) hc50 (ent_f hc50.fn rfl) (show Hp S0 σ0 _ ([Ch.own n0 n0 (Sl a23 r20.1.1 c24) r20.1.1, Ch.own n0 n0 (Sl a26 r20.1.2 c27) r20.1.2, Ch.own n0 n0 (Sl a37 r34.1.1 c38) r34.1.1, Ch.own n0 n0 (Sl a39 r34.1.2 c40) r34.1.2] ++ ([] ++ [Ch.bx n0 b42 0 [(Sl a37 r34.1.1 c38), (Sl a39 r34.1.2 c40)] [] [], Ch.own n0 n0 (Sl a5 r2.1.1 c6) r2.1.1, Ch.own n0 n0 (Sl a7 r2.1.2 c8) r2.1.2, Ch.own n0 n0 (Sl a9 r2.2.1.2.2.1 c10) r2.2.1.2.2.1, Ch.bx n0 b29 0 [(Sl a23 r20.1.1 c24), (Sl a26 r20.1.2 c27)] [] [], Ch.bx n0 b14 0 [(I r2.2.1.1), (I r2.2.1.2.1), (Sl a9 r2.2.1.2.2.1 c10), (I r2.2.1.2.2.2)] [] [], Ch.bx n0 b12 0 [(Sl a5 r2.1.1 c6), (Sl a7 r2.1.2 c8)] [] []])) from (H.sel' [8, 7, 2, 1, 0, 3, 4, 5, 6, 9, 10] rfl rfl)) (by rintro _ _ _ ⟨rfl, rfl⟩; exact trivial)) wn ?_
   rintro _ σ51 ⟨_, ⟨rfl, rfl⟩, H, -, -⟩
   replace H : Hp S0 σ0 σ51 [Ch.own n0 n0 (Sl a23 r20.1.1 c24) r20.1.1, Ch.own n0 n0 (Sl a26 r20.1.2 c27) r20.1.2, Ch.own n0 n0 (Sl a37 r34.1.1 c38) r34.1.1, Ch.own n0 n0 (Sl a39 r34.1.2 c40) r34.1.2, Ch.bx n0 b42 0 [(Sl a37 r34.1.1 c38), (Sl a39 r34.1.2 c40)] [] [], Ch.own n0 n0 (Sl a5 r2.1.1 c6) r2.1.1, Ch.own n0 n0 (Sl a7 r2.1.2 c8) r2.1.2, Ch.own n0 n0 (Sl a9 r2.2.1.2.2.1 c10) r2.2.1.2.2.1, Ch.bx n0 b29 0 [(Sl a23 r20.1.1 c24), (Sl a26 r20.1.2 c27)] [] [], Ch.bx n0 b14 0 [(I r2.2.1.1), (I r2.2.1.2.1), (Sl a9 r2.2.1.2.2.1 c10), (I r2.2.1.2.2.2)] [] [], Ch.bx n0 b12 0 [(Sl a5 r2.1.1 c6), (Sl a7 r2.1.2 c8)] [] []] := H
   clear hle
   replace H : Hp S0 σ0 σ51 [Ch.own n0 n0 (Sl a23 r20.1.1 c24) r20.1.1, Ch.own n0 n0 (Sl a26 r20.1.2 c27) r20.1.2, Ch.own n0 n0 (Sl a37 r34.1.1 c38) r34.1.1, Ch.own n0 n0 (Sl a39 r34.1.2 c40) r34.1.2, Ch.bx n0 b42 0 [(Sl a37 r34.1.1 c38), (Sl a39 r34.1.2 c40)] [] [], Ch.own n0 n0 (Sl a5 r2.1.1 c6) r2.1.1, Ch.own n0 n0 (Sl a7 r2.1.2 c8) r2.1.2, Ch.own n0 n0 (Sl a9 r2.2.1.2.2.1 c10) r2.2.1.2.2.1, Ch.bx n0 b29 0 [(Sl a23 r20.1.1 c24), (Sl a26 r20.1.2 c27)] [] [], Ch.bx n0 b14 0 [(I r2.2.1.1), (I r2.2.1.2.1), (Sl a9 r2.2.1.2.2.1 c10), (I r2.2.1.2.2.2)] [] [], Ch.bx n0 b12 0 [(Sl a5 r2.1.1 c6), (Sl a7 r2.1.2 c8)] [] []] := H
   refine st (v := (B (!r48))) (rv_not rfl) ?_
   refine st (v := (B (!r48))) (rv_move rfl) ?_
   rcases Bool.eq_false_or_eq_true (!r48) with hb52 | hb52
   ·replace h := bif_t hb52 h
    refine st_skip (congrArg some hb52) ?_
    refine st_skip (congrArg some hb52) ?_
    refine st_skip (congrArg some hb52) ?_
    refine st (v := (B true)) (rv_pick_t (congrArg B hb52) rfl) ?_
    refine st (v := (B true)) (rv_move rfl) ?_
    refine st_skip rfl ?_
    refine st_skip rfl ?_
    refine st (v := (B true)) (rv_pick_t rfl rfl) ?_
    refine st (v := (B true)) (rv_move rfl) ?_
    refine st_skip rfl ?_
    refine st_skip rfl ?_
    refine st_skip rfl ?_
    refine st_skip rfl ?_
    refine st (v := (B true)) (rv_pick_t rfl rfl) ?_
    refine w_end ?_
    obtain rfl := Option.some.inj h
    exact ⟨rfl, _, σ51, fr_join ⟨rfl, rfl, rfl, rfl, rfl, rfl, rfl, trivial⟩, rfl, H.sel' [5, 6, 10, 7, 9, 0, 1, 8, 2, 3, 4] rfl rfl⟩
   ·replace h := bif_f hb52 h
    refine st_g (v := (B r20.2)) (congrArg some hb52) (rv_move rfl) ?_
    refine st_g (v := (B r34.2)) (congrArg some hb52) (rv_move rfl) ?_
    refine st_g (v := (B (r20.2 != r34.2))) (congrArg some hb52) (rv_bneq Try.underlying4 rfl rfl) ?_
    refine st (v := (B (r20.2 != r34.2))) (rv_pick_f (congrArg B hb52) rfl) ?_
    refine st (v := (B (r20.2 != r34.2))) (rv_move rfl) ?_
    rcases Bool.eq_false_or_eq_true (r20.2 != r34.2) with hb53 | hb53
    ·replace h := bif_t hb53 h
     refine st_skip (congrArg some hb53) ?_
     refine st_skip (congrArg some hb53) ?_
     refine st (v := (B true)) (rv_pick_t (congrArg B hb53) rfl) ?_
     refine st (v := (B true)) (rv_move rfl) ?_
     refine st_skip rfl ?_
     refine st_skip rfl ?_
     refine st_skip rfl ?_
     refine st_skip rfl ?_
     refine st (v := (B true)) (rv_pick_t rfl rfl) ?_
     refine w_end ?_
     obtain rfl := Option.some.inj h
     exact ⟨rfl, _, σ51, fr_join ⟨rfl, rfl, rfl, rfl, rfl, rfl, rfl, trivial⟩, rfl, H.sel' [5, 6, 10, 7, 9, 0, 1, 8, 2, 3, 4] rfl rfl⟩
    ·replace h := bif_f hb53 h
     refine st_g (v := (B r20.2)) (congrArg some hb53) (rv_move rfl) ?_
     refine st_g (v := (B (!r20.2))) (congrArg some hb53) (rv_not rfl) ?_
     refine st (v := (B (!r20.2))) (rv_pick_f (congrArg B hb53) rfl) ?_
     refine st (v := (B (!r20.2))) (rv_move rfl) ?_
     rcases Bool.eq_false_or_eq_true (!r20.2) with hb54 | hb54
     ·replace h := bif_t hb54 h
      refine st_skip (congrArg some hb54) ?_
      refine st_skip (congrArg some hb54) ?_
      refine st_skip (congrArg some hb54) ?_
      refine st_skip (congrArg some hb54) ?_
      refine st (v := (B true)) (rv_pick_t (congrArg B hb54) rfl) ?_
      refine w_end ?_
      obtain rfl := Option.some.inj h
      exact ⟨rfl, _, σ51, fr_join ⟨rfl, rfl, rfl, rfl, rfl, rfl, rfl, trivial⟩, rfl, H.sel' [5, 6, 10, 7, 9, 0, 1, 8, 2, 3, 4] rfl rfl⟩
     ·replace h := bif_f hb54 h
      refine st_g (v := (pt b12 1)) (congrArg some hb54) (rv_fieldAddr (off := 1) (ft := 24) Try.underlying26 rfl ti24 rfl rfl) ?_
      have hc55 := H.cell (u := (Sl a7 r2.1.2 c8)) (o' := 1) 10 1 rfl rfl rfl
      refine st_g (v := (Sl a7 r2.1.2 c8)) (congrArg some hb54) (rv_load1 Try.underlying24 rfl rfl hc55) ?_
      refine st_g (v := (I (r2.1.2.length : Int))) (congrArg some hb54) (rv_len Try.underlying24 rfl) ?_
      refine st_g (v := (B ((r2.1.2.length : Int) == 0))) (congrArg some hb54) (rv_eql (a := (r2.1.2.length : Int)) (b := 0) rfl rfl) ?_
      refine st (v := (B ((r2.1.2.length : Int) == 0))) (rv_pick_f (congrArg B hb54) rfl) ?_
      refine w_end ?_
      obtain rfl := Option.some.inj h
      exact ⟨rfl, _, σ51, fr_join ⟨rfl, rfl, rfl, rfl, rfl, rfl, rfl, trivial⟩, rfl, H.sel' [5, 6, 10, 7, 9, 0, 1, 8, 2, 3, 4] rfl rfl⟩
  ·clear hj
   have h := h'
   clear h' H
   rintro e a w ⟨rfl, ρ, σ56, rfl, rfl, H⟩
   refine q_then ?_
   refine cd_cond o45 rfl (fun hb57 => ?_) (fun hb57 => ?_)
   ·replace h := bif_t hb57 h
    refine c_seq ?_
    refine rg ?_
    have hc58 := H.cells 7 rfl
    refine st (v := (.agg #[(Sl a23 r20.1.1 c24), (Sl a26 r20.1.2 c27)])) (rv_load (cs := [(Sl a23 r20.1.1 c24), (Sl a26 r20.1.2 c27)]) Try.underlying26 rfl ti26 rfl rfl hc58) ?_
    have hc59 := H.cells 10 rfl
    refine st (v := (.agg #[(Sl a37 r34.1.1 c38), (Sl a39 r34.1.2 c40)])) (rv_load (cs := [(Sl a37 r34.1.1 c38), (Sl a39 r34.1.2 c40)]) Try.underlying26 rfl ti26 rfl rfl hc59) ?_
    obtain ⟨σ60, hw61, H, -⟩ := H.pub 5 rfl (Nat.le_refl _)
    rw [← hw61]; clear hw61
    obtain ⟨σ62, hw63, H, -⟩ := H.pub 6 rfl (Nat.le_refl _)
    rw [← hw63]; clear hw63
    obtain ⟨σ64, hw65, H, -⟩ := H.pub 8 rfl (Nat.le_refl _)
    rw [← hw65]; clear hw65
    obtain ⟨σ66, hw67, H, -⟩ := H.pub 9 rfl (Nat.le_refl _)
    rw [← hw67]; clear hw67
    replace H := H.roLow 3 0 rfl (Nat.zero_le _)
    replace H := H.roLow 3 0 rfl (Nat.zero_le _)
    replace H := H.roLow 3 0 rfl (Nat.zero_le _)
    replace H := H.roLow 3 0 rfl (Nat.zero_le _)
    obtain ⟨r68, hx69, h'⟩ := bind_some h
    clear h
    have h := h'; clear h'
    have hc70 := c_laws_equalHistory (aa_0_0 := a23) (ca_0_0 := c24) (aa_0_1 := a26) (ca_0_1 := c27) (ab_1_0 := a37) (cb_1_0 := c38) (ab_1_1 := a39) (cb_1_1 := c40) hx69
    refine st_call (cx_call hc70 (ent_f hc70.fn rfl) hn0 (show Hp S0 σ0 _ ([Ch.ro 0 (Sl a23 r20.1.1 c24) r20.1.1, Ch.ro 0 (Sl a26 r20.1.2 c27) r20.1.2, Ch.ro 0 (Sl a37 r34.1.1 c38) r34.1.1, Ch.ro 0 (Sl a39 r34.1.2 c40) r34.1.2] ++ [Ch.ro 0 (Sl a39 r34.1.2 c40) r34.1.2, Ch.ro 0 (Sl a37 r34.1.1 c38) r34.1.1, Ch.ro 0 (Sl a26 r20.1.2 c27) r20.1.2, Ch.ro 0 (Sl a23 r20.1.1 c24) r20.1.1, Ch.ro n0 (Sl a39 r34.1.2 c40) r34.1.2, Ch.ro n0 (Sl a37 r34.1.1 c38) r34.1.1, Ch.ro n0 (Sl a26 r20.1.2 c27) r20.1.2, Ch.ro n0 (Sl a23 r20.1.1 c24) r20.1.1, Ch.own n0 n0 (Sl a5 r2.1.1 c6) r2.1.1, Ch.own n0 n0 (Sl a7 r2.1.2 c8) r2.1.2, Ch.bx n0 b12 0 [(Sl a5 r2.1.1 c6), (Sl a7 r2.1.2 c8)] [] [], Ch.own n0 n0 (Sl a9 r2.2.1.2.2.1 c10) r2.2.1.2.2.1, Ch.bx n0 b14 0 [(I r2.2.1.1), (I r2.2.1.2.1), (Sl a9 r2.2.1.2.2.1 c10), (I r2.2.1.2.2.2)] [] [], Ch.bx n0 b29 0 [(Sl a23 r20.1.1 c24), (Sl a26 r20.1.2 c27)] [] [], Ch.bx n0 b42 0 [(Sl a37 r34.1.1 c38), (Sl a39 r34.1.2 c40)] [] []]) from (H.sel' [3, 2, 1, 0, 0, 1, 2, 3, 4, 5, 6, 7, 8, 9, 10, 11, 12, 13, 14] rfl rfl))) wn ?_
    rintro _ σ71 ⟨_, ⟨rfl, rfl⟩, H, -⟩
    replace H : Hp S0 σ0 σ71 [Ch.ro 0 (Sl a39 r34.1.2 c40) r34.1.2, Ch.ro 0 (Sl a37 r34.1.1 c38) r34.1.1, Ch.ro 0 (Sl a26 r20.1.2 c27) r20.1.2, Ch.ro 0 (Sl a23 r20.1.1 c24) r20.1.1, Ch.ro n0 (Sl a39 r34.1.2 c40) r34.1.2, Ch.ro n0 (Sl a37 r34.1.1 c38) r34.1.1, Ch.ro n0 (Sl a26 r20.1.2 c27) r20.1.2, Ch.ro n0 (Sl a23 r20.1.1 c24) r20.1.1, Ch.own n0 n0 (Sl a5 r2.1.1 c6) r2.1.1, Ch.own n0 n0 (Sl a7 r2.1.2 c8) r2.1.2, Ch.bx n0 b12 0 [(Sl a5 r2.1.1 c6), (Sl a7 r2.1.2 c8)] [] [], Ch.own n0 n0 (Sl a9 r2.2.1.2.2.1 c10) r2.2.1.2.2.1, Ch.bx n0 b14 0 [(I r2.2.1.1), (I r2.2.1.2.1), (Sl a9 r2.2.1.2.2.1 c10), (I r2.2.1.2.2.2)] [] [], Ch.bx n0 b29 0 [(Sl a23 r20.1.1 c24), (Sl a26 r20.1.2 c27)] [] [], Ch.bx n0 b42 0 [(Sl a37 r34.1.1 c38), (Sl a39 r34.1.2 c40)] [] []] := H
    replace H : Hp S0 σ0 σ71 [] := H.sel' [] rfl rfl
    refine st (v := (B r68)) (rv_move rfl) ?_
    rcases Bool.eq_false_or_eq_true r68 with hb72 | hb72
    ·replace h := bif_t hb72 h
     refine st_g (v := (B r20.2)) (congrArg some hb72) (rv_move rfl) ?_
     refine st_g (v := (B r34.2)) (congrArg some hb72) (rv_move rfl) ?_
     refine st_g (v := (B (r20.2 == r34.2))) (congrArg some hb72) (rv_beql Try.underlying4 rfl rfl) ?_
     refine st (v := (B (r20.2 == r34.2))) (rv_pick_t (congrArg B hb72) rfl) ?_
     refine st (v := (B (r20.2 == r34.2))) (rv_assign rfl) ?_
     refine w_end ?_
     refine q_then ?_
     refine c_ret ?_
     refine q_then_r ?_
     obtain rfl := Option.some.inj h
     exact fin_ret (v := (B (r20.2 == r34.2))) (results_ok Try.results13 (res_tmp (v := (B (r20.2 == r34.2))) rfl res_nil) rfl) ⟨rfl, rfl⟩ (H.sel' [] rfl rfl)
    ·replace h := bif_f hb72 h
     refine st_skip (congrArg some hb72) ?_
     refine st_skip (congrArg some hb72) ?_
     refine st_skip (congrArg some hb72) ?_
     refine st (v := (B false)) (rv_pick_f (congrArg B hb72) rfl) ?_
     refine st (v := (B false)) (rv_assign rfl) ?_
     refine w_end ?_
     refine q_then ?_
     refine c_ret ?_
     refine q_then_r ?_
     obtain rfl := Option.some.inj h
     exact fin_ret (v := (B false)) (results_ok Try.results13 (res_tmp (v := (B false)) rfl res_nil) rfl) ⟨rfl, rfl⟩ (H.sel' [] rfl rfl)
   ·replace h := bif_f hb57 h
    refine c_skip ?_
    refine q_then ?_
    refine c_seq ?_
    refine rg ?_
    refine st (v := (pt b12 1)) (rv_fieldAddr (off := 1) (ft := 24) Try.underlying26 rfl ti24 rfl rfl) ?_
    have hc73 := H.cell (u := (Sl a7 r2.1.2 c8)) (o' := 1) 2 1 rfl rfl rfl
    refine st (v := (Sl a7 r2.1.2 c8)) (rv_load1 Try.underlying24 rfl rfl hc73) ?_
    refine st (v := (pt b12 1)) (rv_fieldAddr (off := 1) (ft := 24) Try.underlying26 rfl ti24 rfl rfl) ?_
    have hc74 := H.cell (u := (Sl a7 r2.1.2 c8)) (o' := 1) 2 1 rfl rfl rfl
    refine st (v := (Sl a7 r2.1.2 c8)) (rv_load1 Try.underlying24 rfl rfl hc74) ?_
    refine st (v := (I (r2.1.2.length : Int))) (rv_len Try.underlying24 rfl) ?_
    refine st (v := (I (w64 ((r2.1.2.length : Int) - 1)))) (rv_sub (a := (r2.1.2.length : Int)) (b := 1) rfl rfl) ?_
    obtain ⟨x75, hx76, h'⟩ := bind_some h
    clear h
    have h := h'; clear h'
    obtain ⟨b78, o79, hi77, -⟩ := (H.own 1 rfl).ix hx76
    refine st (v := (pt b78 o79)) (rv_ix Try.underlying24 ti3 rfl rfl hi77) ?_
    have hc80 := ((H.own 1 rfl).at hx76 hi77).int
    refine st (v := (I x75)) (rv_load1 Try.underlying3 rfl rfl hc80) ?_
    refine st (v := (I x75)) (rv_assign rfl) ?_
    refine w_end ?_
    refine q_then ?_
    refine c_seq ?_
    refine rg ?_
    have hc81 := H.cells 2 rfl
    refine st (v := (.agg #[(Sl a5 r2.1.1 c6), (Sl a7 r2.1.2 c8)])) (rv_load (cs := [(Sl a5 r2.1.1 c6), (Sl a7 r2.1.2 c8)]) Try.underlying26 rfl ti26 rfl rfl hc81) ?_
    have hc82 := H.cells 4 rfl
    refine st (v := (.agg #[(I r2.2.1.1), (I r2.2.1.2.1), (Sl a9 r2.2.1.2.2.1 c10), (I r2.2.1.2.2.2)])) (rv_load (cs := [(I r2.2.1.1), (I r2.2.1.2.1), (Sl a9 r2.2.1.2.2.1 c10), (I r2.2.1.2.2.2)]) Try.underlying43 rfl ti43 rfl rfl hc82) ?_
    refine st (v := (I x75)) (rv_move rfl) ?_
    refine st (v := (I (w64 (x75 - 1)))) (rv_sub (a := x75) (b := 1) rfl rfl) ?_
    obtain ⟨r83, hx84, h'⟩ := bind_some h
    clear h
    have h := h'; clear h'
    have hc85 := c_impl_AddEntry (ah_0_0 := a5) (ch_0_0 := c6) (ah_0_1 := a7) (ch_0_1 := c8) (ae_1_1_1 := a9) (ce_1_1_1 := c10) hx84
    have hle := Nat.le_trans hn0 H.size
    refine st_call (cx_lend (Loan.lend (Loan.lend (Loan.lend Loan.nil))) hc85 (ent_f hc85.fn rfl) (show Hp S0 σ0 _ ([Ch.own n0 n0 (Sl a5 r2.1.1 c6) r2.1.1, Ch.own n0 n0 (Sl a7 r2.1.2 c8) r2.1.2, Ch.own n0 n0 (Sl a9 r2.2.1.2.2.1 c10) r2.2.1.2.2.1] ++ ([] ++ [Ch.bx n0 b12 0 [(Sl a5 r2.1.1 c6), (Sl a7 r2.1.2 c8)] [] [], Ch.bx n0 b14 0 [(I r2.2.1.1), (I r2.2.1.2.1), (Sl a9 r2.2.1.2.2.1 c10), (I r2.2.1.2.2.2)] [] [], Ch.own n0 n0 (Sl a23 r20.1.1 c24) r20.1.1, Ch.own n0 n0 (Sl a26 r20.1.2 c27) r20.1.2, Ch.bx n0 b29 0 [(Sl a23 r20.1.1 c24), (Sl a26 r20.1.2 c27)] [] [], Ch.own n0 n0 (Sl a37 r34.1.1 c38) r34.1.1, Ch.own n0 n0 (Sl a39 r34.1.2 c40) r34.1.2, Ch.bx n0 b42 0 [(Sl a37 r34.1.1 c38), (Sl a39 r34.1.2 c40)] [] []])) from (H.sel' [0, 1, 3, 2, 4, 5, 6, 7, 8, 9, 10] rfl rfl)) (by rintro _ _ _ ⟨_, _, _, _, rfl, rfl, _⟩; exact ⟨Ab.own (Nat.le_refl _), Ab.ownSc, trivial⟩)) wn ?_
    rintro _ σ91 ⟨_, ⟨a86, c87, a89, c90, rfl, rfl, ht88⟩, H, -, -⟩
    replace H : Hp S0 σ0 σ91 [Ch.own σ56.size σ56.size (Sl a86 r83.1.1 c87) r83.1.1, Ch.own σ56.size σ56.size (Sl a89 r83.1.2 c90) r83.1.2, Ch.own n0 n0 (Sl a5 r2.1.1 c6) r2.1.1, Ch.own n0 n0 (Sl a7 r2.1.2 c8) r2.1.2, Ch.own n0 n0 (Sl a9 r2.2.1.2.2.1 c10) r2.2.1.2.2.1, Ch.bx n0 b12 0 [(Sl a5 r2.1.1 c6), (Sl a7 r2.1.2 c8)] [] [], Ch.bx n0 b14 0 [(I r2.2.1.1), (I r2.2.1.2.1), (Sl a9 r2.2.1.2.2.1 c10), (I r2.2.1.2.2.2)] [] [], Ch.own n0 n0 (Sl a23 r20.1.1 c24) r20.1.1, Ch.own n0 n0 (Sl a26 r20.1.2 c27) r20.1.2, Ch.bx n0 b29 0 [(Sl a23 r20.1.1 c24), (Sl a26 r20.1.2 c27)] [] [], Ch.own n0 n0 (Sl a37 r34.1.1 c38) r34.1.1, Ch.own n0 n0 (Sl a39 r34.1.2 c40) r34.1.2, Ch.bx n0 b42 0 [(Sl a37 r34.1.1 c38), (Sl a39 r34.1.2 c40)] [] []] := H
    replace H := H.ownLow 0 n0 n0 rfl hle hle
    replace H := H.ownLow 1 n0 n0 rfl hle hle
    clear hle
    replace H : Hp S0 σ0 σ91 [Ch.own n0 n0 (Sl a89 r83.1.2 c90) r83.1.2, Ch.own n0 n0 (Sl a86 r83.1.1 c87) r83.1.1, Ch.own n0 n0 (Sl a5 r2.1.1 c6) r2.1.1, Ch.own n0 n0 (Sl a7 r2.1.2 c8) r2.1.2, Ch.own n0 n0 (Sl a9 r2.2.1.2.2.1 c10) r2.2.1.2.2.1, Ch.bx n0 b12 0 [(Sl a5 r2.1.1 c6), (Sl a7 r2.1.2 c8)] [] [], Ch.bx n0 b14 0 [(I r2.2.1.1), (I r2.2.1.2.1), (Sl a9 r2.2.1.2.2.1 c10), (I r2.2.1.2.2.2)] [] [], Ch.own n0 n0 (Sl a23 r20.1.1 c24) r20.1.1, Ch.own n0 n0 (Sl a26 r20.1.2 c27) r20.1.2, Ch.bx n0 b29 0 [(Sl a23 r20.1.1 c24), (Sl a26 r20.1.2 c27)] [] [], Ch.own n0 n0 (Sl a37 r34.1.1 c38) r34.1.1, Ch.own n0 n0 (Sl a39 r34.1.2 c40) r34.1.2, Ch.bx n0 b42 0 [(Sl a37 r34.1.1 c38), (Sl a39 r34.1.2 c40)] [] []] := H
    replace H : Hp S0 σ0 σ91 [Ch.own n0 n0 (Sl a89 r83.1.2 c90) r83.1.2, Ch.own n0 n0 (Sl a86 r83.1.1 c87) r83.1.1, Ch.own n0 n0 (Sl a5 r2.1.1 c6) r2.1.1, Ch.own n0 n0 (Sl a7 r2.1.2 c8) r2.1.2, Ch.own n0 n0 (Sl a9 r2.2.1.2.2.1 c10) r2.2.1.2.2.1, Ch.bx n0 b12 0 [(Sl a5 r2.1.1 c6), (Sl a7 r2.1.2 c8)] [] [], Ch.bx n0 b14 0 [(I r2.2.1.1), (I r2.2.1.2.1), (Sl a9 r2.2.1.2.2.1 c10), (I r2.2.1.2.2.2)] [] [], Ch.own n0 n0 (Sl a23 r20.1.1 c24) r20.1.1, Ch.own n0 n0 (Sl a26 r20.1.2 c27) r20.1.2, Ch.bx n0 b29 0 [(Sl a23 r20.1.1 c24), (Sl a26 r20.1.2 c27)] [] []] := H.sel' [0, 1, 2, 3, 4, 5, 6, 7, 8, 9] rfl rfl
    refine st (v := (.tuple #[(.agg #[(Sl a86 r83.1.1 c87), (Sl a89 r83.1.2 c90)]), (B r83.2)])) (rv_move rfl) ?_
    refine st (v := (.agg #[(Sl a86 r83.1.1 c87), (Sl a89 r83.1.2 c90)])) (rv_extract rfl rfl) ?_
    refine st (v := (B r83.2)) (rv_extract rfl rfl) ?_
    refine st_ex (ex_alloc (cs := [(.slice none 0 0), (.slice none 0 0)]) H hn0 ti26 rfl) wn ?_
    rintro _ σ93 ⟨b92, rfl, H, -⟩
    refine st_exS (ex_store_box (k := 0) (cs := [(.slice none 0 0), (.slice none 0 0)]) (vs := [(Sl a86 r83.1.1 c87), (Sl a89 r83.1.2 c90)]) (cs' := [(Sl a86 r83.1.1 c87), (Sl a89 r83.1.2 c90)]) H (i := 0) rfl ti26 rfl rfl rfl rfl rfl (Nat.le_of_ble_eq_true rfl) (by simp [plain]) rfl) wn ?_
    rintro σ94 ⟨H, -⟩
    replace H : Hp S0 σ0 σ94 [Ch.own n0 n0 (Sl a5 r2.1.1 c6) r2.1.1, Ch.own n0 n0 (Sl a7 r2.1.2 c8) r2.1.2, Ch.own n0 n0 (Sl a9 r2.2.1.2.2.1 c10) r2.2.1.2.2.1, Ch.bx n0 b12 0 [(Sl a5 r2.1.1 c6), (Sl a7 r2.1.2 c8)] [] [], Ch.bx n0 b14 0 [(I r2.2.1.1), (I r2.2.1.2.1), (Sl a9 r2.2.1.2.2.1 c10), (I r2.2.1.2.2.2)] [] [], Ch.own n0 n0 (Sl a23 r20.1.1 c24) r20.1.1, Ch.own n0 n0 (Sl a26 r20.1.2 c27) r20.1.2, Ch.bx n0 b29 0 [(Sl a23 r20.1.1 c24), (Sl a26 r20.1.2 c27)] [] []] := H.sel' [3, 4, 5, 6, 7, 8, 9, 10] rfl rfl
    refine st (v := (B r83.2)) (rv_assign rfl) ?_
    refine w_end ?_
    refine q_then ?_
    refine c_seq ?_
    refine rg ?_
    have hc95 := H.cells 3 rfl
    refine st (v := (.agg #[(Sl a5 r2.1.1 c6), (Sl a7 r2.1.2 c8)])) (rv_load (cs := [(Sl a5 r2.1.1 c6), (Sl a7 r2.1.2 c8)]) Try.underlying26 rfl ti26 rfl rfl hc95) ?_
    have hc96 := H.cells 4 rfl
    refine st (v := (.agg #[(I r2.2.1.1), (I r2.2.1.2.1), (Sl a9 r2.2.1.2.2.1 c10), (I r2.2.1.2.2.2)])) (rv_load (cs := [(I r2.2.1.1), (I r2.2.1.2.1), (Sl a9 r2.2.1.2.2.1 c10), (I r2.2.1.2.2.2)]) Try.underlying43 rfl ti43 rfl rfl hc96) ?_
    refine st (v := (I x75)) (rv_move rfl) ?_
    obtain ⟨σ97, hw98, H, -⟩ := H.pub 2 rfl (Nat.le_refl _)
    rw [← hw98]; clear hw98
    replace H := H.roLow 0 0 rfl (Nat.zero_le _)
    obtain ⟨r99, hx100, h'⟩ := bind_some h
    clear h
    have h := h'; clear h'
    have hc101 := c_impl_AddEntry (ah_0_0 := a5) (ch_0_0 := c6) (ah_0_1 := a7) (ch_0_1 := c8) (ae_1_1_1 := a9) (ce_1_1_1 := c10) hx100
    have hle := Nat.le_trans hn0 H.size
    refine st_call (cx_lend (Loan.lend (Loan.lend (Loan.same Loan.nil))) hc101 (ent_f hc101.fn rfl) (show Hp S0 σ0 _ ([Ch.own n0 n0 (Sl a5 r2.1.1 c6) r2.1.1, Ch.own n0 n0 (Sl a7 r2.1.2 c8) r2.1.2] ++ ([Ch.ro 0 (Sl a9 r2.2.1.2.2.1 c10) r2.2.1.2.2.1] ++ [Ch.ro 0 (Sl a9 r2.2.1.2.2.1 c10) r2.2.1.2.2.1, Ch.ro n0 (Sl a9 r2.2.1.2.2.1 c10) r2.2.1.2.2.1, Ch.bx n0 b12 0 [(Sl a5 r2.1.1 c6), (Sl a7 r2.1.2 c8)] [] [], Ch.bx n0 b14 0 [(I r2.2.1.1), (I r2.2.1.2.1), (Sl a9 r2.2.1.2.2.1 c10), (I r2.2.1.2.2.2)] [] [], Ch.own n0 n0 (Sl a23 r20.1.1 c24) r20.1.1, Ch.own n0 n0 (Sl a26 r20.1.2 c27) r20.1.2, Ch.bx n0 b29 0 [(Sl a23 r20.1.1 c24), (Sl a26 r20.1.2 c27)] [] []])) from (H.sel' [2, 3, 0, 0, 1, 4, 5, 6, 7, 8] rfl rfl)) (by rintro _ _ _ ⟨_, _, _, _, rfl, rfl, _⟩; exact ⟨Ab.own (Nat.le_refl _), Ab.ownSc, trivial⟩)) wn ?_
    rintro _ σ107 ⟨_, ⟨a102, c103, a105, c106, rfl, rfl, ht104⟩, H, -, -⟩
    replace H : Hp S0 σ0 σ107 [Ch.own σ97.size σ97.size (Sl a102 r99.1.1 c103) r99.1.1, Ch.own σ97.size σ97.size (Sl a105 r99.1.2 c106) r99.1.2, Ch.own n0 n0 (Sl a5 r2.1.1 c6) r2.1.1, Ch.own n0 n0 (Sl a7 r2.1.2 c8) r2.1.2, Ch.ro 0 (Sl a9 r2.2.1.2.2.1 c10) r2.2.1.2.2.1, Ch.ro n0 (Sl a9 r2.2.1.2.2.1 c10) r2.2.1.2.2.1, Ch.bx n0 b12 0 [(Sl a5 r2.1.1 c6), (Sl a7 r2.1.2 c8)] [] [], Ch.bx n0 b14 0 [(I r2.2.1.1), (I r2.2.1.2.1), (Sl a9 r2.2.1.2.2.1 c10), (I r2.2.1.2.2.2)] [] [], Ch.own n0 n0 (Sl a23 r20.1.1 c24) r20.1.1, Ch.own n0 n0 (Sl a26 r20.1.2 c27) r20.1.2, Ch.bx n0 b29 0 [(Sl a23 r20.1.1 c24), (Sl a26 r20.1.2 c27)] [] []] := H
    replace H := H.ownLow 0 n0 n0 rfl hle hle
    replace H := H.ownLow 1 n0 n0 rfl hle hle
    clear hle
    replace H : Hp S0 σ0 σ107 [Ch.own n0 n0 (Sl a105 r99.1.2 c106) r99.1.2, Ch.own n0 n0 (Sl a102 r99.1.1 c103) r99.1.1, Ch.own n0 n0 (Sl a5 r2.1.1 c6) r2.1.1, Ch.own n0 n0 (Sl a7 r2.1.2 c8) r2.1.2, Ch.ro 0 (Sl a9 r2.2.1.2.2.1 c10) r2.2.1.2.2.1, Ch.ro n0 (Sl a9 r2.2.1.2.2.1 c10) r2.2.1.2.2.1, Ch.bx n0 b12 0 [(Sl a5 r2.1.1 c6), (Sl a7 r2.1.2 c8)] [] [], Ch.bx n0 b14 0 [(I r2.2.1.1), (I r2.2.1.2.1), (Sl a9 r2.2.1.2.2.1 c10), (I r2.2.1.2.2.2)] [] [], Ch.own n0 n0 (Sl a23 r20.1.1 c24) r20.1.1, Ch.own n0 n0 (Sl a26 r20.1.2 c27) r20.1.2, Ch.bx n0 b29 0 [(Sl a23 r20.1.1 c24), (Sl a26 r20.1.2 c27)] [] []] := H
    replace H : Hp S0 σ0 σ107 [Ch.own n0 n0 (Sl a105 r99.1.2 c106) r99.1.2, Ch.own n0 n0 (Sl a102 r99.1.1 c103) r99.1.1, Ch.own n0 n0 (Sl a5 r2.1.1 c6) r2.1.1, Ch.own n0 n0 (Sl a7 r2.1.2 c8) r2.1.2, Ch.bx n0 b12 0 [(Sl a5 r2.1.1 c6), (Sl a7 r2.1.2 c8)] [] [], Ch.own n0 n0 (Sl a23 r20.1.1 c24) r20.1.1, Ch.own n0 n0 (Sl a26 r20.1.2 c27) r20.1.2, Ch.bx n0 b29 0 [(Sl a23 r20.1.1 c24), (Sl a26 r20.1.2 c27)] [] []] := H.sel' [0, 1, 2, 3, 6, 8, 9, 10] rfl rfl
    refine st (v := (.tuple #[(.agg #[(Sl a102 r99.1.1 c103), (Sl a105 r99.1.2 c106)]), (B r99.2)])) (rv_move rfl) ?_
    refine st (v := (.agg #[(Sl a102 r99.1.1 c103), (Sl a105 r99.1.2 c106)])) (rv_extract rfl rfl) ?_
    refine st (v := (B r99.2)) (rv_extract rfl rfl) ?_
    refine st_ex (ex_alloc (cs := [(.slice none 0 0), (.slice none 0 0)]) H hn0 ti26 rfl) wn ?_
    rintro _ σ109 ⟨b108, rfl, H, -⟩
    refine st_exS (ex_store_box (k := 0) (cs := [(.slice none 0 0), (.slice none 0 0)]) (vs := [(Sl a102 r99.1.1 c103), (Sl a105 r99.1.2 c106)]) (cs' := [(Sl a102 r99.1.1 c103), (Sl a105 r99.1.2 c106)]) H (i := 0) rfl ti26 rfl rfl rfl rfl rfl (Nat.le_of_ble_eq_true rfl) (by simp [plain]) rfl) wn ?_
    rintro σ110 ⟨H, -⟩
    replace H : Hp S0 σ0 σ110 [Ch.own n0 n0 (Sl a5 r2.1.1 c6) r2.1.1, Ch.own n0 n0 (Sl a7 r2.1.2 c8) r2.1.2, Ch.bx n0 b12 0 [(Sl a5 r2.1.1 c6), (Sl a7 r2.1.2 c8)] [] [], Ch.own n0 n0 (Sl a23 r20.1.1 c24) r20.1.1, Ch.own n0 n0 (Sl a26 r20.1.2 c27) r20.1.2, Ch.bx n0 b29 0 [(Sl a23 r20.1.1 c24), (Sl a26 r20.1.2 c27)] [] []] := H.sel' [3, 4, 5, 6, 7, 8] rfl rfl
    refine st (v := (B r99.2)) (rv_assign rfl) ?_
    refine w_end ?_
    refine q_then ?_
    refine c_seq ?_
    refine rg ?_
    refine st (v := (B r83.2)) (rv_move rfl) ?_
    refine st (v := (B (!r83.2))) (rv_not rfl) ?_
    refine st (v := (B (!r83.2))) (rv_move rfl) ?_
    rcases Bool.eq_false_or_eq_true (!r83.2) with hb111 | hb111
    ·replace h := bif_t hb111 h
     refine st_g (v := (B r99.2)) (congrArg some hb111) (rv_move rfl) ?_
     refine st (v := (B r99.2)) (rv_pick_t (congrArg B hb111) rfl) ?_
     refine st (v := (B r99.2)) (rv_move rfl) ?_
     rcases Bool.eq_false_or_eq_true r99.2 with hb112 | hb112
     ·replace h := bif_t hb112 h
      refine st_g (v := (pt b29 0)) (congrArg some hb112) (rv_fieldAddr (off := 0) (ft := 23) Try.underlying26 rfl ti23 rfl rfl) ?_
      have hc113 := H.cell (u := (Sl a23 r20.1.1 c24)) (o' := 0) 5 0 rfl rfl rfl
      refine st_g (v := (Sl a23 r20.1.1 c24)) (congrArg some hb112) (rv_load1 Try.underlying23 rfl rfl hc113) ?_
      refine st_g (v := (I (r20.1.1.length : Int))) (congrArg some hb112) (rv_len Try.underlying23 rfl) ?_
      refine st_g (v := (pt b12 0)) (congrArg some hb112) (rv_fieldAddr (off := 0) (ft := 23) Try.underlying26 rfl ti23 rfl rfl) ?_
      have hc114 := H.cell (u := (Sl a5 r2.1.1 c6)) (o' := 0) 2 0 rfl rfl rfl
      refine st_g (v := (Sl a5 r2.1.1 c6)) (congrArg some hb112) (rv_load1 Try.underlying23 rfl rfl hc114) ?_
      refine st_g (v := (I (r2.1.1.length : Int))) (congrArg some hb112) (rv_len Try.underlying23 rfl) ?_
      refine st_g (v := (I (w64 ((r2.1.1.length : Int) + 1)))) (congrArg some hb112) (rv_add (a := (r2.1.1.length : Int)) (b := 1) rfl rfl) ?_
      refine st_g (v := (B ((r20.1.1.length : Int) == (w64 ((r2.1.1.length : Int) + 1))))) (congrArg some hb112) (rv_eql (a := (r20.1.1.length : Int)) (b := (w64 ((r2.1.1.length : Int) + 1))) rfl rfl) ?_
      refine st (v := (B ((r20.1.1.length : Int) == (w64 ((r2.1.1.length : Int) + 1))))) (rv_pick_t (congrArg B hb112) rfl) ?_
      refine st (v := (B ((r20.1.1.length : Int) == (w64 ((r2.1.1.length : Int) + 1))))) (rv_assign rfl) ?_
      refine w_end ?_
      refine q_then ?_
      refine c_ret ?_
      obtain rfl := Option.some.inj h
      exact fin_ret (v := (B ((r20.1.1.length : Int) == (w64 ((r2.1.1.length : Int) + 1))))) (results_ok Try.results13 (res_tmp (v := (B ((r20.1.1.length : Int) == (w64 ((r2.1.1.length : Int) + 1))))) rfl res_nil) rfl) ⟨rfl, rfl⟩ (H.sel' [] rfl rfl)
     ·replace h := bif_f hb112 h
      refine st_skip (congrArg some hb112) ?_
      refine st_skip (congrArg some hb112) ?_
      refine st_skip (congrArg some hb112) ?_
      refine st_skip (congrArg some hb112) ?_
      refine st_skip (congrArg some hb112) ?_
      refine st_skip (congrArg some hb112) ?_
      refine st_skip (congrArg some hb112) ?_
      refine st_skip (congrArg some hb112) ?_
      refine st (v := (B false)) (rv_pick_f (congrArg B hb112) rfl) ?_
      refine st (v := (B false)) (rv_assign rfl) ?_
      refine w_end ?_
      refine q_then ?_
      refine c_ret ?_
      obtain rfl := Option.some.inj h
      exact fin_ret (v := (B false)) (results_ok Try.results13 (res_tmp (v := (B false)) rfl res_nil) rfl) ⟨rfl, rfl⟩ (H.sel' [] rfl rfl)
    ·replace h := bif_f hb111 h
     refine st_skip (congrArg some hb111) ?_
     refine st (v := (B false)) (rv_pick_f (congrArg B hb111) rfl) ?_
     refine st (v := (B false)) (rv_move rfl) ?_
     refine st_skip rfl ?_
     refine st_skip rfl ?_
     refine st_skip rfl ?_
     refine st_skip rfl ?_
     refine st_skip rfl ?_
     refine st_skip rfl ?_
     refine st_skip rfl ?_
     refine st_skip rfl ?_
     refine st (v := (B false)) (rv_pick_f rfl rfl) ?_
     refine st (v := (B false)) (rv_assign rfl) ?_
     refine w_end ?_
     refine q_then ?_
     refine c_ret ?_
     obtain rfl := Option.some.inj h
     exact fin_ret (v := (B false)) (results_ok Try.results13 (res_tmp (v := (B false)) rfl res_nil) rfl) ⟨rfl, rfl⟩ (H.sel' [] rfl rfl)

end Go.Vs
