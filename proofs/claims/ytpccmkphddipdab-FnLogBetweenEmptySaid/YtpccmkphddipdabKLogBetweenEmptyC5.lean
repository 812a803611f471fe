/- The functions compute what their models say. -/
import Derived.Test.YtpccmkphddipdabKLogBetweenEmptyC4
set_option linter.unusedVariables false
set_option linter.unusedSimpArgs false
set_option maxRecDepth 20000
namespace Go.Vs
open Go Go.Proofs
attribute [local irreducible] Code.wp Code.wpIn wpList wpListIn wpQuiet Calls CallsIn

theorem c_laws_FnLogBetweenEmpty {code_0 : List UInt8} {acode_0 : Option Addr} {ccode_0 : Nat} {r : Bool} (h : M.laws_FnLogBetweenEmpty code_0 = some r) :
    Cal2 Try.prog 5 [(Sl acode_0 code_0 ccode_0)] [Ch.ro 0 (Sl acode_0 code_0 ccode_0) code_0] (fun n0 v L => v = (B r) ∧ L = []) := by
 refine cal2 (n := 111) Try.func5 rfl rfl rfl rfl ?_
 intro S0 σ0 n0 hn0 H
 unfold M.laws_FnLogBetweenEmpty at h
 refine c_seq ?_
 refine rg ?_
 refine st (v := (B false)) (rv_assign rfl) ?_
 refine w_end ?_
 refine q_then ?_
 refine c_seq ?_
 refine c_seq ?_
 refine rg ?_
 refine st (v := (Sl acode_0 code_0 ccode_0)) (rv_move rfl) ?_
 refine st (v := (I (code_0.length : Int))) (rv_len Try.underlying22 rfl) ?_
 refine st (v := (B (decide (1048576 < (code_0.length : Int))))) (rv_gtr (a := (code_0.length : Int)) (b := 1048576) rfl rfl) ?_
 refine w_end ?_
 refine q_then ?_
 refine cd_cond (decide (1048576 < (code_0.length : Int))) rfl (fun hb1 => ?_) (fun hb1 => ?_)
 ·replace h := bif_t hb1 h
  refine c_seq ?_
  refine rg ?_
  refine st (v := (B true)) (rv_assign rfl) ?_
  refine w_end ?_
  refine q_then ?_
  refine c_ret ?_
  refine q_then_r ?_
  obtain rfl := Option.some.inj h
  exact fin_ret (v := (B true)) (results_ok Try.results5 (res_tmp (v := (B true)) rfl res_nil) rfl) ⟨rfl, rfl⟩ (H.sel' [] rfl rfl)
 ·replace h := bif_f hb1 h
  refine c_skip ?_
  refine q_then ?_
  refine c_seq ?_
  refine rg ?_
  refine st (v := (Sl acode_0 code_0 ccode_0)) (rv_move rfl) ?_
  obtain ⟨r2, hx3, h'⟩ := bind_some h
  clear h
  have h := h'; clear h'
  have hc4 := c_spec_DrawLogBetween (acode_0 := acode_0) (ccode_0 := ccode_0) hx3
  refine st_call (cx_call hc4 (ent_f hc4.fn rfl) hn0 (show Hp S0 σ0 _ ([Ch.ro 0 (Sl acode_0 code_0 ccode_0) code_0] ++ [Ch.ro 0 (Sl acode_0 code_0 ccode_0) code_0]) from (H.sel' [0, 0] rfl rfl))) wn ?_
  rintro _ σ9 ⟨_, ⟨a5, c6, a7, c8, rfl, rfl⟩, H, -⟩
  replace H : Hp S0 σ0 σ9 [Ch.own n0 n0 (Sl a5 r2.1 c6) r2.1, Ch.own n0 n0 (Sl a7 r2.2 c8) r2.2, Ch.ro 0 (Sl acode_0 code_0 ccode_0) code_0] := H
  refine st (v := (.tuple #[(Sl a5 r2.1 c6), (Sl a7 r2.2 c8)])) (rv_move rfl) ?_
  refine st (v := (Sl a5 r2.1 c6)) (rv_extract rfl rfl) ?_
  refine st (v := (Sl a7 r2.2 c8)) (rv_extract rfl rfl) ?_
  refine st (v := (Sl a5 r2.1 c6)) (rv_assign rfl) ?_
  refine st (v := (Sl a7 r2.2 c8)) (rv_assign rfl) ?_
  refine w_end ?_
  refine q_then ?_
  refine c_seq ?_
  refine rg ?_
  refine st (v := (Sl a5 r2.1 c6)) (rv_move rfl) ?_
  refine st (v := (Sl a7 r2.2 c8)) (rv_move rfl) ?_
  obtain ⟨r10, hx11, h'⟩ := bind_some h
  clear h
  have h := h'; clear h'
  have hc12 := c_impl_LogBetween (aa_0 := a5) (ca_0 := c6) (ab_1 := a7) (cb_1 := c8) hx11
  have hle := Nat.le_trans hn0 H.size
  refine st_call (cx_lend (Loan.lend (Loan.lend Loan.nil)) hc12 (ent_f hc12.fn rfl) (show Hp S0 σ0 _ ([Ch.own n0 n0 (Sl a5 r2.1 c6) r2.1, Ch.own n0 n0 (Sl a7 r2.2 c8) r2.2] ++ ([] ++ [Ch.ro 0 (Sl acode_0 code_0 ccode_0) code_0])) from (H.sel' [0, 1, 2] rfl rfl)) (by rintro _ _ _ ⟨_, _, rfl, rfl⟩; exact ⟨Ab.own (Nat.le_refl _), trivial⟩)) wn ?_
  rintro _ σ15 ⟨_, ⟨a13, c14, rfl, rfl⟩, H, -, -⟩
  replace H : Hp S0 σ0 σ15 [Ch.own σ9.size σ9.size (Sl a13 r10 c14) r10, Ch.own n0 n0 (Sl a5 r2.1 c6) r2.1, Ch.own n0 n0 (Sl a7 r2.2 c8) r2.2, Ch.ro 0 (Sl acode_0 code_0 ccode_0) code_0] := H
  replace H := H.ownLow 0 n0 n0 rfl hle hle
  clear hle
  replace H : Hp S0 σ0 σ15 [Ch.own n0 n0 (Sl a13 r10 c14) r10, Ch.own n0 n0 (Sl a5 r2.1 c6) r2.1, Ch.own n0 n0 (Sl a7 r2.2 c8) r2.2, Ch.ro 0 (Sl acode_0 code_0 ccode_0) code_0] := H
  refine st (v := (Sl a13 r10 c14)) (rv_assign rfl) ?_
  refine w_end ?_
  refine q_then ?_
  refine c_seq ?_
  refine c_seq ?_
  obtain ⟨o16, hj, h'⟩ := bind_some h
  clear h
  refine c_cut (fun e a w => e = .normal ∧ ∃ (ρ : Nat → Value) (σ : St), a = fr 111 (updL ρ [(3, (Sl a5 r2.1 c6)), (4, (Sl a7 r2.2 c8)), (5, (Sl a13 r10 c14)), (30, (B o16))]) ∧ w = σ.w ∧ Hp S0 σ0 σ [Ch.own n0 n0 (Sl a5 r2.1 c6) r2.1, Ch.own n0 n0 (Sl a7 r2.2 c8) r2.2, Ch.own n0 n0 (Sl a13 r10 c14) r10]) ?_ ?_
  ·clear h'
   rename _ = some o16 => h
   refine rg ?_
   refine st (v := (Sl a13 r10 c14)) (rv_move rfl) ?_
   refine st (v := (Sl a5 r2.1 c6)) (rv_move rfl) ?_
   refine st (v := (Sl a7 r2.2 c8)) (rv_move rfl) ?_
   obtain ⟨r17, hx18, h'⟩ := bind_some h
   clear h
   have h := h'; clear h'
   have hc19 := c_spec_LogBetween (aa_0 := a5) (ca_0 := c6) (ab_1 := a7) (cb_1 := c8) hx18
   have hle := Nat.le_trans hn0 H.size
   refine st_call (cx_lend (Loan.lend (Loan.lend Loan.nil)) hc19 (ent_f hc19.fn rfl) (show Hp S0 σ0 _ ([Ch.own n0 n0 (Sl a5 r2.1 c6) r2.1, Ch.own n0 n0 (Sl a7 r2.2 c8) r2.2] ++ ([] ++ [Ch.own n0 n0 (Sl a13 r10 c14) r10, Ch.ro 0 (Sl acode_0 code_0 ccode_0) code_0])) from (H.sel' [1, 2, 0, 3] rfl rfl)) (by rintro _ _ _ ⟨_, _, rfl, rfl⟩; exact ⟨Ab.own (Nat.le_refl _), trivial⟩)) wn ?_
   rintro _ σ22 ⟨_, ⟨a20, c21, rfl, rfl⟩, H, -, -⟩
   replace H : Hp S0 σ0 σ22 [Ch.own σ15.size σ15.size (Sl a20 r17 c21) r17, Ch.own n0 n0 (Sl a5 r2.1 c6) r2.1, Ch.own n0 n0 (Sl a7 r2.2 c8) r2.2, Ch.own n0 n0 (Sl a13 r10 c14) r10, Ch.ro 0 (Sl acode_0 code_0 ccode_0) code_0] := H
   replace H := H.ownLow 0 n0 n0 rfl hle hle
   clear hle
   replace H : Hp S0 σ0 σ22 [Ch.own n0 n0 (Sl a20 r17 c21) r17, Ch.own n0 n0 (Sl a5 r2.1 c6) r2.1, Ch.own n0 n0 (Sl a7 r2.2 c8) r2.2, Ch.own n0 n0 (Sl a13 r10 c14) r10, Ch.ro 0 (Sl acode_0 code_0 ccode_0) code_0] := H
   obtain ⟨σ23, hw24, H, -⟩ := H.pub 0 rfl (Nat.le_refl _)
   rw [← hw24]; clear hw24
   replace H := H.roLow 0 0 rfl (Nat.zero_le _)
   obtain ⟨r25, hx26, h'⟩ := bind_some h
   clear h
   have h := h'; clear h'
   have hc27 := c_laws_equalEntries (aa_0 := a13) (ca_0 := c14) (ab_1 := a20) (cb_1 := c21) hx26
   have hle := Nat.le_trans hn0 H.size
   refine st_call (cx_lend (Loan.lend (Loan.same Loan.nil)) hc27 (ent_f hc27.fn rfl) (show Hp S0 σ0 _ ([Ch.own n0 n0 (Sl a13 r10 c14) r10] ++ ([Ch.ro 0 (Sl a20 r17 c21) r17] ++ [Ch.ro 0 (Sl a20 r17 c21) r17, Ch.ro n0 (Sl a20 r17 c21) r17, Ch.own n0 n0 (Sl a5 r2.1 c6) r2.1, Ch.own n0 n0 (Sl a7 r2.2 c8) r2.2, Ch.ro 0 (Sl acode_0 code_0 ccode_0) code_0])) from (H.sel' [4, 0, 0, 1, 2, 3, 5] rfl rfl)) (by rintro _ _ _ ⟨rfl, rfl⟩; exact trivial)) wn ?_
   rintro _ σ28 ⟨_, ⟨rfl, rfl⟩, H, -, -⟩
   replace H : Hp S0 σ0 σ28 [Ch.own n0 n0 (Sl a13 r10 c14) r10, Ch.ro 0 (Sl a20 r17 c21) r17, Ch.ro n0 (Sl a20 r17 c21) r17, Ch.own n0 n0 (Sl a5 r2.1 c6) r2.1, Ch.own n0 n0 (Sl a7 r2.2 c8) r2.2, Ch.ro 0 (Sl acode_0 code_0 ccode_0) code_0] := H
   clear hle
   replace H : Hp S0 σ0 σ28 [Ch.own n0 n0 (Sl a13 r10 c14) r10, Ch.ro 0 (Sl a20 r17 c21) r17, Ch.ro n0 (Sl a20 r17 c21) r17, Ch.own n0 n0 (Sl a5 r2.1 c6) r2.1, Ch.own n0 n0 (Sl a7 r2.2 c8) r2.2, Ch.ro 0 (Sl acode_0 code_0 ccode_0) code_0] := H
   refine st (v := (B (!r25))) (rv_not rfl) ?_
   refine st (v := (B (!r25))) (rv_move rfl) ?_
   rcases Bool.eq_false_or_eq_true (!r25) with hb29 | hb29
   ·replace h := bif_t hb29 h
    refine st_skip (congrArg some hb29) ?_
    refine st_skip (congrArg some hb29) ?_
    refine st_skip (congrArg some hb29) ?_
    refine st (v := (B true)) (rv_pick_t (congrArg B hb29) rfl) ?_
    refine w_end ?_
    obtain rfl := Option.some.inj h
    exact ⟨rfl, _, σ28, fr_join ⟨rfl, rfl, rfl, rfl, trivial⟩, rfl, H.sel' [3, 4, 0] rfl rfl⟩
   ·replace h := bif_f hb29 h
    refine st_g (v := (Sl a7 r2.2 c8)) (congrArg some hb29) (rv_move rfl) ?_
    obtain ⟨r30, hx31, h'⟩ := bind_some h
    clear h
    have h := h'; clear h'
    have hc32 := c_impl_ValidStore (alist_0 := a7) (clist_0 := c8) hx31
    have hle := Nat.le_trans hn0 H.size
    refine st_call (cx_lend (Loan.lend Loan.nil) hc32 (ent_f hc32.fn rfl) (show Hp S0 σ0 _ ([Ch.own n0 n0 (Sl a7 r2.2 c8) r2.2] ++ ([] ++ [Ch.own n0 n0 (Sl a13 r10 c14) r10, Ch.ro 0 (Sl a20 r17 c21) r17, Ch.ro n0 (Sl a20 r17 c21) r17, Ch.own n0 n0 (Sl a5 r2.1 c6) r2.1, Ch.ro 0 (Sl acode_0 code_0 ccode_0) code_0])) from (H.sel' [4, 0, 1, 2, 3, 5] rfl rfl)) (by rintro _ _ _ ⟨rfl, rfl⟩; exact trivial)) (wanted_yes rfl (by exact (congrArg some hb29))) ?_
    rintro _ σ33 ⟨_, ⟨rfl, rfl⟩, H, -, -⟩
    replace H : Hp S0 σ0 σ33 [Ch.own n0 n0 (Sl a7 r2.2 c8) r2.2, Ch.own n0 n0 (Sl a13 r10 c14) r10, Ch.ro 0 (Sl a20 r17 c21) r17, Ch.ro n0 (Sl a20 r17 c21) r17, Ch.own n0 n0 (Sl a5 r2.1 c6) r2.1, Ch.ro 0 (Sl acode_0 code_0 ccode_0) code_0] := H
    clear hle
    replace H : Hp S0 σ0 σ33 [Ch.own n0 n0 (Sl a7 r2.2 c8) r2.2, Ch.own n0 n0 (Sl a13 r10 c14) r10, Ch.ro 0 (Sl a20 r17 c21) r17, Ch.ro n0 (Sl a20 r17 c21) r17, Ch.own n0 n0 (Sl a5 r2.1 c6) r2.1, Ch.ro 0 (Sl acode_0 code_0 ccode_0) code_0] := H
    refine st_g (v := (B (!r30))) (congrArg some hb29) (rv_not rfl) ?_
    refine st (v := (B (!r30))) (rv_pick_f (congrArg B hb29) rfl) ?_
    refine w_end ?_
    obtain rfl := Option.some.inj h
    exact ⟨rfl, _, σ33, fr_join ⟨rfl, rfl, rfl, rfl, trivial⟩, rfl, H.sel' [4, 0, 1] rfl rfl⟩
  ·clear hj
   have h := h'
   clear h' H
   rintro e a w ⟨rfl, ρ, σ34, rfl, rfl, H⟩
   refine q_then ?_
   refine cd_cond o16 rfl (fun hb35 => ?_) (fun hb35 => ?_)
   ·replace h := bif_t hb35 h
    refine c_seq ?_
    refine rg ?_
    refine st (v := (Sl a13 r10 c14)) (rv_move rfl) ?_
    refine st (v := (Sl a5 r2.1 c6)) (rv_move rfl) ?_
    refine st (v := (Sl a7 r2.2 c8)) (rv_move rfl) ?_
    obtain ⟨σ36, hw37, H, -⟩ := H.pub 0 rfl (Nat.le_refl _)
    rw [← hw37]; clear hw37
    obtain ⟨σ38, hw39, H, -⟩ := H.pub 1 rfl (Nat.le_refl _)
    rw [← hw39]; clear hw39
    replace H := H.roLow 1 0 rfl (Nat.zero_le _)
    replace H := H.roLow 1 0 rfl (Nat.zero_le _)
    obtain ⟨r40, hx41, h'⟩ := bind_some h
    clear h
    have h := h'; clear h'
    have hc42 := c_spec_LogBetween (aa_0 := a5) (ca_0 := c6) (ab_1 := a7) (cb_1 := c8) hx41
    refine st_call (cx_call hc42 (ent_f hc42.fn rfl) hn0 (show Hp S0 σ0 _ ([Ch.ro 0 (Sl a5 r2.1 c6) r2.1, Ch.ro 0 (Sl a7 r2.2 c8) r2.2] ++ [Ch.ro 0 (Sl a7 r2.2 c8) r2.2, Ch.ro 0 (Sl a5 r2.1 c6) r2.1, Ch.ro n0 (Sl a7 r2.2 c8) r2.2, Ch.ro n0 (Sl a5 r2.1 c6) r2.1, Ch.own n0 n0 (Sl a13 r10 c14) r10]) from (H.sel' [1, 0, 0, 1, 2, 3, 4] rfl rfl))) wn ?_
    rintro _ σ45 ⟨_, ⟨a43, c44, rfl, rfl⟩, H, -⟩
    replace H : Hp S0 σ0 σ45 [Ch.own n0 n0 (Sl a43 r40 c44) r40, Ch.ro 0 (Sl a7 r2.2 c8) r2.2, Ch.ro 0 (Sl a5 r2.1 c6) r2.1, Ch.ro n0 (Sl a7 r2.2 c8) r2.2, Ch.ro n0 (Sl a5 r2.1 c6) r2.1, Ch.own n0 n0 (Sl a13 r10 c14) r10] := H
    obtain ⟨σ46, hw47, H, -⟩ := H.pub 5 rfl (Nat.le_refl _)
    rw [← hw47]; clear hw47
    obtain ⟨σ48, hw49, H, -⟩ := H.pub 1 rfl (Nat.le_refl _)
    rw [← hw49]; clear hw49
    replace H := H.roLow 1 0 rfl (Nat.zero_le _)
    replace H := H.roLow 1 0 rfl (Nat.zero_le _)
    obtain ⟨r50, hx51, h'⟩ := bind_some h
    clear h
    have h := h'; clear h'
    have hc52 := c_laws_equalEntries (aa_0 := a13) (ca_0 := c14) (ab_1 := a43) (cb_1 := c44) hx51
    refine st_call (cx_call hc52 (ent_f hc52.fn rfl) hn0 (show Hp S0 σ0 _ ([Ch.ro 0 (Sl a13 r10 c14) r10, Ch.ro 0 (Sl a43 r40 c44) r40] ++ [Ch.ro 0 (Sl a43 r40 c44) r40, Ch.ro 0 (Sl a13 r10 c14) r10, Ch.ro n0 (Sl a43 r40 c44) r40, Ch.ro n0 (Sl a13 r10 c14) r10, Ch.ro 0 (Sl a7 r2.2 c8) r2.2, Ch.ro 0 (Sl a5 r2.1 c6) r2.1, Ch.ro n0 (Sl a7 r2.2 c8) r2.2, Ch.ro n0 (Sl a5 r2.1 c6) r2.1]) from (H.sel' [1, 0, 0, 1, 2, 3, 4, 5, 6, 7] rfl rfl))) wn ?_
    rintro _ σ53 ⟨_, ⟨rfl, rfl⟩, H, -⟩
    replace H : Hp S0 σ0 σ53 [Ch.ro 0 (Sl a43 r40 c44) r40, Ch.ro 0 (Sl a13 r10 c14) r10, Ch.ro n0 (Sl a43 r40 c44) r40, Ch.ro n0 (Sl a13 r10 c14) r10, Ch.ro 0 (Sl a7 r2.2 c8) r2.2, Ch.ro 0 (Sl a5 r2.1 c6) r2.1, Ch.ro n0 (Sl a7 r2.2 c8) r2.2, Ch.ro n0 (Sl a5 r2.1 c6) r2.1] := H
    replace H : Hp S0 σ0 σ53 [] := H.sel' [] rfl rfl
    refine st (v := (B r50)) (rv_assign rfl) ?_
    refine w_end ?_
    refine q_then ?_
    refine c_ret ?_
    refine q_then_r ?_
    obtain rfl := Option.some.inj h
    exact fin_ret (v := (B r50)) (results_ok Try.results5 (res_tmp (v := (B r50)) rfl res_nil) rfl) ⟨rfl, rfl⟩ (H.sel' [] rfl rfl)
   ·replace h := bif_f hb35 h
    refine c_skip ?_
    refine q_then ?_
    refine c_seq ?_
    refine rg ?_
    refine st (v := (Sl a7 r2.2 c8)) (rv_move rfl) ?_
    replace H := H.nilRo (Int × (List Int) × Int) 0
    obtain ⟨r54, hx55, h'⟩ := bind_some h
    clear h
    have h := h'; clear h'
    have hc56 := c_impl_LogBetween (aa_0 := none) (ca_0 := 0) (ab_1 := a7) (cb_1 := c8) hx55
    have hle := Nat.le_trans hn0 H.size
    refine st_call (cx_lend (Loan.same (Loan.lend Loan.nil)) hc56 (ent_f hc56.fn rfl) (show Hp S0 σ0 _ ([Ch.own n0 n0 (Sl a7 r2.2 c8) r2.2] ++ ([Ch.ro 0 (Sl none ([] : List (Int × (List Int) × Int)) 0) ([] : List (Int × (List Int) × Int))] ++ [Ch.ro 0 (Sl none ([] : List (Int × (List Int) × Int)) 0) ([] : List (Int × (List Int) × Int)), Ch.own n0 n0 (Sl a5 r2.1 c6) r2.1, Ch.own n0 n0 (Sl a13 r10 c14) r10])) from (H.sel' [2, 0, 0, 1, 3] rfl rfl)) (by rintro _ _ _ ⟨_, _, rfl, rfl⟩; exact ⟨Ab.own (Nat.le_refl _), trivial⟩)) wn ?_
    rintro _ σ59 ⟨_, ⟨a57, c58, rfl, rfl⟩, H, -, -⟩
    replace H : Hp S0 σ0 σ59 [Ch.own σ34.size σ34.size (Sl a57 r54 c58) r54, Ch.own n0 n0 (Sl a7 r2.2 c8) r2.2, Ch.ro 0 (Sl none ([] : List (Int × (List Int) × Int)) 0) ([] : List (Int × (List Int) × Int)), Ch.own n0 n0 (Sl a5 r2.1 c6) r2.1, Ch.own n0 n0 (Sl a13 r10 c14) r10] := H
    replace H := H.ownLow 0 n0 n0 rfl hle hle
    clear hle
    replace H : Hp S0 σ0 σ59 [Ch.own n0 n0 (Sl a57 r54 c58) r54, Ch.own n0 n0 (Sl a7 r2.2 c8) r2.2, Ch.ro 0 (Sl none ([] : List (Int × (List Int) × Int)) 0) ([] : List (Int × (List Int) × Int)), Ch.own n0 n0 (Sl a5 r2.1 c6) r2.1, Ch.own n0 n0 (Sl a13 r10 c14) r10] := H
    refine st (v := (Sl a57 r54 c58)) (rv_assign rfl) ?_
    refine w_end ?_
    refine q_then ?_
    refine c_seq ?_
    refine rg ?_
    refine st (v := (Sl a7 r2.2 c8)) (rv_move rfl) ?_
    replace H := H.nilRo (Int × (List Int) × Int) 0
    obtain ⟨r60, hx61, h'⟩ := bind_some h
    clear h
    have h := h'; clear h'
    have hc62 := c_impl_LogBetween (aa_0 := a7) (ca_0 := c8) (ab_1 := none) (cb_1 := 0) hx61
    have hle := Nat.le_trans hn0 H.size
    refine st_call (cx_lend (Loan.lend (Loan.same Loan.nil)) hc62 (ent_f hc62.fn rfl) (show Hp S0 σ0 _ ([Ch.own n0 n0 (Sl a7 r2.2 c8) r2.2] ++ ([Ch.ro 0 (Sl none ([] : List (Int × (List Int) × Int)) 0) ([] : List (Int × (List Int) × Int))] ++ [Ch.ro 0 (Sl none ([] : List (Int × (List Int) × Int)) 0) ([] : List (Int × (List Int) × Int)), Ch.own n0 n0 (Sl a57 r54 c58) r54, Ch.ro 0 (Sl none ([] : List (Int × (List Int) × Int)) 0) ([] : List (Int × (List Int) × Int)), Ch.own n0 n0 (Sl a5 r2.1 c6) r2.1, Ch.own n0 n0 (Sl a13 r10 c14) r10])) from (H.sel' [2, 0, 0, 1, 3, 4, 5] rfl rfl)) (by rintro _ _ _ ⟨_, _, rfl, rfl⟩; exact ⟨Ab.own (Nat.le_refl _), trivial⟩)) wn ?_
    rintro _ σ65 ⟨_, ⟨a63, c64, rfl, rfl⟩, H, -, -⟩
    replace H : Hp S0 σ0 σ65 [Ch.own σ59.size σ59.size (Sl a63 r60 c64) r60, Ch.own n0 n0 (Sl a7 r2.2 c8) r2.2, Ch.ro 0 (Sl none ([] : List (Int × (List Int) × Int)) 0) ([] : List (Int × (List Int) × Int)), Ch.own n0 n0 (Sl a57 r54 c58) r54, Ch.ro 0 (Sl none ([] : List (Int × (List Int) × Int)) 0) ([] : List (Int × (List Int) × Int)), Ch.own n0 n0 (Sl a5 r2.1 c6) r2.1, Ch.own n0 n0 (Sl a13 r10 c14) r10] := H
    replace H := H.ownLow 0 n0 n0 rfl hle hle
    clear hle
    replace H : Hp S0 σ0 σ65 [Ch.own n0 n0 (Sl a63 r60 c64) r60, Ch.own n0 n0 (Sl a7 r2.2 c8) r2.2, Ch.ro 0 (Sl none ([] : List (Int × (List Int) × Int)) 0) ([] : List (Int × (List Int) × Int)), Ch.own n0 n0 (Sl a57 r54 c58) r54, Ch.ro 0 (Sl none ([] : List (Int × (List Int) × Int)) 0) ([] : List (Int × (List Int) × Int)), Ch.own n0 n0 (Sl a5 r2.1 c6) r2.1, Ch.own n0 n0 (Sl a13 r10 c14) r10] := H
    refine st (v := (Sl a63 r60 c64)) (rv_assign rfl) ?_
    refine w_end ?_
    refine q_then ?_
    refine c_seq ?_
    refine c_seq ?_
    refine rg ?_
    refine st (v := (I 0)) (rv_assign rfl) ?_
    refine w_end ?_
    refine q_then ?_
    obtain ⟨o66, hj, h'⟩ := bind_some h
    clear h
    refine c_cut (fun e a w => (∃ t, o66 = (.inl t) ∧ e = .normal ∧ ∃ (ρ : Nat → Value) (σ : St), a = fr 111 (updL ρ [(4, (Sl a7 r2.2 c8)), (6, (Sl a57 r54 c58)), (7, (Sl a63 r60 c64))]) ∧ w = σ.w ∧ Hp S0 σ0 σ [Ch.own n0 n0 (Sl a7 r2.2 c8) r2.2, Ch.own n0 n0 (Sl a57 r54 c58) r54, Ch.own n0 n0 (Sl a63 r60 c64) r60]) ∨ (∃ t, o66 = (.inr t) ∧ e = .ret ∧ ∃ (ρ : Nat → Value) (σ : St), a = fr 111 (updL ρ [(2, (B t))]) ∧ w = σ.w ∧ Hp S0 σ0 σ [])) ?_ ?_
    ·clear h'
     rename _ = some o66 => h
     refine c_blk ?_
     refine wp_loopM _ h (fun s67 a w => ∃ (ρ : Nat → Value) (σ : St), a = fr 111 (updL ρ [(4, (Sl a7 r2.2 c8)), (6, (Sl a57 r54 c58)), (7, (Sl a63 r60 c64)), (8, (I s67))]) ∧ w = σ.w ∧ Hp S0 σ0 σ [Ch.own n0 n0 (Sl a7 r2.2 c8) r2.2, Ch.own n0 n0 (Sl a57 r54 c58) r54, Ch.own n0 n0 (Sl a63 r60 c64) r60]) ⟨_, σ65, fr_join ⟨rfl, rfl, rfl, rfl, trivial⟩, rfl, H.sel' [1, 3, 0] rfl rfl⟩ ?_
     clear h H
     rintro s67 a w o ⟨ρ, σ68, rfl, rfl, H⟩ h hres
     refine c_seq ?_
     refine c_seq ?_
     refine rg ?_
     refine st (v := (I s67)) (rv_move rfl) ?_
     refine st (v := (Sl a7 r2.2 c8)) (rv_move rfl) ?_
     refine st (v := (I (r2.2.length : Int))) (rv_len Try.underlying23 rfl) ?_
     refine st (v := (B (decide (s67 < (r2.2.length : Int))))) (rv_lss (a := s67) (b := (r2.2.length : Int)) rfl rfl) ?_
     refine w_end ?_
     refine q_then ?_
     refine cd_cond (decide (s67 < (r2.2.length : Int))) rfl (fun hb69 => ?_) (fun hb69 => ?_)
     ·replace h := bif_t hb69 h
      refine c_skip ?_
      refine q_then ?_
      refine c_seq ?_
      refine c_blk ?_
      refine c_seq ?_
      obtain ⟨o70, hj, h'⟩ := bind_some h
      clear h
      refine c_cut (fun e a w => e = .normal ∧ ∃ (ρ : Nat → Value) (σ : St), a = fr 111 (updL ρ [(4, (Sl a7 r2.2 c8)), (6, (Sl a57 r54 c58)), (7, (Sl a63 r60 c64)), (8, (I s67)), (98, (B o70))]) ∧ w = σ.w ∧ Hp S0 σ0 σ [Ch.own n0 n0 (Sl a7 r2.2 c8) r2.2, Ch.own n0 n0 (Sl a57 r54 c58) r54, Ch.own n0 n0 (Sl a63 r60 c64) r60]) ?_ ?_
      ·clear h'
       rename _ = some o70 => h
       rcases Bool.eq_false_or_eq_true (decide ((r54.length : Int) ≤ s67)) with hb71 | hb71
       ·replace h := bif_t hb71 h
        have Hs := H
        refine rg2 (σ := σ68) (Nm := Unit) 51 [] [[]] [[(0, 0)], [(0, 0)], [(0, 0)], [(0, 0)], [(0, 0)], [(0, 0)], [(0, 0)], [(0, 0)], [(0, 0)], [(0, 0)], [(0, 0)], [(0, 0)], [(0, 0)], [(0, 0)], [(0, 0)], [(0, 0)], [(0, 0)], [(0, 0)], [(0, 0)], [(0, 0)], [(0, 0)], [(0, 0)], [(0, 0)], [(0, 0)], [(0, 0)], [(0, 0)], [(0, 0)], [(0, 0)], [(0, 0)], [(0, 0)], [(0, 0)], [(0, 0)], [(0, 0)], [(0, 0)], [(0, 0)], [(0, 0)], [(0, 0)], [(0, 0)], [(0, 0)], [(0, 0)], [(0, 0)], [(0, 0)], [(0, 0)], [(0, 0)], [(0, 0)], [(0, 0)], [(0, 0)], [(0, 0)], [(0, 0)], [(0, 0)], [(0, 0)]] 0 [fun _ => fun σm => Hp S0 σ0 σm [Ch.own n0 n0 (Sl a7 r2.2 c8) r2.2, Ch.own n0 n0 (Sl a57 r54 c58) r54, Ch.own n0 n0 (Sl a63 r60 c64) r60] ∧ Md (cov []) σ68 σm] [fun _ => (I s67), fun _ => (Sl a57 r54 c58), fun _ => (I (r54.length : Int)), fun _ => (B (decide ((r54.length : Int) ≤ s67))), fun _ => (B (decide ((r54.length : Int) ≤ s67))), fun _ => undef, fun _ => undef, fun _ => undef, fun _ => undef, fun _ => (B true), fun _ => (B true), fun _ => undef, fun _ => undef, fun _ => undef, fun _ => undef, fun _ => undef, fun _ => undef, fun _ => (B true), fun _ => (B true), fun _ => undef, fun _ => undef, fun _ => undef, fun _ => undef, fun _ => undef, fun _ => undef, fun _ => undef, fun _ => undef, fun _ => undef, fun _ => undef, fun _ => undef, fun _ => (B true), fun _ => (B true), fun _ => undef, fun _ => undef, fun _ => undef, fun _ => undef, fun _ => undef, fun _ => undef, fun _ => (B true), fun _ => (B true), fun _ => undef, fun _ => undef, fun _ => undef, fun _ => undef, fun _ => undef, fun _ => undef, fun _ => undef, fun _ => undef, fun _ => undef, fun _ => undef, fun _ => undef] () (by kernel_rfl) (by kernel_rfl) ?_ ?_ ?_
        ·intro σm m0
         exact ⟨H.grow (m0.mono fun _ h => h.elim), m0⟩
        ·refine ac rfl (by
           intro k _nm ρ σm hJ hoff hdep
           have e8 := look_off (N := 111) (hoff 8 rfl) rfl
           exact dp_v (v := (I s67)) wn (rv_move e8) rfl hJ) ?_
         refine ac rfl (by
           intro k _nm ρ σm hJ hoff hdep
           have e6 := look_off (N := 111) (hoff 6 rfl) rfl
           exact dp_v (v := (Sl a57 r54 c58)) wn (rv_move e6) rfl hJ) ?_
         refine ac rfl (by
           intro k _nm ρ σm hJ hoff hdep
           have e47 := hdep 1 rfl rfl 47 rfl
           exact dp_v (v := (I (r54.length : Int))) wn (rv_len Try.underlying35 e47) rfl hJ) ?_
         refine ac rfl (by
           intro k _nm ρ σm hJ hoff hdep
           have e46 := hdep 0 rfl rfl 46 rfl
           have e48 := hdep 2 rfl rfl 48 rfl
           exact dp_v (v := (B (decide ((r54.length : Int) ≤ s67)))) wn (rv_geq (a := s67) (b := (r54.length : Int)) e46 e48) rfl hJ) ?_
         refine ac rfl (by
           intro k _nm ρ σm hJ hoff hdep
           have e49 := hdep 3 rfl rfl 49 rfl
           exact dp_v (v := (B (decide ((r54.length : Int) ≤ s67)))) wn (rv_move e49) rfl hJ) ?_
         refine ac rfl (by
           intro k _nm ρ σm hJ hoff hdep
           have e50 := hdep 4 rfl rfl 50 rfl
           exact dp_skip (wanted_no rfl (yv_of rfl (e50.trans (congrArg B hb71)))) rfl hJ) ?_
         refine ac rfl (by
           intro k _nm ρ σm hJ hoff hdep
           have e50 := hdep 4 rfl rfl 50 rfl
           exact dp_skip (wanted_no rfl (yv_of rfl (e50.trans (congrArg B hb71)))) rfl hJ) ?_
         refine ac rfl (by
           intro k _nm ρ σm hJ hoff hdep
           have e50 := hdep 4 rfl rfl 50 rfl
           exact dp_skip (wanted_no rfl (yv_of rfl (e50.trans (congrArg B hb71)))) rfl hJ) ?_
         refine ac rfl (by
           intro k _nm ρ σm hJ hoff hdep
           have e50 := hdep 4 rfl rfl 50 rfl
           exact dp_skip (wanted_no rfl (yv_of rfl (e50.trans (congrArg B hb71)))) rfl hJ) ?_
         refine ac rfl (by
           intro k _nm ρ σm hJ hoff hdep
           have e50 := hdep 4 rfl rfl 50 rfl
           exact dp_v (v := (B true)) wn (rv_pick_t (e50.trans (congrArg B hb71)) rfl) rfl hJ) ?_
         refine ac rfl (by
           intro k _nm ρ σm hJ hoff hdep
           have e55 := hdep 9 rfl rfl 55 rfl
           exact dp_v (v := (B true)) wn (rv_move e55) rfl hJ) ?_
         refine ac rfl (by
           intro k _nm ρ σm hJ hoff hdep
           have e56 := hdep 10 rfl rfl 56 rfl
           exact dp_skip (wanted_no rfl (yv_of rfl e56)) rfl hJ) ?_
         refine ac rfl (by
           intro k _nm ρ σm hJ hoff hdep
           have e56 := hdep 10 rfl rfl 56 rfl
           exact dp_skip (wanted_no rfl (yv_of rfl e56)) rfl hJ) ?_
         refine ac rfl (by
           intro k _nm ρ σm hJ hoff hdep
           have e56 := hdep 10 rfl rfl 56 rfl
           exact dp_skip (wanted_no rfl (yv_of rfl e56)) rfl hJ) ?_
         refine ac rfl (by
           intro k _nm ρ σm hJ hoff hdep
           have e56 := hdep 10 rfl rfl 56 rfl
           exact dp_skip (wanted_no rfl (yv_of rfl e56)) rfl hJ) ?_
         refine ac rfl (by
           intro k _nm ρ σm hJ hoff hdep
           have e56 := hdep 10 rfl rfl 56 rfl
           exact dp_skip (wanted_no rfl (yv_of rfl e56)) rfl hJ) ?_
         refine ac rfl (by
           intro k _nm ρ σm hJ hoff hdep
           have e56 := hdep 10 rfl rfl 56 rfl
           exact dp_skip (wanted_no rfl (yv_of rfl e56)) rfl hJ) ?_
         refine ac rfl (by
           intro k _nm ρ σm hJ hoff hdep
           have e56 := hdep 10 rfl rfl 56 rfl
           exact dp_v (v := (B true)) wn (rv_pick_t e56 rfl) rfl hJ) ?_
         refine ac rfl (by
           intro k _nm ρ σm hJ hoff hdep
           have e63 := hdep 17 rfl rfl 63 rfl
           exact dp_v (v := (B true)) wn (rv_move e63) rfl hJ) ?_
         refine ac rfl (by
           intro k _nm ρ σm hJ hoff hdep
           have e64 := hdep 18 rfl rfl 64 rfl
           exact dp_skip (wanted_no rfl (yv_of rfl e64)) rfl hJ) ?_
         refine ac rfl (by
           intro k _nm ρ σm hJ hoff hdep
           have e64 := hdep 18 rfl rfl 64 rfl
           exact dp_skip (wanted_no rfl (yv_of rfl e64)) rfl hJ) ?_
         refine ac rfl (by
           intro k _nm ρ σm hJ hoff hdep
           have e64 := hdep 18 rfl rfl 64 rfl
           exact dp_skip (wanted_no rfl (yv_of rfl e64)) rfl hJ) ?_
         refine ac rfl (by
           intro k _nm ρ σm hJ hoff hdep
           have e64 := hdep 18 rfl rfl 64 rfl
           exact dp_skip (wanted_no rfl (yv_of rfl e64)) rfl hJ) ?_
         refine ac rfl (by
           intro k _nm ρ σm hJ hoff hdep
           have e64 := hdep 18 rfl rfl 64 rfl
           exact dp_skip (wanted_no rfl (yv_of rfl e64)) rfl hJ) ?_
         refine ac rfl (by
           intro k _nm ρ σm hJ hoff hdep
           have e64 := hdep 18 rfl rfl 64 rfl
           exact dp_skip (wanted_no rfl (yv_of rfl e64)) rfl hJ) ?_
         refine ac rfl (by
           intro k _nm ρ σm hJ hoff hdep
           have e64 := hdep 18 rfl rfl 64 rfl
           exact dp_skip (wanted_no rfl (yv_of rfl e64)) rfl hJ) ?_
         refine ac rfl (by
           intro k _nm ρ σm hJ hoff hdep
           have e64 := hdep 18 rfl rfl 64 rfl
           exact dp_skip (wanted_no rfl (yv_of rfl e64)) rfl hJ) ?_
         refine ac rfl (by
           intro k _nm ρ σm hJ hoff hdep
           have e64 := hdep 18 rfl rfl 64 rfl
           exact dp_skip (wanted_no rfl (yv_of rfl e64)) rfl hJ) ?_
         refine ac rfl (by
           intro k _nm ρ σm hJ hoff hdep
           have e64 := hdep 18 rfl rfl 64 rfl
           exact dp_skip (wanted_no rfl (yv_of rfl e64)) rfl hJ) ?_
         refine ac rfl (by
           intro k _nm ρ σm hJ hoff hdep
           have e64 := hdep 18 rfl rfl 64 rfl
           exact dp_skip (wanted_no rfl (yv_of rfl e64)) rfl hJ) ?_
         refine ac rfl (by
           intro k _nm ρ σm hJ hoff hdep
           have e64 := hdep 18 rfl rfl 64 rfl
           exact dp_v (v := (B true)) wn (rv_pick_t e64 rfl) rfl hJ) ?_
         refine ac rfl (by
           intro k _nm ρ σm hJ hoff hdep
           have e76 := hdep 30 rfl rfl 76 rfl
           exact dp_v (v := (B true)) wn (rv_move e76) rfl hJ) ?_
         refine ac rfl (by
           intro k _nm ρ σm hJ hoff hdep
           have e77 := hdep 31 rfl rfl 77 rfl
           exact dp_skip (wanted_no rfl (yv_of rfl e77)) rfl hJ) ?_
         refine ac rfl (by
           intro k _nm ρ σm hJ hoff hdep
           have e77 := hdep 31 rfl rfl 77 rfl
           exact dp_skip (wanted_no rfl (yv_of rfl e77)) rfl hJ) ?_
         refine ac rfl (by
           intro k _nm ρ σm hJ hoff hdep
           have e77 := hdep 31 rfl rfl 77 rfl
           exact dp_skip (wanted_no rfl (yv_of rfl e77)) rfl hJ) ?_
         refine ac rfl (by
           intro k _nm ρ σm hJ hoff hdep
           have e77 := hdep 31 rfl rfl 77 rfl
           exact dp_skip (wanted_no rfl (yv_of rfl e77)) rfl hJ) ?_
         refine ac rfl (by
           intro k _nm ρ σm hJ hoff hdep
           have e77 := hdep 31 rfl rfl 77 rfl
           exact dp_skip (wanted_no rfl (yv_of rfl e77)) rfl hJ) ?_
         refine ac rfl (by
           intro k _nm ρ σm hJ hoff hdep
           have e77 := hdep 31 rfl rfl 77 rfl
           exact dp_skip (wanted_no rfl (yv_of rfl e77)) rfl hJ) ?_
         refine ac rfl (by
           intro k _nm ρ σm hJ hoff hdep
           have e77 := hdep 31 rfl rfl 77 rfl
           exact dp_v (v := (B true)) wn (rv_pick_t e77 rfl) rfl hJ) ?_
         refine ac rfl (by
           intro k _nm ρ σm hJ hoff hdep
           have e84 := hdep 38 rfl rfl 84 rfl
           exact dp_v (v := (B true)) wn (rv_move e84) rfl hJ) ?_
         refine ac rfl (by
           intro k _nm ρ σm hJ hoff hdep
           have e85 := hdep 39 rfl rfl 85 rfl
           exact dp_skip (wanted_no rfl (yv_of rfl e85)) rfl hJ) ?_
         refine ac rfl (by
           intro k _nm ρ σm hJ hoff hdep
           have e85 := hdep 39 rfl rfl 85 rfl
           exact dp_skip (wanted_no rfl (yv_of rfl e85)) rfl hJ) ?_
         refine ac rfl (by
           intro k _nm ρ σm hJ hoff hdep
           have e85 := hdep 39 rfl rfl 85 rfl
           exact dp_skip (wanted_no rfl (yv_of rfl e85)) rfl hJ) ?_
         refine ac rfl (by
           intro k _nm ρ σm hJ hoff hdep
           have e85 := hdep 39 rfl rfl 85 rfl
           exact dp_skip (wanted_no rfl (yv_of rfl e85)) rfl hJ) ?_
         refine ac rfl (by
           intro k _nm ρ σm hJ hoff hdep
           have e85 := hdep 39 rfl rfl 85 rfl
           exact dp_skip (wanted_no rfl (yv_of rfl e85)) rfl hJ) ?_
         refine ac rfl (by
           intro k _nm ρ σm hJ hoff hdep
           have e85 := hdep 39 rfl rfl 85 rfl
           exact dp_skip (wanted_no rfl (yv_of rfl e85)) rfl hJ) ?_
         refine ac rfl (by
           intro k _nm ρ σm hJ hoff hdep
           have e85 := hdep 39 rfl rfl 85 rfl
           exact dp_skip (wanted_no rfl (yv_of rfl e85)) rfl hJ) ?_
         refine ac rfl (by
           intro k _nm ρ σm hJ hoff hdep
           have e85 := hdep 39 rfl rfl 85 rfl
           exact dp_skip (wanted_no rfl (yv_of rfl e85)) rfl hJ) ?_
         refine ac rfl (by
           intro k _nm ρ σm hJ hoff hdep
           have e85 := hdep 39 rfl rfl 85 rfl
           exact dp_skip (wanted_no rfl (yv_of rfl e85)) rfl hJ) ?_
         refine ac rfl (by
           intro k _nm ρ σm hJ hoff hdep
           have e85 := hdep 39 rfl rfl 85 rfl
           exact dp_skip (wanted_no rfl (yv_of rfl e85)) rfl hJ) ?_
         refine ac rfl (by
           intro k _nm ρ σm hJ hoff hdep
           have e85 := hdep 39 rfl rfl 85 rfl
           exact dp_skip (wanted_no rfl (yv_of rfl e85)) rfl hJ) ?_
         exact all_nil
        ·intro _nm ρ σ72 hJ hoff hrel
         have e4 := look_off (N := 111) (hoff 4 rfl) rfl
         have e6 := look_off (N := 111) (hoff 6 rfl) rfl
         have e7 := look_off (N := 111) (hoff 7 rfl) rfl
         have e8 := look_off (N := 111) (hoff 8 rfl) rfl
         have e85 := hrel 39 rfl 85 rfl
         have e91 := hrel 45 rfl 91 rfl
         have e96 := hrel 50 rfl 96 rfl
         obtain ⟨H, -⟩ := (show Hp S0 σ0 σ72 [Ch.own n0 n0 (Sl a7 r2.2 c8) r2.2, Ch.own n0 n0 (Sl a57 r54 c58) r54, Ch.own n0 n0 (Sl a63 r60 c64) r60] ∧ Md (cov []) σ68 σ72 from hJ)
         clear hJ Hs
         rw [fr_lookL (L := [(4, (Sl a7 r2.2 c8)), (6, (Sl a57 r54 c58)), (7, (Sl a63 r60 c64)), (8, (I s67)), (85, (B true)), (91, undef), (96, undef)]) ⟨e4, e6, e7, e8, e85, e91, e96, trivial⟩]
         clear hoff hrel e4 e6 e7 e8 e85 e91 e96
         refine st_skip rfl ?_
         refine st (v := (B true)) (rv_pick_t rfl rfl) ?_
         refine w_end ?_
         obtain rfl := Option.some.inj h
         exact ⟨rfl, _, σ72, fr_join ⟨rfl, rfl, rfl, rfl, rfl, trivial⟩, rfl, H.sel' [0, 1, 2] rfl rfl⟩
       ·replace h := bif_f hb71 h
        rcases Bool.eq_false_or_eq_true (decide ((r60.length : Int) ≤ s67)) with hb73 | hb73
        ·replace h := bif_t hb73 h
         have Hs := H
         refine rg2 (σ := σ68) (Nm := Unit) 51 [] [[]] [[(0, 0)], [(0, 0)], [(0, 0)], [(0, 0)], [(0, 0)], [(0, 0)], [(0, 0)], [(0, 0)], [(0, 0)], [(0, 0)], [(0, 0)], [(0, 0)], [(0, 0)], [(0, 0)], [(0, 0)], [(0, 0)], [(0, 0)], [(0, 0)], [(0, 0)], [(0, 0)], [(0, 0)], [(0, 0)], [(0, 0)], [(0, 0)], [(0, 0)], [(0, 0)], [(0, 0)], [(0, 0)], [(0, 0)], [(0, 0)], [(0, 0)], [(0, 0)], [(0, 0)], [(0, 0)], [(0, 0)], [(0, 0)], [(0, 0)], [(0, 0)], [(0, 0)], [(0, 0)], [(0, 0)], [(0, 0)], [(0, 0)], [(0, 0)], [(0, 0)], [(0, 0)], [(0, 0)], [(0, 0)], [(0, 0)], [(0, 0)], [(0, 0)]] 0 [fun _ => fun σm => Hp S0 σ0 σm [Ch.own n0 n0 (Sl a7 r2.2 c8) r2.2, Ch.own n0 n0 (Sl a57 r54 c58) r54, Ch.own n0 n0 (Sl a63 r60 c64) r60] ∧ Md (cov []) σ68 σm] [fun _ => (I s67), fun _ => (Sl a57 r54 c58), fun _ => (I (r54.length : Int)), fun _ => (B (decide ((r54.length : Int) ≤ s67))), fun _ => (B (decide ((r54.length : Int) ≤ s67))), fun _ => (I s67), fun _ => (Sl a63 r60 c64), fun _ => (I (r60.length : Int)), fun _ => (B (decide ((r60.length : Int) ≤ s67))), fun _ => (B (decide ((r60.length : Int) ≤ s67))), fun _ => (B (decide ((r60.length : Int) ≤ s67))), fun _ => undef, fun _ => undef, fun _ => undef, fun _ => undef, fun _ => undef, fun _ => undef, fun _ => (B true), fun _ => (B true), fun _ => undef, fun _ => undef, fun _ => undef, fun _ => undef, fun _ => undef, fun _ => undef, fun _ => undef, fun _ => undef, fun _ => undef, fun _ => undef, fun _ => undef, fun _ => (B true), fun _ => (B true), fun _ => undef, fun _ => undef, fun _ => undef, fun _ => undef, fun _ => undef, fun _ => undef, fun _ => (B true), fun _ => (B true), fun _ => undef, fun _ => undef, fun _ => undef, fun _ => undef, fun _ => undef, fun _ => undef, fun _ => undef, fun _ => undef, fun _ => undef, fun _ => undef, fun _ => undef] () (by kernel_rfl) (by kernel_rfl) ?_ ?_ ?_
         ·intro σm m0
          exact ⟨H.grow (m0.mono fun _ h => h.elim), m0⟩
         ·refine ac rfl (by
            intro k _nm ρ σm hJ hoff hdep
            have e8 := look_off (N := 111) (hoff 8 rfl) rfl
            exact dp_v (v := (I s67)) wn (rv_move e8) rfl hJ) ?_
          refine ac rfl (by
            intro k _nm ρ σm hJ hoff hdep
            have e6 := look_off (N := 111) (hoff 6 rfl) rfl
            exact dp_v (v := (Sl a57 r54 c58)) wn (rv_move e6) rfl hJ) ?_
          refine ac rfl (by
            intro k _nm ρ σm hJ hoff hdep
            have e47 := hdep 1 rfl rfl 47 rfl
            exact dp_v (v := (I (r54.length : Int))) wn (rv_len Try.underlying35 e47) rfl hJ) ?_
          refine ac rfl (by
            intro k _nm ρ σm hJ hoff hdep
            have e46 := hdep 0 rfl rfl 46 rfl
            have e48 := hdep 2 rfl rfl 48 rfl
            exact dp_v (v := (B (decide ((r54.length : Int) ≤ s67)))) wn (rv_geq (a := s67) (b := (r54.length : Int)) e46 e48) rfl hJ) ?_
          refine ac rfl (by
            intro k _nm ρ σm hJ hoff hdep
            have e49 := hdep 3 rfl rfl 49 rfl
            exact dp_v (v := (B (decide ((r54.length : Int) ≤ s67)))) wn (rv_move e49) rfl hJ) ?_
          refine ac rfl (by
            intro k _nm ρ σm hJ hoff hdep
            have e8 := look_off (N := 111) (hoff 8 rfl) rfl
            have e50 := hdep 4 rfl rfl 50 rfl
            exact dp_v (v := (I s67)) (wanted_yes rfl (yv_of rfl (e50.trans (congrArg B hb71)))) (rv_move e8) rfl hJ) ?_
          refine ac rfl (by
            intro k _nm ρ σm hJ hoff hdep
            have e7 := look_off (N := 111) (hoff 7 rfl) rfl
            have e50 := hdep 4 rfl rfl 50 rfl
            exact dp_v (v := (Sl a63 r60 c64)) (wanted_yes rfl (yv_of rfl (e50.trans (congrArg B hb71)))) (rv_move e7) rfl hJ) ?_
          refine ac rfl (by
            intro k _nm ρ σm hJ hoff hdep
            have e52 := hdep 6 rfl rfl 52 rfl
            have e50 := hdep 4 rfl rfl 50 rfl
            exact dp_v (v := (I (r60.length : Int))) (wanted_yes rfl (yv_of rfl (e50.trans (congrArg B hb71)))) (rv_len Try.underlying35 e52) rfl hJ) ?_
          refine ac rfl (by
            intro k _nm ρ σm hJ hoff hdep
            have e51 := hdep 5 rfl rfl 51 rfl
            have e53 := hdep 7 rfl rfl 53 rfl
            have e50 := hdep 4 rfl rfl 50 rfl
            exact dp_v (v := (B (decide ((r60.length : Int) ≤ s67)))) (wanted_yes rfl (yv_of rfl (e50.trans (congrArg B hb71)))) (rv_geq (a := s67) (b := (r60.length : Int)) e51 e53) rfl hJ) ?_
          refine ac rfl (by
            intro k _nm ρ σm hJ hoff hdep
            have e50 := hdep 4 rfl rfl 50 rfl
            have e54 := hdep 8 rfl rfl 54 rfl
            exact dp_v (v := (B (decide ((r60.length : Int) ≤ s67)))) wn (rv_pick_f (e50.trans (congrArg B hb71)) e54) rfl hJ) ?_
          refine ac rfl (by
            intro k _nm ρ σm hJ hoff hdep
            have e55 := hdep 9 rfl rfl 55 rfl
            exact dp_v (v := (B (decide ((r60.length : Int) ≤ s67)))) wn (rv_move e55) rfl hJ) ?_
          refine ac rfl (by
            intro k _nm ρ σm hJ hoff hdep
            have e56 := hdep 10 rfl rfl 56 rfl
            exact dp_skip (wanted_no rfl (yv_of rfl (e56.trans (congrArg B hb73)))) rfl hJ) ?_
          refine ac rfl (by
            intro k _nm ρ σm hJ hoff hdep
            have e56 := hdep 10 rfl rfl 56 rfl
            exact dp_skip (wanted_no rfl (yv_of rfl (e56.trans (congrArg B hb73)))) rfl hJ) ?_
          refine ac rfl (by
            intro k _nm ρ σm hJ hoff hdep
            have e56 := hdep 10 rfl rfl 56 rfl
            exact dp_skip (wanted_no rfl (yv_of rfl (e56.trans (congrArg B hb73)))) rfl hJ) ?_
          refine ac rfl (by
            intro k _nm ρ σm hJ hoff hdep
            have e56 := hdep 10 rfl rfl 56 rfl
            exact dp_skip (wanted_no rfl (yv_of rfl (e56.trans (congrArg B hb73)))) rfl hJ) ?_
          refine ac rfl (by
            intro k _nm ρ σm hJ hoff hdep
            have e56 := hdep 10 rfl rfl 56 rfl
            exact dp_skip (wanted_no rfl (yv_of rfl (e56.trans (congrArg B hb73)))) rfl hJ) ?_
          refine ac rfl (by
            intro k _nm ρ σm hJ hoff hdep
            have e56 := hdep 10 rfl rfl 56 rfl
            exact dp_skip (wanted_no rfl (yv_of rfl (e56.trans (congrArg B hb73)))) rfl hJ) ?_
          refine ac rfl (by
            intro k _nm ρ σm hJ hoff hdep
            have e56 := hdep 10 rfl rfl 56 rfl
            exact dp_v (v := (B true)) wn (rv_pick_t (e56.trans (congrArg B hb73)) rfl) rfl hJ) ?_
          refine ac rfl (by
            intro k _nm ρ σm hJ hoff hdep
            have e63 := hdep 17 rfl rfl 63 rfl
            exact dp_v (v := (B true)) wn (rv_move e63) rfl hJ) ?_
          refine ac rfl (by
            intro k _nm ρ σm hJ hoff hdep
            have e64 := hdep 18 rfl rfl 64 rfl
            exact dp_skip (wanted_no rfl (yv_of rfl e64)) rfl hJ) ?_
          refine ac rfl (by
            intro k _nm ρ σm hJ hoff hdep
            have e64 := hdep 18 rfl rfl 64 rfl
            exact dp_skip (wanted_no rfl (yv_of rfl e64)) rfl hJ) ?_
          refine ac rfl (by
            intro k _nm ρ σm hJ hoff hdep
            have e64 := hdep 18 rfl rfl 64 rfl
            exact dp_skip (wanted_no rfl (yv_of rfl e64)) rfl hJ) ?_
          refine ac rfl (by
            intro k _nm ρ σm hJ hoff hdep
            have e64 := hdep 18 rfl rfl 64 rfl
            exact dp_skip (wanted_no rfl (yv_of rfl e64)) rfl hJ) ?_
          refine ac rfl (by
            intro k _nm ρ σm hJ hoff hdep
            have e64 := hdep 18 rfl rfl 64 rfl
            exact dp_skip (wanted_no rfl (yv_of rfl e64)) rfl hJ) ?_
          refine ac rfl (by
            intro k _nm ρ σm hJ hoff hdep
            have e64 := hdep 18 rfl rfl 64 rfl
            exact dp_skip (wanted_no rfl (yv_of rfl e64)) rfl hJ) ?_
          refine ac rfl (by
            intro k _nm ρ σm hJ hoff hdep
            have e64 := hdep 18 rfl rfl 64 rfl
            exact dp_skip (wanted_no rfl (yv_of rfl e64)) rfl hJ) ?_
          refine ac rfl (by
            intro k _nm ρ σm hJ hoff hdep
            have e64 := hdep 18 rfl rfl 64 rfl
            exact dp_skip (wanted_no rfl (yv_of rfl e64)) rfl hJ) ?_
          refine ac rfl (by
            intro k _nm ρ σm hJ hoff hdep
            have e64 := hdep 18 rfl rfl 64 rfl
            exact dp_skip (wanted_no rfl (yv_of rfl e64)) rfl hJ) ?_
          refine ac rfl (by
            intro k _nm ρ σm hJ hoff hdep
            have e64 := hdep 18 rfl rfl 64 rfl
            exact dp_skip (wanted_no rfl (yv_of rfl e64)) rfl hJ) ?_
          refine ac rfl (by
            intro k _nm ρ σm hJ hoff hdep
            have e64 := hdep 18 rfl rfl 64 rfl
            exact dp_skip (wanted_no rfl (yv_of rfl e64)) rfl hJ) ?_
          refine ac rfl (by
            intro k _nm ρ σm hJ hoff hdep
            have e64 := hdep 18 rfl rfl 64 rfl
            exact dp_v (v := (B true)) wn (rv_pick_t e64 rfl) rfl hJ) ?_
          refine ac rfl (by
            intro k _nm ρ σm hJ hoff hdep
            have e76 := hdep 30 rfl rfl 76 rfl
            exact dp_v (v := (B true)) wn (rv_move e76) rfl hJ) ?_
          refine ac rfl (by
            intro k _nm ρ σm hJ hoff hdep
            have e77 := hdep 31 rfl rfl 77 rfl
            exact dp_skip (wanted_no rfl (yv_of rfl e77)) rfl hJ) ?_
          refine ac rfl (by
            intro k _nm ρ σm hJ hoff hdep
            have e77 := hdep 31 rfl rfl 77 rfl
            exact dp_skip (wanted_no rfl (yv_of rfl e77)) rfl hJ) ?_
          refine ac rfl (by
            intro k _nm ρ σm hJ hoff hdep
            have e77 := hdep 31 rfl rfl 77 rfl
            exact dp_skip (wanted_no rfl (yv_of rfl e77)) rfl hJ) ?_
          refine ac rfl (by
            intro k _nm ρ σm hJ hoff hdep
            have e77 := hdep 31 rfl rfl 77 rfl
            exact dp_skip (wanted_no rfl (yv_of rfl e77)) rfl hJ) ?_
          refine ac rfl (by
            intro k _nm ρ σm hJ hoff hdep
            have e77 := hdep 31 rfl rfl 77 rfl
            exact dp_skip (wanted_no rfl (yv_of rfl e77)) rfl hJ) ?_
          refine ac rfl (by
            intro k _nm ρ σm hJ hoff hdep
            have e77 := hdep 31 rfl rfl 77 rfl
            exact dp_skip (wanted_no rfl (yv_of rfl e77)) rfl hJ) ?_
          refine ac rfl (by
            intro k _nm ρ σm hJ hoff hdep
            have e77 := hdep 31 rfl rfl 77 rfl
            exact dp_v (v := (B true)) wn (rv_pick_t e77 rfl) rfl hJ) ?_
          refine ac rfl (by
            intro k _nm ρ σm hJ hoff hdep
            have e84 := hdep 38 rfl rfl 84 rfl
            exact dp_v (v := (B true)) wn (rv_move e84) rfl hJ) ?_
          refine ac rfl (by
            intro k _nm ρ σm hJ hoff hdep
            have e85 := hdep 39 rfl rfl 85 rfl
            exact dp_skip (wanted_no rfl (yv_of rfl e85)) rfl hJ) ?_
          refine ac rfl (by
            intro k _nm ρ σm hJ hoff hdep
            have e85 := hdep 39 rfl rfl 85 rfl
            exact dp_skip (wanted_no rfl (yv_of rfl e85)) rfl hJ) ?_
          refine ac rfl (by
            intro k _nm ρ σm hJ hoff hdep
            have e85 := hdep 39 rfl rfl 85 rfl
            exact dp_skip (wanted_no rfl (yv_of rfl e85)) rfl hJ) ?_
          refine ac rfl (by
            intro k _nm ρ σm hJ hoff hdep
            have e85 := hdep 39 rfl rfl 85 rfl
            exact dp_skip (wanted_no rfl (yv_of rfl e85)) rfl hJ) ?_
          refine ac rfl (by
            intro k _nm ρ σm hJ hoff hdep
            have e85 := hdep 39 rfl rfl 85 rfl
            exact dp_skip (wanted_no rfl (yv_of rfl e85)) rfl hJ) ?_
          refine ac rfl (by
            intro k _nm ρ σm hJ hoff hdep
            have e85 := hdep 39 rfl rfl 85 rfl
            exact dp_skip (wanted_no rfl (yv_of rfl e85)) rfl hJ) ?_
          refine ac rfl (by
            intro k _nm ρ σm hJ hoff hdep
            have e85 := hdep 39 rfl rfl 85 rfl
            exact dp_skip (wanted_no rfl (yv_of rfl e85)) rfl hJ) ?_
          refine ac rfl (by
            intro k _nm ρ σm hJ hoff hdep
            have e85 := hdep 39 rfl rfl 85 rfl
            exact dp_skip (wanted_no rfl (yv_of rfl e85)) rfl hJ) ?_
          refine ac rfl (by
            intro k _nm ρ σm hJ hoff hdep
            have e85 := hdep 39 rfl rfl 85 rfl
            exact dp_skip (wanted_no rfl (yv_of rfl e85)) rfl hJ) ?_
          refine ac rfl (by
            intro k _nm ρ σm hJ hoff hdep
            have e85 := hdep 39 rfl rfl 85 rfl
            exact dp_skip (wanted_no rfl (yv_of rfl e85)) rfl hJ) ?_
          refine ac rfl (by
            intro k _nm ρ σm hJ hoff hdep
            have e85 := hdep 39 rfl rfl 85 rfl
            exact dp_skip (wanted_no rfl (yv_of rfl e85)) rfl hJ) ?_
          exact all_nil
         ·intro _nm ρ σ74 hJ hoff hrel
          have e4 := look_off (N := 111) (hoff 4 rfl) rfl
          have e6 := look_off (N := 111) (hoff 6 rfl) rfl
          have e7 := look_off (N := 111) (hoff 7 rfl) rfl
          have e8 := look_off (N := 111) (hoff 8 rfl) rfl
          have e85 := hrel 39 rfl 85 rfl
          have e91 := hrel 45 rfl 91 rfl
          have e96 := hrel 50 rfl 96 rfl
          obtain ⟨H, -⟩ := (show Hp S0 σ0 σ74 [Ch.own n0 n0 (Sl a7 r2.2 c8) r2.2, Ch.own n0 n0 (Sl a57 r54 c58) r54, Ch.own n0 n0 (Sl a63 r60 c64) r60] ∧ Md (cov []) σ68 σ74 from hJ)
          clear hJ Hs
          rw [fr_lookL (L := [(4, (Sl a7 r2.2 c8)), (6, (Sl a57 r54 c58)), (7, (Sl a63 r60 c64)), (8, (I s67)), (85, (B true)), (91, undef), (96, undef)]) ⟨e4, e6, e7, e8, e85, e91, e96, trivial⟩]
          clear hoff hrel e4 e6 e7 e8 e85 e91 e96
          refine st_skip rfl ?_
          refine st (v := (B true)) (rv_pick_t rfl rfl) ?_
          refine w_end ?_
          obtain rfl := Option.some.inj h
          exact ⟨rfl, _, σ74, fr_join ⟨rfl, rfl, rfl, rfl, rfl, trivial⟩, rfl, H.sel' [0, 1, 2] rfl rfl⟩
        ·replace h := bif_f hb73 h
         obtain ⟨x75, hx76, h'⟩ := bind_some h
         clear h
         have h := h'; clear h'
         obtain ⟨b78, o79, hi77, -⟩ := (H.own 1 rfl).ix hx76
         have hc80 := ((H.own 1 rfl).at hx76 hi77).fst.int
         rcases Bool.eq_false_or_eq_true (x75.1 != 1) with hb81 | hb81
         ·replace h := bif_t hb81 h
          have Hs := H
          refine rg2 (σ := σ68) (Nm := Unit) 51 [] [[]] [[(0, 0)], [(0, 0)], [(0, 0)], [(0, 0)], [(0, 0)], [(0, 0)], [(0, 0)], [(0, 0)], [(0, 0)], [(0, 0)], [(0, 0)], [(0, 0)], [(0, 0)], [(0, 0)], [(0, 0)], [(0, 0)], [(0, 0)], [(0, 0)], [(0, 0)], [(0, 0)], [(0, 0)], [(0, 0)], [(0, 0)], [(0, 0)], [(0, 0)], [(0, 0)], [(0, 0)], [(0, 0)], [(0, 0)], [(0, 0)], [(0, 0)], [(0, 0)], [(0, 0)], [(0, 0)], [(0, 0)], [(0, 0)], [(0, 0)], [(0, 0)], [(0, 0)], [(0, 0)], [(0, 0)], [(0, 0)], [(0, 0)], [(0, 0)], [(0, 0)], [(0, 0)], [(0, 0)], [(0, 0)], [(0, 0)], [(0, 0)], [(0, 0)]] 0 [fun _ => fun σm => Hp S0 σ0 σm [Ch.own n0 n0 (Sl a7 r2.2 c8) r2.2, Ch.own n0 n0 (Sl a57 r54 c58) r54, Ch.own n0 n0 (Sl a63 r60 c64) r60] ∧ Md (cov []) σ68 σm] [fun _ => (I s67), fun _ => (Sl a57 r54 c58), fun _ => (I (r54.length : Int)), fun _ => (B (decide ((r54.length : Int) ≤ s67))), fun _ => (B (decide ((r54.length : Int) ≤ s67))), fun _ => (I s67), fun _ => (Sl a63 r60 c64), fun _ => (I (r60.length : Int)), fun _ => (B (decide ((r60.length : Int) ≤ s67))), fun _ => (B (decide ((r60.length : Int) ≤ s67))), fun _ => (B (decide ((r60.length : Int) ≤ s67))), fun _ => (Sl a57 r54 c58), fun _ => (I s67), fun _ => (pt b78 o79), fun _ => (pt b78 (o79 + 0)), fun _ => (I x75.1), fun _ => (B (x75.1 != 1)), fun _ => (B (x75.1 != 1)), fun _ => (B (x75.1 != 1)), fun _ => undef, fun _ => undef, fun _ => undef, fun _ => undef, fun _ => undef, fun _ => undef, fun _ => undef, fun _ => undef, fun _ => undef, fun _ => undef, fun _ => undef, fun _ => (B true), fun _ => (B true), fun _ => undef, fun _ => undef, fun _ => undef, fun _ => undef, fun _ => undef, fun _ => undef, fun _ => (B true), fun _ => (B true), fun _ => undef, fun _ => undef, fun _ => undef, fun _ => undef, fun _ => undef, fun _ => undef, fun _ => undef, fun _ => undef, fun _ => undef, fun _ => undef, fun _ => undef] () (by kernel_rfl) (by kernel_rfl) ?_ ?_ ?_
          ·intro σm m0
           exact ⟨H.grow (m0.mono fun _ h => h.elim), m0⟩
          ·refine ac rfl (by
             intro k _nm ρ σm hJ hoff hdep
             have e8 := look_off (N := 111) (hoff 8 rfl) rfl
             exact dp_v (v := (I s67)) wn (rv_move e8) rfl hJ) ?_
           refine ac rfl (by
             intro k _nm ρ σm hJ hoff hdep
             have e6 := look_off (N := 111) (hoff 6 rfl) rfl
             exact dp_v (v := (Sl a57 r54 c58)) wn (rv_move e6) rfl hJ) ?_
           refine ac rfl (by
             intro k _nm ρ σm hJ hoff hdep
             have e47 := hdep 1 rfl rfl 47 rfl
             exact dp_v (v := (I (r54.length : Int))) wn (rv_len Try.underlying35 e47) rfl hJ) ?_
           refine ac rfl (by
             intro k _nm ρ σm hJ hoff hdep
             have e46 := hdep 0 rfl rfl 46 rfl
             have e48 := hdep 2 rfl rfl 48 rfl
             exact dp_v (v := (B (decide ((r54.length : Int) ≤ s67)))) wn (rv_geq (a := s67) (b := (r54.length : Int)) e46 e48) rfl hJ) ?_
           refine ac rfl (by
             intro k _nm ρ σm hJ hoff hdep
             have e49 := hdep 3 rfl rfl 49 rfl
             exact dp_v (v := (B (decide ((r54.length : Int) ≤ s67)))) wn (rv_move e49) rfl hJ) ?_
           refine ac rfl (by
             intro k _nm ρ σm hJ hoff hdep
             have e8 := look_off (N := 111) (hoff 8 rfl) rfl
             have e50 := hdep 4 rfl rfl 50 rfl
             exact dp_v (v := (I s67)) (wanted_yes rfl (yv_of rfl (e50.trans (congrArg B hb71)))) (rv_move e8) rfl hJ) ?_
           refine ac rfl (by
             intro k _nm ρ σm hJ hoff hdep
             have e7 := look_off (N := 111) (hoff 7 rfl) rfl
             have e50 := hdep 4 rfl rfl 50 rfl
             exact dp_v (v := (Sl a63 r60 c64)) (wanted_yes rfl (yv_of rfl (e50.trans (congrArg B hb71)))) (rv_move e7) rfl hJ) ?_
           refine ac rfl (by
             intro k _nm ρ σm hJ hoff hdep
             have e52 := hdep 6 rfl rfl 52 rfl
             have e50 := hdep 4 rfl rfl 50 rfl
             exact dp_v (v := (I (r60.length : Int))) (wanted_yes rfl (yv_of rfl (e50.trans (congrArg B hb71)))) (rv_len Try.underlying35 e52) rfl hJ) ?_
           refine ac rfl (by
             intro k _nm ρ σm hJ hoff hdep
             have e51 := hdep 5 rfl rfl 51 rfl
             have e53 := hdep 7 rfl rfl 53 rfl
             have e50 := hdep 4 rfl rfl 50 rfl
             exact dp_v (v := (B (decide ((r60.length : Int) ≤ s67)))) (wanted_yes rfl (yv_of rfl (e50.trans (congrArg B hb71)))) (rv_geq (a := s67) (b := (r60.length : Int)) e51 e53) rfl hJ) ?_
           refine ac rfl (by
             intro k _nm ρ σm hJ hoff hdep
             have e50 := hdep 4 rfl rfl 50 rfl
             have e54 := hdep 8 rfl rfl 54 rfl
             exact dp_v (v := (B (decide ((r60.length : Int) ≤ s67)))) wn (rv_pick_f (e50.trans (congrArg B hb71)) e54) rfl hJ) ?_
           refine ac rfl (by
             intro k _nm ρ σm hJ hoff hdep
             have e55 := hdep 9 rfl rfl 55 rfl
             exact dp_v (v := (B (decide ((r60.length : Int) ≤ s67)))) wn (rv_move e55) rfl hJ) ?_
           refine ac rfl (by
             intro k _nm ρ σm hJ hoff hdep
             have e6 := look_off (N := 111) (hoff 6 rfl) rfl
             have e56 := hdep 10 rfl rfl 56 rfl
             exact dp_v (v := (Sl a57 r54 c58)) (wanted_yes rfl (yv_of rfl (e56.trans (congrArg B hb73)))) (rv_move e6) rfl hJ) ?_
           refine ac rfl (by
             intro k _nm ρ σm hJ hoff hdep
             have e8 := look_off (N := 111) (hoff 8 rfl) rfl
             have e56 := hdep 10 rfl rfl 56 rfl
             exact dp_v (v := (I s67)) (wanted_yes rfl (yv_of rfl (e56.trans (congrArg B hb73)))) (rv_move e8) rfl hJ) ?_
           refine ac rfl (by
             intro k _nm ρ σm hJ hoff hdep
             have e57 := hdep 11 rfl rfl 57 rfl
             have e58 := hdep 12 rfl rfl 58 rfl
             have e56 := hdep 10 rfl rfl 56 rfl
             exact dp_v (v := (pt b78 o79)) (wanted_yes rfl (yv_of rfl (e56.trans (congrArg B hb73)))) (rv_ix Try.underlying35 ti42 e57 e58 hi77) rfl hJ) ?_
           refine ac rfl (by
             intro k _nm ρ σm hJ hoff hdep
             have e59 := hdep 13 rfl rfl 59 rfl
             have e56 := hdep 10 rfl rfl 56 rfl
             exact dp_v (v := (pt b78 (o79 + 0))) (wanted_yes rfl (yv_of rfl (e56.trans (congrArg B hb73)))) (rv_fieldAddr (off := 0) (ft := 3) Try.underlying42 rfl ti3 rfl e59) rfl hJ) ?_
           refine all_cons (by
             refine ⟨?_, ?_⟩
             ·intro _nm ρ σm hJ hoff hdep
              have e60 := hdep 14 rfl rfl 60 rfl
              have e56 := hdep 10 rfl rfl 56 rfl
              obtain ⟨H, m⟩ := id hJ
              have hc80 := ((H.own 1 rfl).at hx76 hi77).fst.int
              exact dp_v (v := (I x75.1)) (wanted_yes rfl (yv_of rfl (e56.trans (congrArg B hb73)))) (rv_load1 Try.underlying3 rfl e60 hc80) rfl hJ
             trivial) ?_
           refine ac rfl (by
             intro k _nm ρ σm hJ hoff hdep
             have e61 := hdep 15 rfl rfl 61 rfl
             have e56 := hdep 10 rfl rfl 56 rfl
             exact dp_v (v := (B (x75.1 != 1))) (wanted_yes rfl (yv_of rfl (e56.trans (congrArg B hb73)))) (rv_neq (a := x75.1) (b := 1) e61 rfl) rfl hJ) ?_
           refine ac rfl (by
             intro k _nm ρ σm hJ hoff hdep
             have e56 := hdep 10 rfl rfl 56 rfl
             have e62 := hdep 16 rfl rfl 62 rfl
             exact dp_v (v := (B (x75.1 != 1))) wn (rv_pick_f (e56.trans (congrArg B hb73)) e62) rfl hJ) ?_
           refine ac rfl (by
             intro k _nm ρ σm hJ hoff hdep
             have e63 := hdep 17 rfl rfl 63 rfl
             exact dp_v (v := (B (x75.1 != 1))) wn (rv_move e63) rfl hJ) ?_
           refine ac rfl (by
             intro k _nm ρ σm hJ hoff hdep
             have e64 := hdep 18 rfl rfl 64 rfl
             exact dp_skip (wanted_no rfl (yv_of rfl (e64.trans (congrArg B hb81)))) rfl hJ) ?_
           refine ac rfl (by
             intro k _nm ρ σm hJ hoff hdep
             have e64 := hdep 18 rfl rfl 64 rfl
             exact dp_skip (wanted_no rfl (yv_of rfl (e64.trans (congrArg B hb81)))) rfl hJ) ?_
           refine ac rfl (by
             intro k _nm ρ σm hJ hoff hdep
             have e64 := hdep 18 rfl rfl 64 rfl
             exact dp_skip (wanted_no rfl (yv_of rfl (e64.trans (congrArg B hb81)))) rfl hJ) ?_
           refine ac rfl (by
             intro k _nm ρ σm hJ hoff hdep
             have e64 := hdep 18 rfl rfl 64 rfl
             exact dp_skip (wanted_no rfl (yv_of rfl (e64.trans (congrArg B hb81)))) rfl hJ) ?_
           refine ac rfl (by
             intro k _nm ρ σm hJ hoff hdep
             have e64 := hdep 18 rfl rfl 64 rfl
             exact dp_skip (wanted_no rfl (yv_of rfl (e64.trans (congrArg B hb81)))) rfl hJ) ?_
           refine ac rfl (by
             intro k _nm ρ σm hJ hoff hdep
             have e64 := hdep 18 rfl rfl 64 rfl
             exact dp_skip (wanted_no rfl (yv_of rfl (e64.trans (congrArg B hb81)))) rfl hJ) ?_
           refine ac rfl (by
             intro k _nm ρ σm hJ hoff hdep
             have e64 := hdep 18 rfl rfl 64 rfl
             exact dp_skip (wanted_no rfl (yv_of rfl (e64.trans (congrArg B hb81)))) rfl hJ) ?_
           refine ac rfl (by
             intro k _nm ρ σm hJ hoff hdep
             have e64 := hdep 18 rfl rfl 64 rfl
             exact dp_skip (wanted_no rfl (yv_of rfl (e64.trans (congrArg B hb81)))) rfl hJ) ?_
           refine ac rfl (by
             intro k _nm ρ σm hJ hoff hdep
             have e64 := hdep 18 rfl rfl 64 rfl
             exact dp_skip (wanted_no rfl (yv_of rfl (e64.trans (congrArg B hb81)))) rfl hJ) ?_
           refine ac rfl (by
             intro k _nm ρ σm hJ hoff hdep
             have e64 := hdep 18 rfl rfl 64 rfl
             exact dp_skip (wanted_no rfl (yv_of rfl (e64.trans (congrArg B hb81)))) rfl hJ) ?_
           refine ac rfl (by
             intro k _nm ρ σm hJ hoff hdep
             have e64 := hdep 18 rfl rfl 64 rfl
             exact dp_skip (wanted_no rfl (yv_of rfl (e64.trans (congrArg B hb81)))) rfl hJ) ?_
           refine ac rfl (by
             intro k _nm ρ σm hJ hoff hdep
             have e64 := hdep 18 rfl rfl 64 rfl
             exact dp_v (v := (B true)) wn (rv_pick_t (e64.trans (congrArg B hb81)) rfl) rfl hJ) ?_
           refine ac rfl (by
             intro k _nm ρ σm hJ hoff hdep
             have e76 := hdep 30 rfl rfl 76 rfl
             exact dp_v (v := (B true)) wn (rv_move e76) rfl hJ) ?_
           refine ac rfl (by
             intro k _nm ρ σm hJ hoff hdep
             have e77 := hdep 31 rfl rfl 77 rfl
             exact dp_skip (wanted_no rfl (yv_of rfl e77)) rfl hJ) ?_
           refine ac rfl (by
             intro k _nm ρ σm hJ hoff hdep
             have e77 := hdep 31 rfl rfl 77 rfl
             exact dp_skip (wanted_no rfl (yv_of rfl e77)) rfl hJ) ?_
           refine ac rfl (by
             intro k _nm ρ σm hJ hoff hdep
             have e77 := hdep 31 rfl rfl 77 rfl
             exact dp_skip (wanted_no rfl (yv_of rfl e77)) rfl hJ) ?_
           refine ac rfl (by
             intro k _nm ρ σm hJ hoff hdep
             have e77 := hdep 31 rfl rfl 77 rfl
             exact dp_skip (wanted_no rfl (yv_of rfl e77)) rfl hJ) ?_
           refine ac rfl (by
             intro k _nm ρ σm hJ hoff hdep
             have e77 := hdep 31 rfl rfl 77 rfl
             exact dp_skip (wanted_no rfl (yv_of rfl e77)) rfl hJ) ?_
           refine ac rfl (by
             intro k _nm ρ σm hJ hoff hdep
             have e77 := hdep 31 rfl rfl 77 rfl
             exact dp_skip (wanted_no rfl (yv_of rfl e77)) rfl hJ) ?_
           refine ac rfl (by
             intro k _nm ρ σm hJ hoff hdep
             have e77 := hdep 31 rfl rfl 77 rfl
             exact dp_v (v := (B true)) wn (rv_pick_t e77 rfl) rfl hJ) ?_
           refine ac rfl (by
             intro k _nm ρ σm hJ hoff hdep
             have e84 := hdep 38 rfl rfl 84 rfl
             exact dp_v (v := (B true)) wn (rv_move e84) rfl hJ) ?_
           refine ac rfl (by
             intro k _nm ρ σm hJ hoff hdep
             have e85 := hdep 39 rfl rfl 85 rfl
             exact dp_skip (wanted_no rfl (yv_of rfl e85)) rfl hJ) ?_
           refine ac rfl (by
             intro k _nm ρ σm hJ hoff hdep
             have e85 := hdep 39 rfl rfl 85 rfl
             exact dp_skip (wanted_no rfl (yv_of rfl e85)) rfl hJ) ?_
           refine ac rfl (by
             intro k _nm ρ σm hJ hoff hdep
             have e85 := hdep 39 rfl rfl 85 rfl
             exact dp_skip (wanted_no rfl (yv_of rfl e85)) rfl hJ) ?_
           refine ac rfl (by
             intro k _nm ρ σm hJ hoff hdep
             have e85 := hdep 39 rfl rfl 85 rfl
             exact dp_skip (wanted_no rfl (yv_of rfl e85)) rfl hJ) ?_
           refine ac rfl (by
             intro k _nm ρ σm hJ hoff hdep
             have e85 := hdep 39 rfl rfl 85 rfl
             exact dp_skip (wanted_no rfl (yv_of rfl e85)) rfl hJ) ?_
           refine ac rfl (by
             intro k _nm ρ σm hJ hoff hdep
             have e85 := hdep 39 rfl rfl 85 rfl
             exact dp_skip (wanted_no rfl (yv_of rfl e85)) rfl hJ) ?_
           refine ac rfl (by
             intro k _nm ρ σm hJ hoff hdep
             have e85 := hdep 39 rfl rfl 85 rfl
             exact dp_skip (wanted_no rfl (yv_of rfl e85)) rfl hJ) ?_
           refine ac rfl (by
             intro k _nm ρ σm hJ hoff hdep
             have e85 := hdep 39 rfl rfl 85 rfl
             exact dp_skip (wanted_no rfl (yv_of rfl e85)) rfl hJ) ?_
           refine ac rfl (by
             intro k _nm ρ σm hJ hoff hdep
             have e85 := hdep 39 rfl rfl 85 rfl
             exact dp_skip (wanted_no rfl (yv_of rfl e85)) rfl hJ) ?_
           refine ac rfl (by
             intro k _nm ρ σm hJ hoff hdep
             have e85 := hdep 39 rfl rfl 85 rfl
             exact dp_skip (wanted_no rfl (yv_of rfl e85)) rfl hJ) ?_
           refine ac rfl (by
             intro k _nm ρ σm hJ hoff hdep
             have e85 := hdep 39 rfl rfl 85 rfl
             exact dp_skip (wanted_no rfl (yv_of rfl e85)) rfl hJ) ?_
           exact all_nil
          ·intro _nm ρ σ82 hJ hoff hrel
           have e4 := look_off (N := 111) (hoff 4 rfl) rfl
           have e6 := look_off (N := 111) (hoff 6 rfl) rfl
           have e7 := look_off (N := 111) (hoff 7 rfl) rfl
           have e8 := look_off (N := 111) (hoff 8 rfl) rfl
           have e85 := hrel 39 rfl 85 rfl
           have e91 := hrel 45 rfl 91 rfl
           have e96 := hrel 50 rfl 96 rfl
           obtain ⟨H, -⟩ := (show Hp S0 σ0 σ82 [Ch.own n0 n0 (Sl a7 r2.2 c8) r2.2, Ch.own n0 n0 (Sl a57 r54 c58) r54, Ch.own n0 n0 (Sl a63 r60 c64) r60] ∧ Md (cov []) σ68 σ82 from hJ)
           clear hJ Hs
           rw [fr_lookL (L := [(4, (Sl a7 r2.2 c8)), (6, (Sl a57 r54 c58)), (7, (Sl a63 r60 c64)), (8, (I s67)), (85, (B true)), (91, undef), (96, undef)]) ⟨e4, e6, e7, e8, e85, e91, e96, trivial⟩]
           clear hoff hrel e4 e6 e7 e8 e85 e91 e96
           refine st_skip rfl ?_
           refine st (v := (B true)) (rv_pick_t rfl rfl) ?_
           refine w_end ?_
           obtain rfl := Option.some.inj h
           exact ⟨rfl, _, σ82, fr_join ⟨rfl, rfl, rfl, rfl, rfl, trivial⟩, rfl, H.sel' [0, 1, 2] rfl rfl⟩
         ·replace h := bif_f hb81 h
          obtain ⟨x83, hx84, h'⟩ := bind_some h
          clear h
          have h := h'; clear h'
          obtain ⟨b86, o87, hi85, -⟩ := (H.own 1 rfl).ix hx84
          obtain ⟨_, ⟨_, _, rfl, rfl, ⟨_, _, rfl, ⟨_, rfl, hR92⟩, rfl⟩⟩, hl88, hc89⟩ := ((H.own 1 rfl).at hx84 hi85).snd.cells
          obtain ⟨a90, c91, rfl⟩ := hR92.isSl
          replace H := H.add (d := Ch.ro n0 (Sl a90 x83.2.2.1 c91) x83.2.2.1) hR92 (fun _ h => h)
          clear hR92
          obtain ⟨x93, hx94, h'⟩ := bind_some h
          clear h
          have h := h'; clear h'
          obtain ⟨b96, o97, hi95, -⟩ := (H.own 1 rfl).ix hx94
          obtain ⟨_, ⟨_, _, rfl, rfl, ⟨_, _, rfl, ⟨_, rfl, hR102⟩, rfl⟩⟩, hl98, hc99⟩ := ((H.own 1 rfl).at hx94 hi95).cells
          obtain ⟨a100, c101, rfl⟩ := hR102.isSl
          replace H := H.add (d := Ch.ro n0 (Sl a100 x93.2.1 c101) x93.2.1) hR102 (fun _ h => h)
          clear hR102
          replace H := H.roLow 1 0 rfl (Nat.zero_le _)
          replace H := H.roLow 1 0 rfl (Nat.zero_le _)
          obtain ⟨r103, hx104, h'⟩ := bind_some h
          clear h
          have h := h'; clear h'
          have hc105 := c_laws_equalItem (aa_0_1 := a90) (ca_0_1 := c91) (ab_1_1 := a100) (cb_1_1 := c101) hx104
          rcases Bool.eq_false_or_eq_true (!r103) with hb106 | hb106
          ·replace h := bif_t hb106 h
           have Hs := H
           refine rg2 (σ := σ68) (Nm := Unit) 51 [28] [[false], [true]] [[(0, 0)], [(0, 0)], [(0, 0)], [(0, 0)], [(0, 0)], [(0, 0)], [(0, 0)], [(0, 0)], [(0, 0)], [(0, 0)], [(0, 0)], [(0, 0)], [(0, 0)], [(0, 0)], [(0, 0)], [(0, 0)], [(0, 0)], [(0, 0)], [(0, 0)], [(0, 0)], [(0, 0)], [(0, 0)], [(0, 0)], [(0, 0)], [(0, 0)], [(0, 0)], [(0, 0)], [(0, 0)], [(0, 1)], [(1, 1)], [(1, 1)], [(1, 1)], [(1, 1)], [(1, 1)], [(1, 1)], [(1, 1)], [(1, 1)], [(1, 1)], [(1, 1)], [(1, 1)], [(1, 1)], [(1, 1)], [(1, 1)], [(1, 1)], [(1, 1)], [(1, 1)], [(1, 1)], [(1, 1)], [(1, 1)], [(1, 1)], [(1, 1)]] 1 [fun _ => fun σm => Hp S0 σ0 σm [Ch.ro 0 (Sl a100 x93.2.1 c101) x93.2.1, Ch.ro 0 (Sl a90 x83.2.2.1 c91) x83.2.2.1, Ch.ro n0 (Sl a100 x93.2.1 c101) x93.2.1, Ch.ro n0 (Sl a90 x83.2.2.1 c91) x83.2.2.1, Ch.own n0 n0 (Sl a7 r2.2 c8) r2.2, Ch.own n0 n0 (Sl a57 r54 c58) r54, Ch.own n0 n0 (Sl a63 r60 c64) r60] ∧ Md (cov []) σ68 σm, fun _ => fun σm => Hp S0 σ0 σm [Ch.ro 0 (Sl a100 x93.2.1 c101) x93.2.1, Ch.ro 0 (Sl a90 x83.2.2.1 c91) x83.2.2.1, Ch.ro n0 (Sl a100 x93.2.1 c101) x93.2.1, Ch.ro n0 (Sl a90 x83.2.2.1 c91) x83.2.2.1, Ch.own n0 n0 (Sl a7 r2.2 c8) r2.2, Ch.own n0 n0 (Sl a57 r54 c58) r54, Ch.own n0 n0 (Sl a63 r60 c64) r60] ∧ Md (cov []) σ68 σm] [fun _ => (I s67), fun _ => (Sl a57 r54 c58), fun _ => (I (r54.length : Int)), fun _ => (B (decide ((r54.length : Int) ≤ s67))), fun _ => (B (decide ((r54.length : Int) ≤ s67))), fun _ => (I s67), fun _ => (Sl a63 r60 c64), fun _ => (I (r60.length : Int)), fun _ => (B (decide ((r60.length : Int) ≤ s67))), fun _ => (B (decide ((r60.length : Int) ≤ s67))), fun _ => (B (decide ((r60.length : Int) ≤ s67))), fun _ => (Sl a57 r54 c58), fun _ => (I s67), fun _ => (pt b78 o79), fun _ => (pt b78 (o79 + 0)), fun _ => (I x75.1), fun _ => (B (x75.1 != 1)), fun _ => (B (x75.1 != 1)), fun _ => (B (x75.1 != 1)), fun _ => (Sl a57 r54 c58), fun _ => (I s67), fun _ => (pt b86 o87), fun _ => (pt b86 (o87 + 1)), fun _ => (.agg #[(I x83.2.1), (Sl a90 x83.2.2.1 c91), (I x83.2.2.2)]), fun _ => (Sl a7 r2.2 c8), fun _ => (I s67), fun _ => (pt b96 o97), fun _ => (.agg #[(I x93.1), (Sl a100 x93.2.1 c101), (I x93.2.2)]), fun _ => (B r103), fun _ => (B (!r103)), fun _ => (B (!r103)), fun _ => (B (!r103)), fun _ => undef, fun _ => undef, fun _ => undef, fun _ => undef, fun _ => undef, fun _ => undef, fun _ => (B true), fun _ => (B true), fun _ => undef, fun _ => undef, fun _ => undef, fun _ => undef, fun _ => undef, fun _ => undef, fun _ => undef, fun _ => undef, fun _ => undef, fun _ => undef, fun _ => undef] () (by kernel_rfl) (by kernel_rfl) ?_ ?_ ?_
           ·intro σm m0
            exact ⟨H.grow (m0.mono fun _ h => h.elim), m0⟩
           ·refine ac rfl (by
              intro k _nm ρ σm hJ hoff hdep
              have e8 := look_off (N := 111) (hoff 8 rfl) rfl
              exact dp_v (v := (I s67)) wn (rv_move e8) rfl hJ) ?_
            refine ac rfl (by
              intro k _nm ρ σm hJ hoff hdep
              have e6 := look_off (N := 111) (hoff 6 rfl) rfl
              exact dp_v (v := (Sl a57 r54 c58)) wn (rv_move e6) rfl hJ) ?_
            refine ac rfl (by
              intro k _nm ρ σm hJ hoff hdep
              have e47 := hdep 1 rfl rfl 47 rfl
              exact dp_v (v := (I (r54.length : Int))) wn (rv_len Try.underlying35 e47) rfl hJ) ?_
            refine ac rfl (by
              intro k _nm ρ σm hJ hoff hdep
              have e46 := hdep 0 rfl rfl 46 rfl
              have e48 := hdep 2 rfl rfl 48 rfl
              exact dp_v (v := (B (decide ((r54.length : Int) ≤ s67)))) wn (rv_geq (a := s67) (b := (r54.length : Int)) e46 e48) rfl hJ) ?_
            refine ac rfl (by
              intro k _nm ρ σm hJ hoff hdep
              have e49 := hdep 3 rfl rfl 49 rfl
              exact dp_v (v := (B (decide ((r54.length : Int) ≤ s67)))) wn (rv_move e49) rfl hJ) ?_
            refine ac rfl (by
              intro k _nm ρ σm hJ hoff hdep
              have e8 := look_off (N := 111) (hoff 8 rfl) rfl
              have e50 := hdep 4 rfl rfl 50 rfl
              exact dp_v (v := (I s67)) (wanted_yes rfl (yv_of rfl (e50.trans (congrArg B hb71)))) (rv_move e8) rfl hJ) ?_
            refine ac rfl (by
              intro k _nm ρ σm hJ hoff hdep
              have e7 := look_off (N := 111) (hoff 7 rfl) rfl
              have e50 := hdep 4 rfl rfl 50 rfl
              exact dp_v (v := (Sl a63 r60 c64)) (wanted_yes rfl (yv_of rfl (e50.trans (congrArg B hb71)))) (rv_move e7) rfl hJ) ?_
            refine ac rfl (by
              intro k _nm ρ σm hJ hoff hdep
              have e52 := hdep 6 rfl rfl 52 rfl
              have e50 := hdep 4 rfl rfl 50 rfl
              exact dp_v (v := (I (r60.length : Int))) (wanted_yes rfl (yv_of rfl (e50.trans (congrArg B hb71)))) (rv_len Try.underlying35 e52) rfl hJ) ?_
            refine ac rfl (by
              intro k _nm ρ σm hJ hoff hdep
              have e51 := hdep 5 rfl rfl 51 rfl
              have e53 := hdep 7 rfl rfl 53 rfl
              have e50 := hdep 4 rfl rfl 50 rfl
              exact dp_v (v := (B (decide ((r60.length : Int) ≤ s67)))) (wanted_yes rfl (yv_of rfl (e50.trans (congrArg B hb71)))) (rv_geq (a := s67) (b := (r60.length : Int)) e51 e53) rfl hJ) ?_
            refine ac rfl (by
              intro k _nm ρ σm hJ hoff hdep
              have e50 := hdep 4 rfl rfl 50 rfl
              have e54 := hdep 8 rfl rfl 54 rfl
              exact dp_v (v := (B (decide ((r60.length : Int) ≤ s67)))) wn (rv_pick_f (e50.trans (congrArg B hb71)) e54) rfl hJ) ?_
            refine ac rfl (by
              intro k _nm ρ σm hJ hoff hdep
              have e55 := hdep 9 rfl rfl 55 rfl
              exact dp_v (v := (B (decide ((r60.length : Int) ≤ s67)))) wn (rv_move e55) rfl hJ) ?_
            refine ac rfl (by
              intro k _nm ρ σm hJ hoff hdep
              have e6 := look_off (N := 111) (hoff 6 rfl) rfl
              have e56 := hdep 10 rfl rfl 56 rfl
              exact dp_v (v := (Sl a57 r54 c58)) (wanted_yes rfl (yv_of rfl (e56.trans (congrArg B hb73)))) (rv_move e6) rfl hJ) ?_
            refine ac rfl (by
              intro k _nm ρ σm hJ hoff hdep
              have e8 := look_off (N := 111) (hoff 8 rfl) rfl
              have e56 := hdep 10 rfl rfl 56 rfl
              exact dp_v (v := (I s67)) (wanted_yes rfl (yv_of rfl (e56.trans (congrArg B hb73)))) (rv_move e8) rfl hJ) ?_
            refine ac rfl (by
              intro k _nm ρ σm hJ hoff hdep
              have e57 := hdep 11 rfl rfl 57 rfl
              have e58 := hdep 12 rfl rfl 58 rfl
              have e56 := hdep 10 rfl rfl 56 rfl
              exact dp_v (v := (pt b78 o79)) (wanted_yes rfl (yv_of rfl (e56.trans (congrArg B hb73)))) (rv_ix Try.underlying35 ti42 e57 e58 hi77) rfl hJ) ?_
            refine ac rfl (by
              intro k _nm ρ σm hJ hoff hdep
              have e59 := hdep 13 rfl rfl 59 rfl
              have e56 := hdep 10 rfl rfl 56 rfl
              exact dp_v (v := (pt b78 (o79 + 0))) (wanted_yes rfl (yv_of rfl (e56.trans (congrArg B hb73)))) (rv_fieldAddr (off := 0) (ft := 3) Try.underlying42 rfl ti3 rfl e59) rfl hJ) ?_
            refine all_cons (by
              refine ⟨?_, ?_⟩
              ·intro _nm ρ σm hJ hoff hdep
               have e60 := hdep 14 rfl rfl 60 rfl
               have e56 := hdep 10 rfl rfl 56 rfl
               obtain ⟨H, m⟩ := id hJ
               have hc80 := ((H.own 5 rfl).at hx76 hi77).fst.int
               exact dp_v (v := (I x75.1)) (wanted_yes rfl (yv_of rfl (e56.trans (congrArg B hb73)))) (rv_load1 Try.underlying3 rfl e60 hc80) rfl hJ
              trivial) ?_
            refine ac rfl (by
              intro k _nm ρ σm hJ hoff hdep
              have e61 := hdep 15 rfl rfl 61 rfl
              have e56 := hdep 10 rfl rfl 56 rfl
              exact dp_v (v := (B (x75.1 != 1))) (wanted_yes rfl (yv_of rfl (e56.trans (congrArg B hb73)))) (rv_neq (a := x75.1) (b := 1) e61 rfl) rfl hJ) ?_
            refine ac rfl (by
              intro k _nm ρ σm hJ hoff hdep
              have e56 := hdep 10 rfl rfl 56 rfl
              have e62 := hdep 16 rfl rfl 62 rfl
              exact dp_v (v := (B (x75.1 != 1))) wn (rv_pick_f (e56.trans (congrArg B hb73)) e62) rfl hJ) ?_
            refine ac rfl (by
              intro k _nm ρ σm hJ hoff hdep
              have e63 := hdep 17 rfl rfl 63 rfl
              exact dp_v (v := (B (x75.1 != 1))) wn (rv_move e63) rfl hJ) ?_
            refine ac rfl (by
              intro k _nm ρ σm hJ hoff hdep
              have e6 := look_off (N := 111) (hoff 6 rfl) rfl
              have e64 := hdep 18 rfl rfl 64 rfl
              exact dp_v (v := (Sl a57 r54 c58)) (wanted_yes rfl (yv_of rfl (e64.trans (congrArg B hb81)))) (rv_move e6) rfl hJ) ?_
            refine ac rfl (by
              intro k _nm ρ σm hJ hoff hdep
              have e8 := look_off (N := 111) (hoff 8 rfl) rfl
              have e64 := hdep 18 rfl rfl 64 rfl
              exact dp_v (v := (I s67)) (wanted_yes rfl (yv_of rfl (e64.trans (congrArg B hb81)))) (rv_move e8) rfl hJ) ?_
            refine ac rfl (by
              intro k _nm ρ σm hJ hoff hdep
              have e65 := hdep 19 rfl rfl 65 rfl
              have e66 := hdep 20 rfl rfl 66 rfl
              have e64 := hdep 18 rfl rfl 64 rfl
              exact dp_v (v := (pt b86 o87)) (wanted_yes rfl (yv_of rfl (e64.trans (congrArg B hb81)))) (rv_ix Try.underlying35 ti42 e65 e66 hi85) rfl hJ) ?_
            refine ac rfl (by
              intro k _nm ρ σm hJ hoff hdep
              have e67 := hdep 21 rfl rfl 67 rfl
              have e64 := hdep 18 rfl rfl 64 rfl
              exact dp_v (v := (pt b86 (o87 + 1))) (wanted_yes rfl (yv_of rfl (e64.trans (congrArg B hb81)))) (rv_fieldAddr (off := 1) (ft := 32) Try.underlying42 rfl ti32 rfl e67) rfl hJ) ?_
            refine all_cons (by
              refine ⟨?_, ?_⟩
              ·intro _nm ρ σm hJ hoff hdep
               have e68 := hdep 22 rfl rfl 68 rfl
               have e64 := hdep 18 rfl rfl 64 rfl
               obtain ⟨H, m⟩ := id hJ
               replace hc89 := fun j hj => m.hcell (hc89 j hj) nocov
               exact dp_v (v := (.agg #[(I x83.2.1), (Sl a90 x83.2.2.1 c91), (I x83.2.2.2)])) (wanted_yes rfl (yv_of rfl (e64.trans (congrArg B hb81)))) (rv_load Try.underlying32 rfl ti32 e68 hl88 hc89) rfl hJ
              trivial) ?_
            refine ac rfl (by
              intro k _nm ρ σm hJ hoff hdep
              have e4 := look_off (N := 111) (hoff 4 rfl) rfl
              have e64 := hdep 18 rfl rfl 64 rfl
              exact dp_v (v := (Sl a7 r2.2 c8)) (wanted_yes rfl (yv_of rfl (e64.trans (congrArg B hb81)))) (rv_move e4) rfl hJ) ?_
            refine ac rfl (by
              intro k _nm ρ σm hJ hoff hdep
              have e8 := look_off (N := 111) (hoff 8 rfl) rfl
              have e64 := hdep 18 rfl rfl 64 rfl
              exact dp_v (v := (I s67)) (wanted_yes rfl (yv_of rfl (e64.trans (congrArg B hb81)))) (rv_move e8) rfl hJ) ?_
            refine ac rfl (by
              intro k _nm ρ σm hJ hoff hdep
              have e70 := hdep 24 rfl rfl 70 rfl
              have e71 := hdep 25 rfl rfl 71 rfl
              have e64 := hdep 18 rfl rfl 64 rfl
              exact dp_v (v := (pt b96 o97)) (wanted_yes rfl (yv_of rfl (e64.trans (congrArg B hb81)))) (rv_ix Try.underlying23 ti32 e70 e71 hi95) rfl hJ) ?_
            refine all_cons (by
              refine ⟨?_, ?_⟩
              ·intro _nm ρ σm hJ hoff hdep
               have e72 := hdep 26 rfl rfl 72 rfl
               have e64 := hdep 18 rfl rfl 64 rfl
               obtain ⟨H, m⟩ := id hJ
               replace hc99 := fun j hj => m.hcell (hc99 j hj) nocov
               exact dp_v (v := (.agg #[(I x93.1), (Sl a100 x93.2.1 c101), (I x93.2.2)])) (wanted_yes rfl (yv_of rfl (e64.trans (congrArg B hb81)))) (rv_load Try.underlying32 rfl ti32 e72 hl98 hc99) rfl hJ
              trivial) ?_
            refine all_cons (by
              refine ⟨?_, ?_⟩
              ·intro _nm ρ σm hJ hoff hdep
               have e69 : look 111 ρ 69 = (.agg #[(I x83.2.1), (Sl a90 x83.2.2.1 c91), (I x83.2.2.2)]) := hdep 23 rfl rfl 69 rfl
               have e73 : look 111 ρ 73 = (.agg #[(I x93.1), (Sl a100 x93.2.1 c101), (I x93.2.2)]) := hdep 27 rfl rfl 73 rfl
               have e64 := hdep 18 rfl rfl 64 rfl
               obtain ⟨H, m⟩ := id hJ
               refine dp_cx (wanted_yes rfl (yv_of rfl (e64.trans (congrArg B hb81)))) (cx_call hc105 (ent_f hc105.fn (by show [look 111 ρ 69, look 111 ρ 73] = _; rw [e69, e73])) hn0 (show Hp S0 σ0 _ ([Ch.ro 0 (Sl a90 x83.2.2.1 c91) x83.2.2.1, Ch.ro 0 (Sl a100 x93.2.1 c101) x93.2.1] ++ [Ch.ro 0 (Sl a100 x93.2.1 c101) x93.2.1, Ch.ro 0 (Sl a90 x83.2.2.1 c91) x83.2.2.1, Ch.ro n0 (Sl a100 x93.2.1 c101) x93.2.1, Ch.ro n0 (Sl a90 x83.2.2.1 c91) x83.2.2.1, Ch.own n0 n0 (Sl a7 r2.2 c8) r2.2, Ch.own n0 n0 (Sl a57 r54 c58) r54, Ch.own n0 n0 (Sl a63 r60 c64) r60]) from (H.sel' [1, 0, 0, 1, 2, 3, 4, 5, 6] rfl rfl))) ?_
               rintro _ σq ⟨_, ⟨rfl, rfl⟩, H2, m2⟩
               exact ⟨_, (), rfl, rfl, ⟨H2.sel' [0, 1, 2, 3, 4, 5, 6] rfl rfl, m.comp0 (m2.mono (fun i h => by simp [cov, Ch.ro] at h))⟩, stab [0, 1, 2, 3, 4, 5, 6, 7, 8, 9, 10, 11, 12, 13, 14, 15, 16, 17, 18, 19, 20, 21, 22, 23, 24, 25, 26, 27] (by kernel_rfl) ⟨rfl, rfl, rfl, rfl, rfl, rfl, rfl, rfl, rfl, rfl, rfl, rfl, rfl, rfl, rfl, rfl, rfl, rfl, rfl, rfl, rfl, rfl, rfl, rfl, rfl, rfl, rfl, rfl, trivial⟩⟩
              trivial) ?_
            refine ac rfl (by
              intro k _nm ρ σm hJ hoff hdep
              have e74 := hdep 28 rfl rfl 74 rfl
              have e64 := hdep 18 rfl rfl 64 rfl
              exact dp_v (v := (B (!r103))) (wanted_yes rfl (yv_of rfl (e64.trans (congrArg B hb81)))) (rv_not e74) rfl hJ) ?_
            refine ac rfl (by
              intro k _nm ρ σm hJ hoff hdep
              have e64 := hdep 18 rfl rfl 64 rfl
              have e75 := hdep 29 rfl rfl 75 rfl
              exact dp_v (v := (B (!r103))) wn (rv_pick_f (e64.trans (congrArg B hb81)) e75) rfl hJ) ?_
            refine ac rfl (by
              intro k _nm ρ σm hJ hoff hdep
              have e76 := hdep 30 rfl rfl 76 rfl
              exact dp_v (v := (B (!r103))) wn (rv_move e76) rfl hJ) ?_
            refine ac rfl (by
              intro k _nm ρ σm hJ hoff hdep
              have e77 := hdep 31 rfl rfl 77 rfl
              exact dp_skip (wanted_no rfl (yv_of rfl (e77.trans (congrArg B hb106)))) rfl hJ) ?_
            refine ac rfl (by
              intro k _nm ρ σm hJ hoff hdep
              have e77 := hdep 31 rfl rfl 77 rfl
              exact dp_skip (wanted_no rfl (yv_of rfl (e77.trans (congrArg B hb106)))) rfl hJ) ?_
            refine ac rfl (by
              intro k _nm ρ σm hJ hoff hdep
              have e77 := hdep 31 rfl rfl 77 rfl
              exact dp_skip (wanted_no rfl (yv_of rfl (e77.trans (congrArg B hb106)))) rfl hJ) ?_
            refine ac rfl (by
              intro k _nm ρ σm hJ hoff hdep
              have e77 := hdep 31 rfl rfl 77 rfl
              exact dp_skip (wanted_no rfl (yv_of rfl (e77.trans (congrArg B hb106)))) rfl hJ) ?_
            refine ac rfl (by
              intro k _nm ρ σm hJ hoff hdep
              have e77 := hdep 31 rfl rfl 77 rfl
              exact dp_skip (wanted_no rfl (yv_of rfl (e77.trans (congrArg B hb106)))) rfl hJ) ?_
            refine ac rfl (by
              intro k _nm ρ σm hJ hoff hdep
              have e77 := hdep 31 rfl rfl 77 rfl
              exact dp_skip (wanted_no rfl (yv_of rfl (e77.trans (congrArg B hb106)))) rfl hJ) ?_
            refine ac rfl (by
              intro k _nm ρ σm hJ hoff hdep
              have e77 := hdep 31 rfl rfl 77 rfl
              exact dp_v (v := (B true)) wn (rv_pick_t (e77.trans (congrArg B hb106)) rfl) rfl hJ) ?_
            refine ac rfl (by
              intro k _nm ρ σm hJ hoff hdep
              have e84 := hdep 38 rfl rfl 84 rfl
              exact dp_v (v := (B true)) wn (rv_move e84) rfl hJ) ?_
            refine ac rfl (by
              intro k _nm ρ σm hJ hoff hdep
              have e85 := hdep 39 rfl rfl 85 rfl
              exact dp_skip (wanted_no rfl (yv_of rfl e85)) rfl hJ) ?_
            refine ac rfl (by
              intro k _nm ρ σm hJ hoff hdep
              have e85 := hdep 39 rfl rfl 85 rfl
              exact dp_skip (wanted_no rfl (yv_of rfl e85)) rfl hJ) ?_
            refine ac rfl (by
              intro k _nm ρ σm hJ hoff hdep
              have e85 := hdep 39 rfl rfl 85 rfl
              exact dp_skip (wanted_no rfl (yv_of rfl e85)) rfl hJ) ?_
            refine ac rfl (by
              intro k _nm ρ σm hJ hoff hdep
              have e85 := hdep 39 rfl rfl 85 rfl
              exact dp_skip (wanted_no rfl (yv_of rfl e85)) rfl hJ) ?_
            refine ac rfl (by
              intro k _nm ρ σm hJ hoff hdep
              have e85 := hdep 39 rfl rfl 85 rfl
              exact dp_skip (wanted_no rfl (yv_of rfl e85)) rfl hJ) ?_
            refine ac rfl (by
              intro k _nm ρ σm hJ hoff hdep
              have e85 := hdep 39 rfl rfl 85 rfl
              exact dp_skip (wanted_no rfl (yv_of rfl e85)) rfl hJ) ?_
            refine ac rfl (by
              intro k _nm ρ σm hJ hoff hdep
              have e85 := hdep 39 rfl rfl 85 rfl
              exact dp_skip (wanted_no rfl (yv_of rfl e85)) rfl hJ) ?_
            refine ac rfl (by
              intro k _nm ρ σm hJ hoff hdep
              have e85 := hdep 39 rfl rfl 85 rfl
              exact dp_skip (wanted_no rfl (yv_of rfl e85)) rfl hJ) ?_
            refine ac rfl (by
              intro k _nm ρ σm hJ hoff hdep
              have e85 := hdep 39 rfl rfl 85 rfl
              exact dp_skip (wanted_no rfl (yv_of rfl e85)) rfl hJ) ?_
            refine ac rfl (by
              intro k _nm ρ σm hJ hoff hdep
              have e85 := hdep 39 rfl rfl 85 rfl
              exact dp_skip (wanted_no rfl (yv_of rfl e85)) rfl hJ) ?_
            refine ac rfl (by
              intro k _nm ρ σm hJ hoff hdep
              have e85 := hdep 39 rfl rfl 85 rfl
              exact dp_skip (wanted_no rfl (yv_of rfl e85)) rfl hJ) ?_
            exact all_nil
           ·intro _nm ρ σ107 hJ hoff hrel
            have e4 := look_off (N := 111) (hoff 4 rfl) rfl
            have e6 := look_off (N := 111) (hoff 6 rfl) rfl
            have e7 := look_off (N := 111) (hoff 7 rfl) rfl
            have e8 := look_off (N := 111) (hoff 8 rfl) rfl
            have e85 := hrel 39 rfl 85 rfl
            have e91 := hrel 45 rfl 91 rfl
            have e96 := hrel 50 rfl 96 rfl
            obtain ⟨H, -⟩ := (show Hp S0 σ0 σ107 [Ch.ro 0 (Sl a100 x93.2.1 c101) x93.2.1, Ch.ro 0 (Sl a90 x83.2.2.1 c91) x83.2.2.1, Ch.ro n0 (Sl a100 x93.2.1 c101) x93.2.1, Ch.ro n0 (Sl a90 x83.2.2.1 c91) x83.2.2.1, Ch.own n0 n0 (Sl a7 r2.2 c8) r2.2, Ch.own n0 n0 (Sl a57 r54 c58) r54, Ch.own n0 n0 (Sl a63 r60 c64) r60] ∧ Md (cov []) σ68 σ107 from hJ)
            clear hJ Hs
            rw [fr_lookL (L := [(4, (Sl a7 r2.2 c8)), (6, (Sl a57 r54 c58)), (7, (Sl a63 r60 c64)), (8, (I s67)), (85, (B true)), (91, undef), (96, undef)]) ⟨e4, e6, e7, e8, e85, e91, e96, trivial⟩]
            clear hoff hrel e4 e6 e7 e8 e85 e91 e96
            refine st_skip rfl ?_
            refine st (v := (B true)) (rv_pick_t rfl rfl) ?_
            refine w_end ?_
            obtain rfl := Option.some.inj h
            exact ⟨rfl, _, σ107, fr_join ⟨rfl, rfl, rfl, rfl, rfl, trivial⟩, rfl, H.sel' [4, 5, 6] rfl rfl⟩
          ·replace h := bif_f hb106 h
           obtain ⟨x108, hx109, h'⟩ := bind_some h
           clear h
           have h := h'; clear h'
           obtain ⟨b111, o112, hi110, -⟩ := (H.own 6 rfl).ix hx109
           have hc113 := ((H.own 6 rfl).at hx109 hi110).fst.int
           rcases Bool.eq_false_or_eq_true (x108.1 != 2) with hb114 | hb114
           ·replace h := bif_t hb114 h
            have Hs := H
            refine rg2 (σ := σ68) (Nm := Unit) 51 [28] [[false], [true]] [[(0, 0)], [(0, 0)], [(0, 0)], [(0, 0)], [(0, 0)], [(0, 0)], [(0, 0)], [(0, 0)], [(0, 0)], [(0, 0)], [(0, 0)], [(0, 0)], [(0, 0)], [(0, 0)], [(0, 0)], [(0, 0)], [(0, 0)], [(0, 0)], [(0, 0)], [(0, 0)], [(0, 0)], [(0, 0)], [(0, 0)], [(0, 0)], [(0, 0)], [(0, 0)], [(0, 0)], [(0, 0)], [(0, 1)], [(1, 1)], [(1, 1)], [(1, 1)], [(1, 1)], [(1, 1)], [(1, 1)], [(1, 1)], [(1, 1)], [(1, 1)], [(1, 1)], [(1, 1)], [(1, 1)], [(1, 1)], [(1, 1)], [(1, 1)], [(1, 1)], [(1, 1)], [(1, 1)], [(1, 1)], [(1, 1)], [(1, 1)], [(1, 1)]] 1 [fun _ => fun σm => Hp S0 σ0 σm [Ch.ro 0 (Sl a100 x93.2.1 c101) x93.2.1, Ch.ro 0 (Sl a90 x83.2.2.1 c91) x83.2.2.1, Ch.ro n0 (Sl a100 x93.2.1 c101) x93.2.1, Ch.ro n0 (Sl a90 x83.2.2.1 c91) x83.2.2.1, Ch.own n0 n0 (Sl a7 r2.2 c8) r2.2, Ch.own n0 n0 (Sl a57 r54 c58) r54, Ch.own n0 n0 (Sl a63 r60 c64) r60] ∧ Md (cov []) σ68 σm, fun _ => fun σm => Hp S0 σ0 σm [Ch.ro 0 (Sl a100 x93.2.1 c101) x93.2.1, Ch.ro 0 (Sl a90 x83.2.2.1 c91) x83.2.2.1, Ch.ro n0 (Sl a100 x93.2.1 c101) x93.2.1, Ch.ro n0 (Sl a90 x83.2.2.1 c91) x83.2.2.1, Ch.own n0 n0 (Sl a7 r2.2 c8) r2.2, Ch.own n0 n0 (Sl a57 r54 c58) r54, Ch.own n0 n0 (Sl a63 r60 c64) r60] ∧ Md (cov []) σ68 σm] [fun _ => (I s67), fun _ => (Sl a57 r54 c58), fun _ => (I (r54.length : Int)), fun _ => (B (decide ((r54.length : Int) ≤ s67))), fun _ => (B (decide ((r54.length : Int) ≤ s67))), fun _ => (I s67), fun _ => (Sl a63 r60 c64), fun _ => (I (r60.length : Int)), fun _ => (B (decide ((r60.length : Int) ≤ s67))), fun _ => (B (decide ((r60.length : Int) ≤ s67))), fun _ => (B (decide ((r60.length : Int) ≤ s67))), fun _ => (Sl a57 r54 c58), fun _ => (I s67), fun _ => (pt b78 o79), fun _ => (pt b78 (o79 + 0)), fun _ => (I x75.1), fun _ => (B (x75.1 != 1)), fun _ => (B (x75.1 != 1)), fun _ => (B (x75.1 != 1)), fun _ => (Sl a57 r54 c58), fun _ => (I s67), fun _ => (pt b86 o87), fun _ => (pt b86 (o87 + 1)), fun _ => (.agg #[(I x83.2.1), (Sl a90 x83.2.2.1 c91), (I x83.2.2.2)]), fun _ => (Sl a7 r2.2 c8), fun _ => (I s67), fun _ => (pt b96 o97), fun _ => (.agg #[(I x93.1), (Sl a100 x93.2.1 c101), (I x93.2.2)]), fun _ => (B r103), fun _ => (B (!r103)), fun _ => (B (!r103)), fun _ => (B (!r103)), fun _ => (Sl a63 r60 c64), fun _ => (I s67), fun _ => (pt b111 o112), fun _ => (pt b111 (o112 + 0)), fun _ => (I x108.1), fun _ => (B (x108.1 != 2)), fun _ => (B (x108.1 != 2)), fun _ => (B (x108.1 != 2)), fun _ => undef, fun _ => undef, fun _ => undef, fun _ => undef, fun _ => undef, fun _ => undef, fun _ => undef, fun _ => undef, fun _ => undef, fun _ => undef, fun _ => undef] () (by kernel_rfl) (by kernel_rfl) ?_ ?_ ?_
            ·intro σm m0
             exact ⟨H.grow (m0.mono fun _ h => h.elim), m0⟩
            ·refine ac rfl (by
               intro k _nm ρ σm hJ hoff hdep
               have e8 := look_off (N := 111) (hoff 8 rfl) rfl
               exact dp_v (v := (I s67)) wn (rv_move e8) rfl hJ) ?_
             refine ac rfl (by
               intro k _nm ρ σm hJ hoff hdep
               have e6 := look_off (N := 111) (hoff 6 rfl) rfl
               exact dp_v (v := (Sl a57 r54 c58)) wn (rv_move e6) rfl hJ) ?_
             refine ac rfl (by
               intro k _nm ρ σm hJ hoff hdep
               have e47 := hdep 1 rfl rfl 47 rfl
               exact dp_v (v := (I (r54.length : Int))) wn (rv_len Try.underlying35 e47) rfl hJ) ?_
             refine ac rfl (by
               intro k _nm ρ σm hJ hoff hdep
               have e46 := hdep 0 rfl rfl 46 rfl
               have e48 := hdep 2 rfl rfl 48 rfl
               exact dp_v (v := (B (decide ((r54.length : Int) ≤ s67)))) wn (rv_geq (a := s67) (b := (r54.length : Int)) e46 e48) rfl hJ) ?_
             refine ac rfl (by
               intro k _nm ρ σm hJ hoff hdep
               have e49 := hdep 3 rfl rfl 49 rfl
               exact dp_v (v := (B (decide ((r54.length : Int) ≤ s67)))) wn (rv_move e49) rfl hJ) ?_
             refine ac rfl (by
               intro k _nm ρ σm hJ hoff hdep
               have e8 := look_off (N := 111) (hoff 8 rfl) rfl
               have e50 := hdep 4 rfl rfl 50 rfl
               exact dp_v (v := (I s67)) (wanted_yes rfl (yv_of rfl (e50.trans (congrArg B hb71)))) (rv_move e8) rfl hJ) ?_
             refine ac rfl (by
               intro k _nm ρ σm hJ hoff hdep
               have e7 := look_off (N := 111) (hoff 7 rfl) rfl
               have e50 := hdep 4 rfl rfl 50 rfl
               exact dp_v (v := (Sl a63 r60 c64)) (wanted_yes rfl (yv_of rfl (e50.trans (congrArg B hb71)))) (rv_move e7) rfl hJ) ?_
             refine ac rfl (by
               intro k _nm ρ σm hJ hoff hdep
               have e52 := hdep 6 rfl rfl 52 rfl
               have e50 := hdep 4 rfl rfl 50 rfl
               exact dp_v (v := (I (r60.length : Int))) (wanted_yes rfl (yv_of rfl (e50.trans (congrArg B hb71)))) (rv_len Try.underlying35 e52) rfl hJ) ?_
             refine ac rfl (by
               intro k _nm ρ σm hJ hoff hdep
               have e51 := hdep 5 rfl rfl 51 rfl
               have e53 := hdep 7 rfl rfl 53 rfl
               have e50 := hdep 4 rfl rfl 50 rfl
               exact dp_v (v := (B (decide ((r60.length : Int) ≤ s67)))) (wanted_yes rfl (yv_of rfl (e50.trans (congrArg B hb71)))) (rv_geq (a := s67) (b := (r60.length : Int)) e51 e53) rfl hJ) ?_
             refine ac rfl (by
               intro k _nm ρ σm hJ hoff hdep
               have e50 := hdep 4 rfl rfl 50 rfl
               have e54 := hdep 8 rfl rfl 54 rfl
               exact dp_v (v := (B (decide ((r60.length : Int) ≤ s67)))) wn (rv_pick_f (e50.trans (congrArg B hb71)) e54) rfl hJ) ?_
             refine ac rfl (by
               intro k _nm ρ σm hJ hoff hdep
               have e55 := hdep 9 rfl rfl 55 rfl
               exact dp_v (v := (B (decide ((r60.length : Int) ≤ s67)))) wn (rv_move e55) rfl hJ) ?_
             refine ac rfl (by
               intro k _nm ρ σm hJ hoff hdep
               have e6 := look_off (N := 111) (hoff 6 rfl) rfl
               have e56 := hdep 10 rfl rfl 56 rfl
               exact dp_v (v := (Sl a57 r54 c58)) (wanted_yes rfl (yv_of rfl (e56.trans (congrArg B hb73)))) (rv_move e6) rfl hJ) ?_
             refine ac rfl (by
               intro k _nm ρ σm hJ hoff hdep
               have e8 := look_off (N := 111) (hoff 8 rfl) rfl
               have e56 := hdep 10 rfl rfl 56 rfl
               exact dp_v (v := (I s67)) (wanted_yes rfl (yv_of rfl (e56.trans (congrArg B hb73)))) (rv_move e8) rfl hJ) ?_
             refine ac rfl (by
               intro k _nm ρ σm hJ hoff hdep
               have e57 := hdep 11 rfl rfl 57 rfl
               have e58 := hdep 12 rfl rfl 58 rfl
               have e56 := hdep 10 rfl rfl 56 rfl
               exact dp_v (v := (pt b78 o79)) (wanted_yes rfl (yv_of rfl (e56.trans (congrArg B hb73)))) (rv_ix Try.underlying35 ti42 e57 e58 hi77) rfl hJ) ?_
             refine ac rfl (by
               intro k _nm ρ σm hJ hoff hdep
               have e59 := hdep 13 rfl rfl 59 rfl
               have e56 := hdep 10 rfl rfl 56 rfl
               exact dp_v (v := (pt b78 (o79 + 0))) (wanted_yes rfl (yv_of rfl (e56.trans (congrArg B hb73)))) (rv_fieldAddr (off := 0) (ft := 3) Try.underlying42 rfl ti3 rfl e59) rfl hJ) ?_
             refine all_cons (by
               refine ⟨?_, ?_⟩
               ·intro _nm ρ σm hJ hoff hdep
                have e60 := hdep 14 rfl rfl 60 rfl
                have e56 := hdep 10 rfl rfl 56 rfl
                obtain ⟨H, m⟩ := id hJ
                have hc80 := ((H.own 5 rfl).at hx76 hi77).fst.int
                exact dp_v (v := (I x75.1)) (wanted_yes rfl (yv_of rfl (e56.trans (congrArg B hb73)))) (rv_load1 Try.underlying3 rfl e60 hc80) rfl hJ
               trivial) ?_
             refine ac rfl (by
               intro k _nm ρ σm hJ hoff hdep
               have e61 := hdep 15 rfl rfl 61 rfl
               have e56 := hdep 10 rfl rfl 56 rfl
               exact dp_v (v := (B (x75.1 != 1))) (wanted_yes rfl (yv_of rfl (e56.trans (congrArg B hb73)))) (rv_neq (a := x75.1) (b := 1) e61 rfl) rfl hJ) ?_
             refine ac rfl (by
               intro k _nm ρ σm hJ hoff hdep
               have e56 := hdep 10 rfl rfl 56 rfl
               have e62 := hdep 16 rfl rfl 62 rfl
               exact dp_v (v := (B (x75.1 != 1))) wn (rv_pick_f (e56.trans (congrArg B hb73)) e62) rfl hJ) ?_
             refine ac rfl (by
               intro k _nm ρ σm hJ hoff hdep
               have e63 := hdep 17 rfl rfl 63 rfl
               exact dp_v (v := (B (x75.1 != 1))) wn (rv_move e63) rfl hJ) ?_
             refine ac rfl (by
               intro k _nm ρ σm hJ hoff hdep
               have e6 := look_off (N := 111) (hoff 6 rfl) rfl
               have e64 := hdep 18 rfl rfl 64 rfl
               exact dp_v (v := (Sl a57 r54 c58)) (wanted_yes rfl (yv_of rfl (e64.trans (congrArg B hb81)))) (rv_move e6) rfl hJ) ?_
             refine ac rfl (by
               intro k _nm ρ σm hJ hoff hdep
               have e8 := look_off (N := 111) (hoff 8 rfl) rfl
               have e64 := hdep 18 rfl rfl 64 rfl
               exact dp_v (v := (I s67)) (wanted_yes rfl (yv_of rfl (e64.trans (congrArg B hb81)))) (rv_move e8) rfl hJ) ?_
             refine ac rfl (by
               intro k _nm ρ σm hJ hoff hdep
               have e65 := hdep 19 rfl rfl 65 rfl
               have e66 := hdep 20 rfl rfl 66 rfl
               have e64 := hdep 18 rfl rfl 64 rfl
               exact dp_v (v := (pt b86 o87)) (wanted_yes rfl (yv_of rfl (e64.trans (congrArg B hb81)))) (rv_ix Try.underlying35 ti42 e65 e66 hi85) rfl hJ) ?_
             refine ac rfl (by
               intro k _nm ρ σm hJ hoff hdep
               have e67 := hdep 21 rfl rfl 67 rfl
               have e64 := hdep 18 rfl rfl 64 rfl
               exact dp_v (v := (pt b86 (o87 + 1))) (wanted_yes rfl (yv_of rfl (e64.trans (congrArg B hb81)))) (rv_fieldAddr (off := 1) (ft := 32) Try.underlying42 rfl ti32 rfl e67) rfl hJ) ?_
             refine all_cons (by
               refine ⟨?_, ?_⟩
               ·intro _nm ρ σm hJ hoff hdep
                have e68 := hdep 22 rfl rfl 68 rfl
                have e64 := hdep 18 rfl rfl 64 rfl
                obtain ⟨H, m⟩ := id hJ
                replace hc89 := fun j hj => m.hcell (hc89 j hj) nocov
                exact dp_v (v := (.agg #[(I x83.2.1), (Sl a90 x83.2.2.1 c91), (I x83.2.2.2)])) (wanted_yes rfl (yv_of rfl (e64.trans (congrArg B hb81)))) (rv_load Try.underlying32 rfl ti32 e68 hl88 hc89) rfl hJ
               trivial) ?_
             refine ac rfl (by
               intro k _nm ρ σm hJ hoff hdep
               have e4 := look_off (N := 111) (hoff 4 rfl) rfl
               have e64 := hdep 18 rfl rfl 64 rfl
               exact dp_v (v := (Sl a7 r2.2 c8)) (wanted_yes rfl (yv_of rfl (e64.trans (congrArg B hb81)))) (rv_move e4) rfl hJ) ?_
             refine ac rfl (by
               intro k _nm ρ σm hJ hoff hdep
               have e8 := look_off (N := 111) (hoff 8 rfl) rfl
               have e64 := hdep 18 rfl rfl 64 rfl
               exact dp_v (v := (I s67)) (wanted_yes rfl (yv_of rfl (e64.trans (congrArg B hb81)))) (rv_move e8) rfl hJ) ?_
             refine ac rfl (by
               intro k _nm ρ σm hJ hoff hdep
               have e70 := hdep 24 rfl rfl 70 rfl
               have e71 := hdep 25 rfl rfl 71 rfl
               have e64 := hdep 18 rfl rfl 64 rfl
               exact dp_v (v := (pt b96 o97)) (wanted_yes rfl (yv_of rfl (e64.trans (congrArg B hb81)))) (rv_ix Try.underlying23 ti32 e70 e71 hi95) rfl hJ) ?_
             refine all_cons (by
               refine ⟨?_, ?_⟩
               ·intro _nm ρ σm hJ hoff hdep
                have e72 := hdep 26 rfl rfl 72 rfl
                have e64 := hdep 18 rfl rfl 64 rfl
                obtain ⟨H, m⟩ := id hJ
                replace hc99 := fun j hj => m.hcell (hc99 j hj) nocov
                exact dp_v (v := (.agg #[(I x93.1), (Sl a100 x93.2.1 c101), (I x93.2.2)])) (wanted_yes rfl (yv_of rfl (e64.trans (congrArg B hb81)))) (rv_load Try.underlying32 rfl ti32 e72 hl98 hc99) rfl hJ
               trivial) ?_
             refine all_cons (by
               refine ⟨?_, ?_⟩
               ·intro _nm ρ σm hJ hoff hdep
                have e69 : look 111 ρ 69 = (.agg #[(I x83.2.1), (Sl a90 x83.2.2.1 c91), (I x83.2.2.2)]) := hdep 23 rfl rfl 69 rfl
                have e73 : look 111 ρ 73 = (.agg #[(I x93.1), (Sl a100 x93.2.1 c101), (I x93.2.2)]) := hdep 27 rfl rfl 73 rfl
                have e64 := hdep 18 rfl rfl 64 rfl
                obtain ⟨H, m⟩ := id hJ
                refine dp_cx (wanted_yes rfl (yv_of rfl (e64.trans (congrArg B hb81)))) (cx_call hc105 (ent_f hc105.fn (by show [look 111 ρ 69, look 111 ρ 73] = _; rw [e69, e73])) hn0 (show Hp S0 σ0 _ ([Ch.ro 0 (Sl a90 x83.2.2.1 c91) x83.2.2.1, Ch.ro 0 (Sl a100 x93.2.1 c101) x93.2.1] ++ [Ch.ro 0 (Sl a100 x93.2.1 c101) x93.2.1, Ch.ro 0 (Sl a90 x83.2.2.1 c91) x83.2.2.1, Ch.ro n0 (Sl a100 x93.2.1 c101) x93.2.1, Ch.ro n0 (Sl a90 x83.2.2.1 c91) x83.2.2.1, Ch.own n0 n0 (Sl a7 r2.2 c8) r2.2, Ch.own n0 n0 (Sl a57 r54 c58) r54, Ch.own n0 n0 (Sl a63 r60 c64) r60]) from (H.sel' [1, 0, 0, 1, 2, 3, 4, 5, 6] rfl rfl))) ?_
                rintro _ σq ⟨_, ⟨rfl, rfl⟩, H2, m2⟩
                exact ⟨_, (), rfl, rfl, ⟨H2.sel' [0, 1, 2, 3, 4, 5, 6] rfl rfl, m.comp0 (m2.mono (fun i h => by simp [cov, Ch.ro] at h))⟩, stab [0, 1, 2, 3, 4, 5, 6, 7, 8, 9, 10, 11, 12, 13, 14, 15, 16, 17, 18, 19, 20, 21, 22, 23, 24, 25, 26, 27] (by kernel_rfl) ⟨rfl, rfl, rfl, rfl, rfl, rfl, rfl, rfl, rfl, rfl, rfl, rfl, rfl, rfl, rfl, rfl, rfl, rfl, rfl, rfl, rfl, rfl, rfl, rfl, rfl, rfl, rfl, rfl, trivial⟩⟩
               trivial) ?_
             refine ac rfl (by
               intro k _nm ρ σm hJ hoff hdep
               have e74 := hdep 28 rfl rfl 74 rfl
               have e64 := hdep 18 rfl rfl 64 rfl
               exact dp_v (v := (B (!r103))) (wanted_yes rfl (yv_of rfl (e64.trans (congrArg B hb81)))) (rv_not e74) rfl hJ) ?_
             refine ac rfl (by
               intro k _nm ρ σm hJ hoff hdep
               have e64 := hdep 18 rfl rfl 64 rfl
               have e75 := hdep 29 rfl rfl 75 rfl
               exact dp_v (v := (B (!r103))) wn (rv_pick_f (e64.trans (congrArg B hb81)) e75) rfl hJ) ?_
             refine ac rfl (by
               intro k _nm ρ σm hJ hoff hdep
               have e76 := hdep 30 rfl rfl 76 rfl
               exact dp_v (v := (B (!r103))) wn (rv_move e76) rfl hJ) ?_
             refine ac rfl (by
               intro k _nm ρ σm hJ hoff hdep
               have e7 := look_off (N := 111) (hoff 7 rfl) rfl
               have e77 := hdep 31 rfl rfl 77 rfl
               exact dp_v (v := (Sl a63 r60 c64)) (wanted_yes rfl (yv_of rfl (e77.trans (congrArg B hb106)))) (rv_move e7) rfl hJ) ?_
             refine ac rfl (by
               intro k _nm ρ σm hJ hoff hdep
               have e8 := look_off (N := 111) (hoff 8 rfl) rfl
               have e77 := hdep 31 rfl rfl 77 rfl
               exact dp_v (v := (I s67)) (wanted_yes rfl (yv_of rfl (e77.trans (congrArg B hb106)))) (rv_move e8) rfl hJ) ?_
             refine ac rfl (by
               intro k _nm ρ σm hJ hoff hdep
               have e78 := hdep 32 rfl rfl 78 rfl
               have e79 := hdep 33 rfl rfl 79 rfl
               have e77 := hdep 31 rfl rfl 77 rfl
               exact dp_v (v := (pt b111 o112)) (wanted_yes rfl (yv_of rfl (e77.trans (congrArg B hb106)))) (rv_ix Try.underlying35 ti42 e78 e79 hi110) rfl hJ) ?_
             refine ac rfl (by
               intro k _nm ρ σm hJ hoff hdep
               have e80 := hdep 34 rfl rfl 80 rfl
               have e77 := hdep 31 rfl rfl 77 rfl
               exact dp_v (v := (pt b111 (o112 + 0))) (wanted_yes rfl (yv_of rfl (e77.trans (congrArg B hb106)))) (rv_fieldAddr (off := 0) (ft := 3) Try.underlying42 rfl ti3 rfl e80) rfl hJ) ?_
             refine all_cons (by
               refine ⟨?_, ?_⟩
               ·intro _nm ρ σm hJ hoff hdep
                have e81 := hdep 35 rfl rfl 81 rfl
                have e77 := hdep 31 rfl rfl 77 rfl
                obtain ⟨H, m⟩ := id hJ
                have hc113 := ((H.own 6 rfl).at hx109 hi110).fst.int
                exact dp_v (v := (I x108.1)) (wanted_yes rfl (yv_of rfl (e77.trans (congrArg B hb106)))) (rv_load1 Try.underlying3 rfl e81 hc113) rfl hJ
               trivial) ?_
             refine ac rfl (by
               intro k _nm ρ σm hJ hoff hdep
               have e82 := hdep 36 rfl rfl 82 rfl
               have e77 := hdep 31 rfl rfl 77 rfl
               exact dp_v (v := (B (x108.1 != 2))) (wanted_yes rfl (yv_of rfl (e77.trans (congrArg B hb106)))) (rv_neq (a := x108.1) (b := 2) e82 rfl) rfl hJ) ?_
             refine ac rfl (by
               intro k _nm ρ σm hJ hoff hdep
               have e77 := hdep 31 rfl rfl 77 rfl
               have e83 := hdep 37 rfl rfl 83 rfl
               exact dp_v (v := (B (x108.1 != 2))) wn (rv_pick_f (e77.trans (congrArg B hb106)) e83) rfl hJ) ?_
             refine ac rfl (by
               intro k _nm ρ σm hJ hoff hdep
               have e84 := hdep 38 rfl rfl 84 rfl
               exact dp_v (v := (B (x108.1 != 2))) wn (rv_move e84) rfl hJ) ?_
             refine ac rfl (by
               intro k _nm ρ σm hJ hoff hdep
               have e85 := hdep 39 rfl rfl 85 rfl
               exact dp_skip (wanted_no rfl (yv_of rfl (e85.trans (congrArg B hb114)))) rfl hJ) ?_
             refine ac rfl (by
               intro k _nm ρ σm hJ hoff hdep
               have e85 := hdep 39 rfl rfl 85 rfl
               exact dp_skip (wanted_no rfl (yv_of rfl (e85.trans (congrArg B hb114)))) rfl hJ) ?_
             refine ac rfl (by
               intro k _nm ρ σm hJ hoff hdep
               have e85 := hdep 39 rfl rfl 85 rfl
               exact dp_skip (wanted_no rfl (yv_of rfl (e85.trans (congrArg B hb114)))) rfl hJ) ?_
             refine ac rfl (by
               intro k _nm ρ σm hJ hoff hdep
               have e85 := hdep 39 rfl rfl 85 rfl
               exact dp_skip (wanted_no rfl (yv_of rfl (e85.trans (congrArg B hb114)))) rfl hJ) ?_
             refine ac rfl (by
               intro k _nm ρ σm hJ hoff hdep
               have e85 := hdep 39 rfl rfl 85 rfl
               exact dp_skip (wanted_no rfl (yv_of rfl (e85.trans (congrArg B hb114)))) rfl hJ) ?_
             refine ac rfl (by
               intro k _nm ρ σm hJ hoff hdep
               have e85 := hdep 39 rfl rfl 85 rfl
               exact dp_skip (wanted_no rfl (yv_of rfl (e85.trans (congrArg B hb114)))) rfl hJ) ?_
             refine ac rfl (by
               intro k _nm ρ σm hJ hoff hdep
               have e85 := hdep 39 rfl rfl 85 rfl
               exact dp_skip (wanted_no rfl (yv_of rfl (e85.trans (congrArg B hb114)))) rfl hJ) ?_
             refine ac rfl (by
               intro k _nm ρ σm hJ hoff hdep
               have e85 := hdep 39 rfl rfl 85 rfl
               exact dp_skip (wanted_no rfl (yv_of rfl (e85.trans (congrArg B hb114)))) rfl hJ) ?_
             refine ac rfl (by
               intro k _nm ρ σm hJ hoff hdep
               have e85 := hdep 39 rfl rfl 85 rfl
               exact dp_skip (wanted_no rfl (yv_of rfl (e85.trans (congrArg B hb114)))) rfl hJ) ?_
             refine ac rfl (by
               intro k _nm ρ σm hJ hoff hdep
               have e85 := hdep 39 rfl rfl 85 rfl
               exact dp_skip (wanted_no rfl (yv_of rfl (e85.trans (congrArg B hb114)))) rfl hJ) ?_
             refine ac rfl (by
               intro k _nm ρ σm hJ hoff hdep
               have e85 := hdep 39 rfl rfl 85 rfl
               exact dp_skip (wanted_no rfl (yv_of rfl (e85.trans (congrArg B hb114)))) rfl hJ) ?_
             exact all_nil
            ·intro _nm ρ σ115 hJ hoff hrel
             have e4 := look_off (N := 111) (hoff 4 rfl) rfl
             have e6 := look_off (N := 111) (hoff 6 rfl) rfl
             have e7 := look_off (N := 111) (hoff 7 rfl) rfl
             have e8 := look_off (N := 111) (hoff 8 rfl) rfl
             have e85 := hrel 39 rfl 85 rfl
             have e91 := hrel 45 rfl 91 rfl
             have e96 := hrel 50 rfl 96 rfl
             obtain ⟨H, -⟩ := (show Hp S0 σ0 σ115 [Ch.ro 0 (Sl a100 x93.2.1 c101) x93.2.1, Ch.ro 0 (Sl a90 x83.2.2.1 c91) x83.2.2.1, Ch.ro n0 (Sl a100 x93.2.1 c101) x93.2.1, Ch.ro n0 (Sl a90 x83.2.2.1 c91) x83.2.2.1, Ch.own n0 n0 (Sl a7 r2.2 c8) r2.2, Ch.own n0 n0 (Sl a57 r54 c58) r54, Ch.own n0 n0 (Sl a63 r60 c64) r60] ∧ Md (cov []) σ68 σ115 from hJ)
             clear hJ Hs
             rw [fr_lookL (L := [(4, (Sl a7 r2.2 c8)), (6, (Sl a57 r54 c58)), (7, (Sl a63 r60 c64)), (8, (I s67)), (85, (B (x108.1 != 2))), (91, undef), (96, undef)]) ⟨e4, e6, e7, e8, e85, e91, e96, trivial⟩]
             clear hoff hrel e4 e6 e7 e8 e85 e91 e96
             refine st_skip (congrArg some hb114) ?_
             refine st (v := (B true)) (rv_pick_t (congrArg B hb114) rfl) ?_
             refine w_end ?_
             obtain rfl := Option.some.inj h
             exact ⟨rfl, _, σ115, fr_join ⟨rfl, rfl, rfl, rfl, rfl, trivial⟩, rfl, H.sel' [4, 5, 6] rfl rfl⟩
           ·replace h := bif_f hb114 h
            obtain ⟨x116, hx117, h'⟩ := bind_some h
            clear h
            have h := h'; clear h'
            obtain ⟨b119, o120, hi118, -⟩ := (H.own 6 rfl).ix hx117
            have hc121 := ((H.own 6 rfl).at hx117 hi118).snd.fst.int
            obtain ⟨x122, hx123, h'⟩ := bind_some h
            clear h
            have h := h'; clear h'
            obtain ⟨b125, o126, hi124, -⟩ := (H.own 4 rfl).ix hx123
            have hc127 := ((H.own 4 rfl).at hx123 hi124).fst.int
            have Hs := H
            refine rg2 (σ := σ68) (Nm := Unit) 51 [28] [[false], [true]] [[(0, 0)], [(0, 0)], [(0, 0)], [(0, 0)], [(0, 0)], [(0, 0)], [(0, 0)], [(0, 0)], [(0, 0)], [(0, 0)], [(0, 0)], [(0, 0)], [(0, 0)], [(0, 0)], [(0, 0)], [(0, 0)], [(0, 0)], [(0, 0)], [(0, 0)], [(0, 0)], [(0, 0)], [(0, 0)], [(0, 0)], [(0, 0)], [(0, 0)], [(0, 0)], [(0, 0)], [(0, 0)], [(0, 1)], [(1, 1)], [(1, 1)], [(1, 1)], [(1, 1)], [(1, 1)], [(1, 1)], [(1, 1)], [(1, 1)], [(1, 1)], [(1, 1)], [(1, 1)], [(1, 1)], [(1, 1)], [(1, 1)], [(1, 1)], [(1, 1)], [(1, 1)], [(1, 1)], [(1, 1)], [(1, 1)], [(1, 1)], [(1, 1)]] 1 [fun _ => fun σm => Hp S0 σ0 σm [Ch.ro 0 (Sl a100 x93.2.1 c101) x93.2.1, Ch.ro 0 (Sl a90 x83.2.2.1 c91) x83.2.2.1, Ch.ro n0 (Sl a100 x93.2.1 c101) x93.2.1, Ch.ro n0 (Sl a90 x83.2.2.1 c91) x83.2.2.1, Ch.own n0 n0 (Sl a7 r2.2 c8) r2.2, Ch.own n0 n0 (Sl a57 r54 c58) r54, Ch.own n0 n0 (Sl a63 r60 c64) r60] ∧ Md (cov []) σ68 σm, fun _ => fun σm => Hp S0 σ0 σm [Ch.ro 0 (Sl a100 x93.2.1 c101) x93.2.1, Ch.ro 0 (Sl a90 x83.2.2.1 c91) x83.2.2.1, Ch.ro n0 (Sl a100 x93.2.1 c101) x93.2.1, Ch.ro n0 (Sl a90 x83.2.2.1 c91) x83.2.2.1, Ch.own n0 n0 (Sl a7 r2.2 c8) r2.2, Ch.own n0 n0 (Sl a57 r54 c58) r54, Ch.own n0 n0 (Sl a63 r60 c64) r60] ∧ Md (cov []) σ68 σm] [fun _ => (I s67), fun _ => (Sl a57 r54 c58), fun _ => (I (r54.length : Int)), fun _ => (B (decide ((r54.length : Int) ≤ s67))), fun _ => (B (decide ((r54.length : Int) ≤ s67))), fun _ => (I s67), fun _ => (Sl a63 r60 c64), fun _ => (I (r60.length : Int)), fun _ => (B (decide ((r60.length : Int) ≤ s67))), fun _ => (B (decide ((r60.length : Int) ≤ s67))), fun _ => (B (decide ((r60.length : Int) ≤ s67))), fun _ => (Sl a57 r54 c58), fun _ => (I s67), fun _ => (pt b78 o79), fun _ => (pt b78 (o79 + 0)), fun _ => (I x75.1), fun _ => (B (x75.1 != 1)), fun _ => (B (x75.1 != 1)), fun _ => (B (x75.1 != 1)), fun _ => (Sl a57 r54 c58), fun _ => (I s67), fun _ => (pt b86 o87), fun _ => (pt b86 (o87 + 1)), fun _ => (.agg #[(I x83.2.1), (Sl a90 x83.2.2.1 c91), (I x83.2.2.2)]), fun _ => (Sl a7 r2.2 c8), fun _ => (I s67), fun _ => (pt b96 o97), fun _ => (.agg #[(I x93.1), (Sl a100 x93.2.1 c101), (I x93.2.2)]), fun _ => (B r103), fun _ => (B (!r103)), fun _ => (B (!r103)), fun _ => (B (!r103)), fun _ => (Sl a63 r60 c64), fun _ => (I s67), fun _ => (pt b111 o112), fun _ => (pt b111 (o112 + 0)), fun _ => (I x108.1), fun _ => (B (x108.1 != 2)), fun _ => (B (x108.1 != 2)), fun _ => (B (x108.1 != 2)), fun _ => (Sl a63 r60 c64), fun _ => (I s67), fun _ => (pt b119 o120), fun _ => (pt b119 (o120 + 1)), fun _ => (pt b119 (o120 + 1)), fun _ => (I x116.2.1), fun _ => (Sl a7 r2.2 c8), fun _ => (I s67), fun _ => (pt b125 o126), fun _ => (pt b125 (o126 + 0)), fun _ => (I x122.1)] () (by kernel_rfl) (by kernel_rfl) ?_ ?_ ?_
            ·intro σm m0
             exact ⟨H.grow (m0.mono fun _ h => h.elim), m0⟩
            ·refine ac rfl (by
               intro k _nm ρ σm hJ hoff hdep
               have e8 := look_off (N := 111) (hoff 8 rfl) rfl
               exact dp_v (v := (I s67)) wn (rv_move e8) rfl hJ) ?_
             refine ac rfl (by
               intro k _nm ρ σm hJ hoff hdep
               have e6 := look_off (N := 111) (hoff 6 rfl) rfl
               exact dp_v (v := (Sl a57 r54 c58)) wn (rv_move e6) rfl hJ) ?_
             refine ac rfl (by
               intro k _nm ρ σm hJ hoff hdep
               have e47 := hdep 1 rfl rfl 47 rfl
               exact dp_v (v := (I (r54.length : Int))) wn (rv_len Try.underlying35 e47) rfl hJ) ?_
             refine ac rfl (by
               intro k _nm ρ σm hJ hoff hdep
               have e46 := hdep 0 rfl rfl 46 rfl
               have e48 := hdep 2 rfl rfl 48 rfl
               exact dp_v (v := (B (decide ((r54.length : Int) ≤ s67)))) wn (rv_geq (a := s67) (b := (r54.length : Int)) e46 e48) rfl hJ) ?_
             refine ac rfl (by
               intro k _nm ρ σm hJ hoff hdep
               have e49 := hdep 3 rfl rfl 49 rfl
               exact dp_v (v := (B (decide ((r54.length : Int) ≤ s67)))) wn (rv_move e49) rfl hJ) ?_
             refine ac rfl (by
               intro k _nm ρ σm hJ hoff hdep
               have e8 := look_off (N := 111) (hoff 8 rfl) rfl
               have e50 := hdep 4 rfl rfl 50 rfl
               exact dp_v (v := (I s67)) (wanted_yes rfl (yv_of rfl (e50.trans (congrArg B hb71)))) (rv_move e8) rfl hJ) ?_
             refine ac rfl (by
               intro k _nm ρ σm hJ hoff hdep
               have e7 := look_off (N := 111) (hoff 7 rfl) rfl
               have e50 := hdep 4 rfl rfl 50 rfl
               exact dp_v (v := (Sl a63 r60 c64)) (wanted_yes rfl (yv_of rfl (e50.trans (congrArg B hb71)))) (rv_move e7) rfl hJ) ?_
             refine ac rfl (by
               intro k _nm ρ σm hJ hoff hdep
               have e52 := hdep 6 rfl rfl 52 rfl
               have e50 := hdep 4 rfl rfl 50 rfl
               exact dp_v (v := (I (r60.length : Int))) (wanted_yes rfl (yv_of rfl (e50.trans (congrArg B hb71)))) (rv_len Try.underlying35 e52) rfl hJ) ?_
             refine ac rfl (by
               intro k _nm ρ σm hJ hoff hdep
               have e51 := hdep 5 rfl rfl 51 rfl
               have e53 := hdep 7 rfl rfl 53 rfl
               have e50 := hdep 4 rfl rfl 50 rfl
               exact dp_v (v := (B (decide ((r60.length : Int) ≤ s67)))) (wanted_yes rfl (yv_of rfl (e50.trans (congrArg B hb71)))) (rv_geq (a := s67) (b := (r60.length : Int)) e51 e53) rfl hJ) ?_
             refine ac rfl (by
               intro k _nm ρ σm hJ hoff hdep
               have e50 := hdep 4 rfl rfl 50 rfl
               have e54 := hdep 8 rfl rfl 54 rfl
               exact dp_v (v := (B (decide ((r60.length : Int) ≤ s67)))) wn (rv_pick_f (e50.trans (congrArg B hb71)) e54) rfl hJ) ?_
             refine ac rfl (by
               intro k _nm ρ σm hJ hoff hdep
               have e55 := hdep 9 rfl rfl 55 rfl
               exact dp_v (v := (B (decide ((r60.length : Int) ≤ s67)))) wn (rv_move e55) rfl hJ) ?_
             refine ac rfl (by
               intro k _nm ρ σm hJ hoff hdep
               have e6 := look_off (N := 111) (hoff 6 rfl) rfl
               have e56 := hdep 10 rfl rfl 56 rfl
               exact dp_v (v := (Sl a57 r54 c58)) (wanted_yes rfl (yv_of rfl (e56.trans (congrArg B hb73)))) (rv_move e6) rfl hJ) ?_
             refine ac rfl (by
               intro k _nm ρ σm hJ hoff hdep
               have e8 := look_off (N := 111) (hoff 8 rfl) rfl
               have e56 := hdep 10 rfl rfl 56 rfl
               exact dp_v (v := (I s67)) (wanted_yes rfl (yv_of rfl (e56.trans (congrArg B hb73)))) (rv_move e8) rfl hJ) ?_
             refine ac rfl (by
               intro k _nm ρ σm hJ hoff hdep
               have e57 := hdep 11 rfl rfl 57 rfl
               have e58 := hdep 12 rfl rfl 58 rfl
               have e56 := hdep 10 rfl rfl 56 rfl
               exact dp_v (v := (pt b78 o79)) (wanted_yes rfl (yv_of rfl (e56.trans (congrArg B hb73)))) (rv_ix Try.underlying35 ti42 e57 e58 hi77) rfl hJ) ?_
             refine ac rfl (by
               intro k _nm ρ σm hJ hoff hdep
               have e59 := hdep 13 rfl rfl 59 rfl
               have e56 := hdep 10 rfl rfl 56 rfl
               exact dp_v (v := (pt b78 (o79 + 0))) (wanted_yes rfl (yv_of rfl (e56.trans (congrArg B hb73)))) (rv_fieldAddr (off := 0) (ft := 3) Try.underlying42 rfl ti3 rfl e59) rfl hJ) ?_
             refine all_cons (by
               refine ⟨?_, ?_⟩
               ·intro _nm ρ σm hJ hoff hdep
                have e60 := hdep 14 rfl rfl 60 rfl
                have e56 := hdep 10 rfl rfl 56 rfl
                obtain ⟨H, m⟩ := id hJ
                have hc80 := ((H.own 5 rfl).at hx76 hi77).fst.int
                exact dp_v (v := (I x75.1)) (wanted_yes rfl (yv_of rfl (e56.trans (congrArg B hb73)))) (rv_load1 Try.underlying3 rfl e60 hc80) rfl hJ
               trivial) ?_
             refine ac rfl (by
               intro k _nm ρ σm hJ hoff hdep
               have e61 := hdep 15 rfl rfl 61 rfl
               have e56 := hdep 10 rfl rfl 56 rfl
               exact dp_v (v := (B (x75.1 != 1))) (wanted_yes rfl (yv_of rfl (e56.trans (congrArg B hb73)))) (rv_neq (a := x75.1) (b := 1) e61 rfl) rfl hJ) ?_
             refine ac rfl (by
               intro k _nm ρ σm hJ hoff hdep
               have e56 := hdep 10 rfl rfl 56 rfl
               have e62 := hdep 16 rfl rfl 62 rfl
               exact dp_v (v := (B (x75.1 != 1))) wn (rv_pick_f (e56.trans (congrArg B hb73)) e62) rfl hJ) ?_
             refine ac rfl (by
               intro k _nm ρ σm hJ hoff hdep
               have e63 := hdep 17 rfl rfl 63 rfl
               exact dp_v (v := (B (x75.1 != 1))) wn (rv_move e63) rfl hJ) ?_
             refine ac rfl (by
               intro k _nm ρ σm hJ hoff hdep
               have e6 := look_off (N := 111) (hoff 6 rfl) rfl
               have e64 := hdep 18 rfl rfl 64 rfl
               exact dp_v (v := (Sl a57 r54 c58)) (wanted_yes rfl (yv_of rfl (e64.trans (congrArg B hb81)))) (rv_move e6) rfl hJ) ?_
             refine ac rfl (by
               intro k _nm ρ σm hJ hoff hdep
               have e8 := look_off (N := 111) (hoff 8 rfl) rfl
               have e64 := hdep 18 rfl rfl 64 rfl
               exact dp_v (v := (I s67)) (wanted_yes rfl (yv_of rfl (e64.trans (congrArg B hb81)))) (rv_move e8) rfl hJ) ?_
             refine ac rfl (by
               intro k _nm ρ σm hJ hoff hdep
               have e65 := hdep 19 rfl rfl 65 rfl
               have e66 := hdep 20 rfl rfl 66 rfl
               have e64 := hdep 18 rfl rfl 64 rfl
               exact dp_v (v := (pt b86 o87)) (wanted_yes rfl (yv_of rfl (e64.trans (congrArg B hb81)))) (rv_ix Try.underlying35 ti42 e65 e66 hi85) rfl hJ) ?_
             refine ac rfl (by
               intro k _nm ρ σm hJ hoff hdep
               have e67 := hdep 21 rfl rfl 67 rfl
               have e64 := hdep 18 rfl rfl 64 rfl
               exact dp_v (v := (pt b86 (o87 + 1))) (wanted_yes rfl (yv_of rfl (e64.trans (congrArg B hb81)))) (rv_fieldAddr (off := 1) (ft := 32) Try.underlying42 rfl ti32 rfl e67) rfl hJ) ?_
             refine all_cons (by
               refine ⟨?_, ?_⟩
               ·intro _nm ρ σm hJ hoff hdep
                have e68 := hdep 22 rfl rfl 68 rfl
                have e64 := hdep 18 rfl rfl 64 rfl
                obtain ⟨H, m⟩ := id hJ
                replace hc89 := fun j hj => m.hcell (hc89 j hj) nocov
                exact dp_v (v := (.agg #[(I x83.2.1), (Sl a90 x83.2.2.1 c91), (I x83.2.2.2)])) (wanted_yes rfl (yv_of rfl (e64.trans (congrArg B hb81)))) (rv_load Try.underlying32 rfl ti32 e68 hl88 hc89) rfl hJ
               trivial) ?_
             refine ac rfl (by
               intro k _nm ρ σm hJ hoff hdep
               have e4 := look_off (N := 111) (hoff 4 rfl) rfl
               have e64 := hdep 18 rfl rfl 64 rfl
               exact dp_v (v := (Sl a7 r2.2 c8)) (wanted_yes rfl (yv_of rfl (e64.trans (congrArg B hb81)))) (rv_move e4) rfl hJ) ?_
             refine ac rfl (by
               intro k _nm ρ σm hJ hoff hdep
               have e8 := look_off (N := 111) (hoff 8 rfl) rfl
               have e64 := hdep 18 rfl rfl 64 rfl
               exact dp_v (v := (I s67)) (wanted_yes rfl (yv_of rfl (e64.trans (congrArg B hb81)))) (rv_move e8) rfl hJ) ?_
             refine ac rfl (by
               intro k _nm ρ σm hJ hoff hdep
               have e70 := hdep 24 rfl rfl 70 rfl
               have e71 := hdep 25 rfl rfl 71 rfl
               have e64 := hdep 18 rfl rfl 64 rfl
               exact dp_v (v := (pt b96 o97)) (wanted_yes rfl (yv_of rfl (e64.trans (congrArg B hb81)))) (rv_ix Try.underlying23 ti32 e70 e71 hi95) rfl hJ) ?_
             refine all_cons (by
               refine ⟨?_, ?_⟩
               ·intro _nm ρ σm hJ hoff hdep
                have e72 := hdep 26 rfl rfl 72 rfl
                have e64 := hdep 18 rfl rfl 64 rfl
                obtain ⟨H, m⟩ := id hJ
                replace hc99 := fun j hj => m.hcell (hc99 j hj) nocov
                exact dp_v (v := (.agg #[(I x93.1), (Sl a100 x93.2.1 c101), (I x93.2.2)])) (wanted_yes rfl (yv_of rfl (e64.trans (congrArg B hb81)))) (rv_load Try.underlying32 rfl ti32 e72 hl98 hc99) rfl hJ
               trivial) ?_
             refine all_cons (by
               refine ⟨?_, ?_⟩
               ·intro _nm ρ σm hJ hoff hdep
                have e69 : look 111 ρ 69 = (.agg #[(I x83.2.1), (Sl a90 x83.2.2.1 c91), (I x83.2.2.2)]) := hdep 23 rfl rfl 69 rfl
                have e73 : look 111 ρ 73 = (.agg #[(I x93.1), (Sl a100 x93.2.1 c101), (I x93.2.2)]) := hdep 27 rfl rfl 73 rfl
                have e64 := hdep 18 rfl rfl 64 rfl
                obtain ⟨H, m⟩ := id hJ
                refine dp_cx (wanted_yes rfl (yv_of rfl (e64.trans (congrArg B hb81)))) (cx_call hc105 (ent_f hc105.fn (by show [look 111 ρ 69, look 111 ρ 73] = _; rw [e69, e73])) hn0 (show Hp S0 σ0 _ ([Ch.ro 0 (Sl a90 x83.2.2.1 c91) x83.2.2.1, Ch.ro 0 (Sl a100 x93.2.1 c101) x93.2.1] ++ [Ch.ro 0 (Sl a100 x93.2.1 c101) x93.2.1, Ch.ro 0 (Sl a90 x83.2.2.1 c91) x83.2.2.1, Ch.ro n0 (Sl a100 x93.2.1 c101) x93.2.1, Ch.ro n0 (Sl a90 x83.2.2.1 c91) x83.2.2.1, Ch.own n0 n0 (Sl a7 r2.2 c8) r2.2, Ch.own n0 n0 (Sl a57 r54 c58) r54, Ch.own n0 n0 (Sl a63 r60 c64) r60]) from (H.sel' [1, 0, 0, 1, 2, 3, 4, 5, 6] rfl rfl))) ?_
                rintro _ σq ⟨_, ⟨rfl, rfl⟩, H2, m2⟩
                exact ⟨_, (), rfl, rfl, ⟨H2.sel' [0, 1, 2, 3, 4, 5, 6] rfl rfl, m.comp0 (m2.mono (fun i h => by simp [cov, Ch.ro] at h))⟩, stab [0, 1, 2, 3, 4, 5, 6, 7, 8, 9, 10, 11, 12, 13, 14, 15, 16, 17, 18, 19, 20, 21, 22, 23, 24, 25, 26, 27] (by kernel_rfl) ⟨rfl, rfl, rfl, rfl, rfl, rfl, rfl, rfl, rfl, rfl, rfl, rfl, rfl, rfl, rfl, rfl, rfl, rfl, rfl, rfl, rfl, rfl, rfl, rfl, rfl, rfl, rfl, rfl, trivial⟩⟩
               trivial) ?_
             refine ac rfl (by
               intro k _nm ρ σm hJ hoff hdep
               have e74 := hdep 28 rfl rfl 74 rfl
               have e64 := hdep 18 rfl rfl 64 rfl
               exact dp_v (v := (B (!r103))) (wanted_yes rfl (yv_of rfl (e64.trans (congrArg B hb81)))) (rv_not e74) rfl hJ) ?_
             refine ac rfl (by
               intro k _nm ρ σm hJ hoff hdep
               have e64 := hdep 18 rfl rfl 64 rfl
               have e75 := hdep 29 rfl rfl 75 rfl
               exact dp_v (v := (B (!r103))) wn (rv_pick_f (e64.trans (congrArg B hb81)) e75) rfl hJ) ?_
             refine ac rfl (by
               intro k _nm ρ σm hJ hoff hdep
               have e76 := hdep 30 rfl rfl 76 rfl
               exact dp_v (v := (B (!r103))) wn (rv_move e76) rfl hJ) ?_
             refine ac rfl (by
               intro k _nm ρ σm hJ hoff hdep
               have e7 := look_off (N := 111) (hoff 7 rfl) rfl
               have e77 := hdep 31 rfl rfl 77 rfl
               exact dp_v (v := (Sl a63 r60 c64)) (wanted_yes rfl (yv_of rfl (e77.trans (congrArg B hb106)))) (rv_move e7) rfl hJ) ?_
             refine ac rfl (by
               intro k _nm ρ σm hJ hoff hdep
               have e8 := look_off (N := 111) (hoff 8 rfl) rfl
               have e77 := hdep 31 rfl rfl 77 rfl
               exact dp_v (v := (I s67)) (wanted_yes rfl (yv_of rfl (e77.trans (congrArg B hb106)))) (rv_move e8) rfl hJ) ?_
             refine ac rfl (by
               intro k _nm ρ σm hJ hoff hdep
               have e78 := hdep 32 rfl rfl 78 rfl
               have e79 := hdep 33 rfl rfl 79 rfl
               have e77 := hdep 31 rfl rfl 77 rfl
               exact dp_v (v := (pt b111 o112)) (wanted_yes rfl (yv_of rfl (e77.trans (congrArg B hb106)))) (rv_ix Try.underlying35 ti42 e78 e79 hi110) rfl hJ) ?_
             refine ac rfl (by
               intro k _nm ρ σm hJ hoff hdep
               have e80 := hdep 34 rfl rfl 80 rfl
               have e77 := hdep 31 rfl rfl 77 rfl
               exact dp_v (v := (pt b111 (o112 + 0))) (wanted_yes rfl (yv_of rfl (e77.trans (congrArg B hb106)))) (rv_fieldAddr (off := 0) (ft := 3) Try.underlying42 rfl ti3 rfl e80) rfl hJ) ?_
             refine all_cons (by
               refine ⟨?_, ?_⟩
               ·intro _nm ρ σm hJ hoff hdep
                have e81 := hdep 35 rfl rfl 81 rfl
                have e77 := hdep 31 rfl rfl 77 rfl
                obtain ⟨H, m⟩ := id hJ
                have hc113 := ((H.own 6 rfl).at hx109 hi110).fst.int
                exact dp_v (v := (I x108.1)) (wanted_yes rfl (yv_of rfl (e77.trans (congrArg B hb106)))) (rv_load1 Try.underlying3 rfl e81 hc113) rfl hJ
               trivial) ?_
             refine ac rfl (by
               intro k _nm ρ σm hJ hoff hdep
               have e82 := hdep 36 rfl rfl 82 rfl
               have e77 := hdep 31 rfl rfl 77 rfl
               exact dp_v (v := (B (x108.1 != 2))) (wanted_yes rfl (yv_of rfl (e77.trans (congrArg B hb106)))) (rv_neq (a := x108.1) (b := 2) e82 rfl) rfl hJ) ?_
             refine ac rfl (by
               intro k _nm ρ σm hJ hoff hdep
               have e77 := hdep 31 rfl rfl 77 rfl
               have e83 := hdep 37 rfl rfl 83 rfl
               exact dp_v (v := (B (x108.1 != 2))) wn (rv_pick_f (e77.trans (congrArg B hb106)) e83) rfl hJ) ?_
             refine ac rfl (by
               intro k _nm ρ σm hJ hoff hdep
               have e84 := hdep 38 rfl rfl 84 rfl
               exact dp_v (v := (B (x108.1 != 2))) wn (rv_move e84) rfl hJ) ?_
             refine ac rfl (by
               intro k _nm ρ σm hJ hoff hdep
               have e7 := look_off (N := 111) (hoff 7 rfl) rfl
               have e85 := hdep 39 rfl rfl 85 rfl
               exact dp_v (v := (Sl a63 r60 c64)) (wanted_yes rfl (yv_of rfl (e85.trans (congrArg B hb114)))) (rv_move e7) rfl hJ) ?_
             refine ac rfl (by
               intro k _nm ρ σm hJ hoff hdep
               have e8 := look_off (N := 111) (hoff 8 rfl) rfl
               have e85 := hdep 39 rfl rfl 85 rfl
               exact dp_v (v := (I s67)) (wanted_yes rfl (yv_of rfl (e85.trans (congrArg B hb114)))) (rv_move e8) rfl hJ) ?_
             refine ac rfl (by
               intro k _nm ρ σm hJ hoff hdep
               have e86 := hdep 40 rfl rfl 86 rfl
               have e87 := hdep 41 rfl rfl 87 rfl
               have e85 := hdep 39 rfl rfl 85 rfl
               exact dp_v (v := (pt b119 o120)) (wanted_yes rfl (yv_of rfl (e85.trans (congrArg B hb114)))) (rv_ix Try.underlying35 ti42 e86 e87 hi118) rfl hJ) ?_
             refine ac rfl (by
               intro k _nm ρ σm hJ hoff hdep
               have e88 := hdep 42 rfl rfl 88 rfl
               have e85 := hdep 39 rfl rfl 85 rfl
               exact dp_v (v := (pt b119 (o120 + 1))) (wanted_yes rfl (yv_of rfl (e85.trans (congrArg B hb114)))) (rv_fieldAddr (off := 1) (ft := 32) Try.underlying42 rfl ti32 rfl e88) rfl hJ) ?_
             refine ac rfl (by
               intro k _nm ρ σm hJ hoff hdep
               have e89 := hdep 43 rfl rfl 89 rfl
               have e85 := hdep 39 rfl rfl 85 rfl
               exact dp_v (v := (pt b119 (o120 + 1))) (wanted_yes rfl (yv_of rfl (e85.trans (congrArg B hb114)))) (rv_fieldAddr (off := 0) (ft := 3) Try.underlying32 rfl ti3 rfl e89) rfl hJ) ?_
             refine all_cons (by
               refine ⟨?_, ?_⟩
               ·intro _nm ρ σm hJ hoff hdep
                have e90 := hdep 44 rfl rfl 90 rfl
                have e85 := hdep 39 rfl rfl 85 rfl
                obtain ⟨H, m⟩ := id hJ
                have hc121 := ((H.own 6 rfl).at hx117 hi118).snd.fst.int
                exact dp_v (v := (I x116.2.1)) (wanted_yes rfl (yv_of rfl (e85.trans (congrArg B hb114)))) (rv_load1 Try.underlying3 rfl e90 hc121) rfl hJ
               trivial) ?_
             refine ac rfl (by
               intro k _nm ρ σm hJ hoff hdep
               have e4 := look_off (N := 111) (hoff 4 rfl) rfl
               have e85 := hdep 39 rfl rfl 85 rfl
               exact dp_v (v := (Sl a7 r2.2 c8)) (wanted_yes rfl (yv_of rfl (e85.trans (congrArg B hb114)))) (rv_move e4) rfl hJ) ?_
             refine ac rfl (by
               intro k _nm ρ σm hJ hoff hdep
               have e8 := look_off (N := 111) (hoff 8 rfl) rfl
               have e85 := hdep 39 rfl rfl 85 rfl
               exact dp_v (v := (I s67)) (wanted_yes rfl (yv_of rfl (e85.trans (congrArg B hb114)))) (rv_move e8) rfl hJ) ?_
             refine ac rfl (by
               intro k _nm ρ σm hJ hoff hdep
               have e92 := hdep 46 rfl rfl 92 rfl
               have e93 := hdep 47 rfl rfl 93 rfl
               have e85 := hdep 39 rfl rfl 85 rfl
               exact dp_v (v := (pt b125 o126)) (wanted_yes rfl (yv_of rfl (e85.trans (congrArg B hb114)))) (rv_ix Try.underlying23 ti32 e92 e93 hi124) rfl hJ) ?_
             refine ac rfl (by
               intro k _nm ρ σm hJ hoff hdep
               have e94 := hdep 48 rfl rfl 94 rfl
               have e85 := hdep 39 rfl rfl 85 rfl
               exact dp_v (v := (pt b125 (o126 + 0))) (wanted_yes rfl (yv_of rfl (e85.trans (congrArg B hb114)))) (rv_fieldAddr (off := 0) (ft := 3) Try.underlying32 rfl ti3 rfl e94) rfl hJ) ?_
             refine all_cons (by
               refine ⟨?_, ?_⟩
               ·intro _nm ρ σm hJ hoff hdep
                have e95 := hdep 49 rfl rfl 95 rfl
                have e85 := hdep 39 rfl rfl 85 rfl
                obtain ⟨H, m⟩ := id hJ
                have hc127 := ((H.own 4 rfl).at hx123 hi124).fst.int
                exact dp_v (v := (I x122.1)) (wanted_yes rfl (yv_of rfl (e85.trans (congrArg B hb114)))) (rv_load1 Try.underlying3 rfl e95 hc127) rfl hJ
               trivial) ?_
             exact all_nil
            ·intro _nm ρ σ128 hJ hoff hrel
             have e4 := look_off (N := 111) (hoff 4 rfl) rfl
             have e6 := look_off (N := 111) (hoff 6 rfl) rfl
             have e7 := look_off (N := 111) (hoff 7 rfl) rfl
             have e8 := look_off (N := 111) (hoff 8 rfl) rfl
             have e85 := hrel 39 rfl 85 rfl
             have e91 := hrel 45 rfl 91 rfl
             have e96 := hrel 50 rfl 96 rfl
             obtain ⟨H, -⟩ := (show Hp S0 σ0 σ128 [Ch.ro 0 (Sl a100 x93.2.1 c101) x93.2.1, Ch.ro 0 (Sl a90 x83.2.2.1 c91) x83.2.2.1, Ch.ro n0 (Sl a100 x93.2.1 c101) x93.2.1, Ch.ro n0 (Sl a90 x83.2.2.1 c91) x83.2.2.1, Ch.own n0 n0 (Sl a7 r2.2 c8) r2.2, Ch.own n0 n0 (Sl a57 r54 c58) r54, Ch.own n0 n0 (Sl a63 r60 c64) r60] ∧ Md (cov []) σ68 σ128 from hJ)
             clear hJ Hs
             rw [fr_lookL (L := [(4, (Sl a7 r2.2 c8)), (6, (Sl a57 r54 c58)), (7, (Sl a63 r60 c64)), (8, (I s67)), (85, (B (x108.1 != 2))), (91, (I x116.2.1)), (96, (I x122.1))]) ⟨e4, e6, e7, e8, e85, e91, e96, trivial⟩]
             clear hoff hrel e4 e6 e7 e8 e85 e91 e96
             refine st_g (v := (B (x116.2.1 != x122.1))) (congrArg some hb114) (rv_neq (a := x116.2.1) (b := x122.1) rfl rfl) ?_
             refine st (v := (B (x116.2.1 != x122.1))) (rv_pick_f (congrArg B hb114) rfl) ?_
             refine w_end ?_
             obtain rfl := Option.some.inj h
             exact ⟨rfl, _, σ128, fr_join ⟨rfl, rfl, rfl, rfl, rfl, trivial⟩, rfl, H.sel' [4, 5, 6] rfl rfl⟩
      ·clear hj
       have h := h'
       clear h' H
       rintro e a w ⟨rfl, ρ, σ129, rfl, rfl, H⟩
       refine q_then ?_
       refine cd_cond o70 rfl (fun hb130 => ?_) (fun hb130 => ?_)
       ·replace h := bif_t hb130 h
        refine c_seq ?_
        refine rg ?_
        refine st (v := (B false)) (rv_assign rfl) ?_
        refine w_end ?_
        refine q_then ?_
        refine c_ret ?_
        refine q_blk_r ?_
        refine q_then_r ?_
        refine q_then_r ?_
        refine q_blk_r ?_
        obtain rfl := Option.some.inj h
        obtain rfl := hres _ rfl
        exact .inr (⟨_, rfl, rfl, _, σ129, fr_join ⟨rfl, trivial⟩, rfl, H.sel' [] rfl rfl⟩)
       ·replace h := bif_f hb130 h
        refine c_skip ?_
        refine q_blk ?_
        refine q_then ?_
        refine rg ?_
        refine st (v := (I s67)) (rv_move rfl) ?_
        refine st (v := (I (w64 (s67 + 1)))) (rv_add (a := s67) (b := 1) rfl rfl) ?_
        refine st (v := (I (w64 (s67 + 1)))) (rv_assign rfl) ?_
        refine w_end ?_
        refine q_then ?_
        obtain rfl := Option.some.inj h
        exact ⟨_, rfl, _, σ129, fr_join ⟨rfl, rfl, rfl, rfl, trivial⟩, rfl, H.sel' [0, 1, 2] rfl rfl⟩
     ·replace h := bif_f hb69 h
      refine c_exit ?_
      refine q_then_x ?_
      refine q_then_x ?_
      refine q_blk_hit ?_
      obtain rfl := Option.some.inj h
      obtain rfl := hres _ rfl
      exact .inl ⟨_, rfl, rfl, _, σ68, fr_join ⟨rfl, rfl, rfl, trivial⟩, rfl, H.sel' [0, 1, 2] rfl rfl⟩
    ·clear hj
     have h := h'
     clear h' H
     rintro e a w (⟨t131, rfl, rfl, ρ, σ132, rfl, rfl, H⟩ | ⟨t134, rfl, rfl, ρ, σ135, rfl, rfl, H⟩)
     ·replace h := selim_l h
      refine q_then ?_
      refine c_seq ?_
      refine rg ?_
      refine st (v := (Sl a57 r54 c58)) (rv_move rfl) ?_
      refine st (v := (I (r54.length : Int))) (rv_len Try.underlying35 rfl) ?_
      refine st (v := (Sl a7 r2.2 c8)) (rv_move rfl) ?_
      refine st (v := (I (r2.2.length : Int))) (rv_len Try.underlying23 rfl) ?_
      refine st (v := (B ((r54.length : Int) == (r2.2.length : Int)))) (rv_eql (a := (r54.length : Int)) (b := (r2.2.length : Int)) rfl rfl) ?_
      refine st (v := (B ((r54.length : Int) == (r2.2.length : Int)))) (rv_move rfl) ?_
      rcases Bool.eq_false_or_eq_true ((r54.length : Int) == (r2.2.length : Int)) with hb133 | hb133
      ·replace h := bif_t hb133 h
       refine st_g (v := (Sl a63 r60 c64)) (congrArg some hb133) (rv_move rfl) ?_
       refine st_g (v := (I (r60.length : Int))) (congrArg some hb133) (rv_len Try.underlying35 rfl) ?_
       refine st_g (v := (Sl a7 r2.2 c8)) (congrArg some hb133) (rv_move rfl) ?_
       refine st_g (v := (I (r2.2.length : Int))) (congrArg some hb133) (rv_len Try.underlying23 rfl) ?_
       refine st_g (v := (B ((r60.length : Int) == (r2.2.length : Int)))) (congrArg some hb133) (rv_eql (a := (r60.length : Int)) (b := (r2.2.length : Int)) rfl rfl) ?_
       refine st (v := (B ((r60.length : Int) == (r2.2.length : Int)))) (rv_pick_t (congrArg B hb133) rfl) ?_
       refine st (v := (B ((r60.length : Int) == (r2.2.length : Int)))) (rv_assign rfl) ?_
       refine w_end ?_
       refine q_then ?_
       refine c_ret ?_
       obtain rfl := Option.some.inj h
       exact fin_ret (v := (B ((r60.length : Int) == (r2.2.length : Int)))) (results_ok Try.results5 (res_tmp (v := (B ((r60.length : Int) == (r2.2.length : Int)))) rfl res_nil) rfl) ⟨rfl, rfl⟩ (H.sel' [] rfl rfl)
      ·replace h := bif_f hb133 h
       refine st_skip (congrArg some hb133) ?_
       refine st_skip (congrArg some hb133) ?_
       refine st_skip (congrArg some hb133) ?_
       refine st_skip (congrArg some hb133) ?_
       refine st_skip (congrArg some hb133) ?_
       refine st (v := (B false)) (rv_pick_f (congrArg B hb133) rfl) ?_
       refine st (v := (B false)) (rv_assign rfl) ?_
       refine w_end ?_
       refine q_then ?_
       refine c_ret ?_
       obtain rfl := Option.some.inj h
       exact fin_ret (v := (B false)) (results_ok Try.results5 (res_tmp (v := (B false)) rfl res_nil) rfl) ⟨rfl, rfl⟩ (H.sel' [] rfl rfl)
     ·replace h := selim_r h
      refine q_then_r ?_
      obtain rfl := Option.some.inj h
      exact fin_ret (v := (B t134)) (results_ok Try.results5 (res_tmp (v := (B t134)) rfl res_nil) rfl) ⟨rfl, rfl⟩ (H.sel' [] rfl rfl)

end Go.Vs
