/- The functions compute what their models say. -/
import Derived.Test.YtifddljigkhfgaaKInBoxMostC7
set_option linter.unusedVariables false
set_option linter.unusedSimpArgs false
set_option maxRecDepth 20000
namespace Go.Vs
open Go Go.Proofs
attribute [local irreducible] Code.wp Code.wpIn wpList wpListIn wpQuiet Calls CallsIn

theorem c_laws_FnInBoxMost {code_0 : List UInt8} {acode_0 : Option Addr} {ccode_0 : Nat} {r : Bool} (h : M.laws_FnInBoxMost code_0 = some r) :
    Cal2 Try.prog 5 [(Sl acode_0 code_0 ccode_0)] [Ch.ro 0 (Sl acode_0 code_0 ccode_0) code_0] (fun n0 v L => v = (B r) ∧ L = []) := by
 refine cal2 (n := 119) Try.func5 rfl rfl rfl rfl ?_
 intro S0 σ0 n0 hn0 H
 unfold M.laws_FnInBoxMost at h
 refine c_seq ?_
 refine rg ?_
 refine st (v := (B false)) (rv_assign rfl) ?_
 refine w_end ?_
 refine q_then ?_
 refine c_seq ?_
 refine c_seq ?_
 refine rg ?_
 refine st (v := (Sl acode_0 code_0 ccode_0)) (rv_move rfl) ?_
 refine st (v := (I (code_0.length : Int))) (rv_len Try.underlying22 rfl) ?_
 refine st (v := (B (decide (1048576 < (code_0.length : Int))))) (rv_gtr (a := (code_0.length : Int)) (b := 1048576) rfl rfl) ?_
 refine w_end ?_
 refine q_then ?_
 refine cd_cond (decide (1048576 < (code_0.length : Int))) rfl (fun hb1 => ?_) (fun hb1 => ?_)
 ·replace h := bif_t hb1 h
  refine c_seq ?_
  refine rg ?_
  refine st (v := (B true)) (rv_assign rfl) ?_
  refine w_end ?_
  refine q_then ?_
  refine c_ret ?_
  refine q_then_r ?_
  obtain rfl := Option.some.inj h
  exact fin_ret (v := (B true)) (results_ok Try.results5 (res_tmp (v := (B true)) rfl res_nil) rfl) ⟨rfl, rfl⟩ (H.sel' [] rfl rfl)
 ·replace h := bif_f hb1 h
  refine c_skip ?_
  refine q_then ?_
  refine c_seq ?_
  refine rg ?_
  refine st (v := (Sl acode_0 code_0 ccode_0)) (rv_move rfl) ?_
  obtain ⟨r2, hx3, h'⟩ := bind_some h
  clear h
  have h := h'; clear h'
  have hc4 := c_spec_DrawWithinDist (acode_0 := acode_0) (ccode_0 := ccode_0) hx3
  refine st_call (cx_call hc4 (ent_f hc4.fn rfl) hn0 (show Hp S0 σ0 _ ([Ch.ro 0 (Sl acode_0 code_0 ccode_0) code_0] ++ [Ch.ro 0 (Sl acode_0 code_0 ccode_0) code_0]) from (H.sel' [0, 0] rfl rfl))) (wanted_none _ rfl _) ?_
  rintro _ σ9 ⟨_, ⟨a5, c6, a7, c8, rfl, rfl⟩, H, -⟩
  replace H : Hp S0 σ0 σ9 [Ch.own n0 n0 (Sl a5 r2.1 c6) r2.1, Ch.own n0 n0 (Sl a7 r2.2.2.1 c8) r2.2.2.1, Ch.ro 0 (Sl acode_0 code_0 ccode_0) code_0] := H
  refine st (v := (.tuple #[(Sl a5 r2.1 c6), (I r2.2.1), (Sl a7 r2.2.2.1 c8), (I r2.2.2.2)])) (rv_move rfl) ?_
  refine st (v := (Sl a5 r2.1 c6)) (rv_extract rfl rfl) ?_
  refine st (v := (I r2.2.1)) (rv_extract rfl rfl) ?_
  refine st (v := (Sl a7 r2.2.2.1 c8)) (rv_extract rfl rfl) ?_
  refine st (v := (I r2.2.2.2)) (rv_extract rfl rfl) ?_
  refine st (v := (Sl a5 r2.1 c6)) (rv_assign rfl) ?_
  refine st (v := (I r2.2.1)) (rv_assign rfl) ?_
  refine st (v := (Sl a7 r2.2.2.1 c8)) (rv_assign rfl) ?_
  refine st (v := (I r2.2.2.2)) (rv_assign rfl) ?_
  refine w_end ?_
  refine q_then ?_
  refine c_seq ?_
  refine rg ?_
  refine st (v := (Sl a5 r2.1 c6)) (rv_move rfl) ?_
  refine st (v := (I r2.2.1)) (rv_move rfl) ?_
  refine st (v := (Sl a7 r2.2.2.1 c8)) (rv_move rfl) ?_
  refine st (v := (I r2.2.2.2)) (rv_move rfl) ?_
  obtain ⟨r10, hx11, h'⟩ := bind_some h
  clear h
  have h := h'; clear h'
  have hc12 := c_impl_WithinDist (alist_0 := a5) (clist_0 := c6) (aat_2 := a7) (cat_2 := c8) hx11
  have hle := Nat.le_trans hn0 H.size
  refine st_call (cx_lend (Loan.lend (Loan.lend Loan.nil)) hc12 (ent_f hc12.fn rfl) (show Hp S0 σ0 _ ([Ch.own n0 n0 (Sl a5 r2.1 c6) r2.1, Ch.own n0 n0 (Sl a7 r2.2.2.1 c8) r2.2.2.1] ++ ([] ++ [Ch.ro 0 (Sl acode_0 code_0 ccode_0) code_0])) from (H.sel' [0, 1, 2] rfl rfl)) (by rintro _ _ _ ⟨_, _, rfl, rfl⟩; exact ⟨Ab.ownSc, trivial⟩)) (wanted_none _ rfl _) ?_
  rintro _ σ15 ⟨_, ⟨a13, c14, rfl, rfl⟩, H, -, -⟩
  replace H : Hp S0 σ0 σ15 [Ch.own 0 σ9.size (Sl a13 r10 c14) r10, Ch.own n0 n0 (Sl a5 r2.1 c6) r2.1, Ch.own n0 n0 (Sl a7 r2.2.2.1 c8) r2.2.2.1, Ch.ro 0 (Sl acode_0 code_0 ccode_0) code_0] := H
  replace H := H.ownLow 0 0 n0 rfl (Nat.le_refl _) hle
  clear hle
  replace H : Hp S0 σ0 σ15 [Ch.own 0 n0 (Sl a13 r10 c14) r10, Ch.own n0 n0 (Sl a5 r2.1 c6) r2.1, Ch.own n0 n0 (Sl a7 r2.2.2.1 c8) r2.2.2.1, Ch.ro 0 (Sl acode_0 code_0 ccode_0) code_0] := H
  refine st (v := (Sl a13 r10 c14)) (rv_assign rfl) ?_
  refine w_end ?_
  refine q_then ?_
  refine c_seq ?_
  refine c_seq ?_
  obtain ⟨o16, hj, h'⟩ := bind_some h
  clear h
  refine c_cut (fun e a w => e = .normal ∧ ∃ (ρ : Nat → Value) (σ : St), a = fr 119 (updL ρ [(3, (Sl a5 r2.1 c6)), (4, (I r2.2.1)), (5, (Sl a7 r2.2.2.1 c8)), (6, (I r2.2.2.2)), (7, (Sl a13 r10 c14)), (50, (B o16))]) ∧ w = σ.w ∧ Hp S0 σ0 σ [Ch.own n0 n0 (Sl a5 r2.1 c6) r2.1, Ch.own n0 n0 (Sl a7 r2.2.2.1 c8) r2.2.2.1, Ch.own 0 n0 (Sl a13 r10 c14) r10]) ?_ ?_
  ·clear h'
   rename _ = some o16 => h
   refine rg ?_
   refine st (v := (Sl a13 r10 c14)) (rv_move rfl) ?_
   refine st (v := (Sl a5 r2.1 c6)) (rv_move rfl) ?_
   refine st (v := (I r2.2.1)) (rv_move rfl) ?_
   refine st (v := (Sl a7 r2.2.2.1 c8)) (rv_move rfl) ?_
   refine st (v := (I r2.2.2.2)) (rv_move rfl) ?_
   obtain ⟨r17, hx18, h'⟩ := bind_some h
   clear h
   have h := h'; clear h'
   have hc19 := c_spec_WithinDist (alist_0 := a5) (clist_0 := c6) (aat_2 := a7) (cat_2 := c8) hx18
   have hle := Nat.le_trans hn0 H.size
   refine st_call (cx_lend (Loan.lend (Loan.lend Loan.nil)) hc19 (ent_f hc19.fn rfl) (show Hp S0 σ0 _ ([Ch.own n0 n0 (Sl a5 r2.1 c6) r2.1, Ch.own n0 n0 (Sl a7 r2.2.2.1 c8) r2.2.2.1] ++ ([] ++ [Ch.own 0 n0 (Sl a13 r10 c14) r10, Ch.ro 0 (Sl acode_0 code_0 ccode_0) code_0])) from (H.sel' [1, 2, 0, 3] rfl rfl)) (by rintro _ _ _ ⟨_, _, rfl, rfl⟩; exact ⟨Ab.ownSc, trivial⟩)) (wanted_none _ rfl _) ?_
   rintro _ σ22 ⟨_, ⟨a20, c21, rfl, rfl⟩, H, -, -⟩
   replace H : Hp S0 σ0 σ22 [Ch.own σ15.size σ15.size (Sl a20 r17 c21) r17, Ch.own n0 n0 (Sl a5 r2.1 c6) r2.1, Ch.own n0 n0 (Sl a7 r2.2.2.1 c8) r2.2.2.1, Ch.own 0 n0 (Sl a13 r10 c14) r10, Ch.ro 0 (Sl acode_0 code_0 ccode_0) code_0] := H
   replace H := H.ownLow 0 n0 n0 rfl hle hle
   clear hle
   replace H : Hp S0 σ0 σ22 [Ch.own n0 n0 (Sl a20 r17 c21) r17, Ch.own n0 n0 (Sl a5 r2.1 c6) r2.1, Ch.own n0 n0 (Sl a7 r2.2.2.1 c8) r2.2.2.1, Ch.own 0 n0 (Sl a13 r10 c14) r10, Ch.ro 0 (Sl acode_0 code_0 ccode_0) code_0] := H
   obtain ⟨σ23, hw24, H, -⟩ := H.pub 0 rfl (Nat.le_refl _)
   rw [← hw24]; clear hw24
   replace H := H.roLow 0 0 rfl (Nat.zero_le _)
   obtain ⟨r25, hx26, h'⟩ := bind_some h
   clear h
   have h := h'; clear h'
   have hc27 := c_laws_equalHits (aa_0 := a13) (ca_0 := c14) (ab_1 := a20) (cb_1 := c21) hx26
   have hle := Nat.le_trans hn0 H.size
   refine st_call (cx_lend (Loan.lend (Loan.same Loan.nil)) hc27 (ent_f hc27.fn rfl) (show Hp S0 σ0 _ ([Ch.own 0 n0 (Sl a13 r10 c14) r10] ++ ([Ch.ro 0 (Sl a20 r17 c21) r17] ++ [Ch.ro 0 (Sl a20 r17 c21) r17, Ch.ro n0 (Sl a20 r17 c21) r17, Ch.own n0 n0 (Sl a5 r2.1 c6) r2.1, Ch.own n0 n0 (Sl a7 r2.2.2.1 c8) r2.2.2.1, Ch.ro 0 (Sl acode_0 code_0 ccode_0) code_0])) from (H.sel' [4, 0, 0, 1, 2, 3, 5] rfl rfl)) (by rintro _ _ _ ⟨rfl, rfl⟩; exact trivial)) (wanted_none _ rfl _) ?_
   rintro _ σ28 ⟨_, ⟨rfl, rfl⟩, H, -, -⟩
   replace H : Hp S0 σ0 σ28 [Ch.own 0 n0 (Sl a13 r10 c14) r10, Ch.ro 0 (Sl a20 r17 c21) r17, Ch.ro n0 (Sl a20 r17 c21) r17, Ch.own n0 n0 (Sl a5 r2.1 c6) r2.1, Ch.own n0 n0 (Sl a7 r2.2.2.1 c8) r2.2.2.1, Ch.ro 0 (Sl acode_0 code_0 ccode_0) code_0] := H
   clear hle
   replace H : Hp S0 σ0 σ28 [Ch.own 0 n0 (Sl a13 r10 c14) r10, Ch.ro 0 (Sl a20 r17 c21) r17, Ch.ro n0 (Sl a20 r17 c21) r17, Ch.own n0 n0 (Sl a5 r2.1 c6) r2.1, Ch.own n0 n0 (Sl a7 r2.2.2.1 c8) r2.2.2.1, Ch.ro 0 (Sl acode_0 code_0 ccode_0) code_0] := H
   refine st (v := (B (!r25))) (rv_not rfl) ?_
   refine st (v := (B (!r25))) (rv_move rfl) ?_
   rcases Bool.eq_false_or_eq_true (!r25) with hb29 | hb29
   ·replace h := bif_t hb29 h
    refine st_skip (congrArg some hb29) ?_
    refine st_skip (congrArg some hb29) ?_
    refine st_skip (congrArg some hb29) ?_
    refine st (v := (B true)) (rv_pick_t (congrArg B hb29) rfl) ?_
    refine st (v := (B true)) (rv_move rfl) ?_
    refine st_skip rfl ?_
    refine st_skip rfl ?_
    refine st_skip rfl ?_
    refine st (v := (B true)) (rv_pick_t rfl rfl) ?_
    refine st (v := (B true)) (rv_move rfl) ?_
    refine st_skip rfl ?_
    refine st_skip rfl ?_
    refine st (v := (B true)) (rv_pick_t rfl rfl) ?_
    refine w_end ?_
    obtain rfl := Option.some.inj h
    exact ⟨rfl, _, σ28, fr_join ⟨rfl, rfl, rfl, rfl, rfl, rfl, trivial⟩, rfl, H.sel' [3, 4, 0] rfl rfl⟩
   ·replace h := bif_f hb29 h
    refine st_g (v := (Sl a5 r2.1 c6)) (congrArg some hb29) (rv_move rfl) ?_
    obtain ⟨r30, hx31, h'⟩ := bind_some h
    clear h
    have h := h'; clear h'
    have hc32 := c_impl_ValidStore (alist_0 := a5) (clist_0 := c6) hx31
    have hle := Nat.le_trans hn0 H.size
    refine st_call (cx_lend (Loan.lend Loan.nil) hc32 (ent_f hc32.fn rfl) (show Hp S0 σ0 _ ([Ch.own n0 n0 (Sl a5 r2.1 c6) r2.1] ++ ([] ++ [Ch.own 0 n0 (Sl a13 r10 c14) r10, Ch.ro 0 (Sl a20 r17 c21) r17, Ch.ro n0 (Sl a20 r17 c21) r17, Ch.own n0 n0 (Sl a7 r2.2.2.1 c8) r2.2.2.1, Ch.ro 0 (Sl acode_0 code_0 ccode_0) code_0])) from (H.sel' [3, 0, 1, 2, 4, 5] rfl rfl)) (by rintro _ _ _ ⟨rfl, rfl⟩; exact trivial)) (wanted_yes rfl (by exact (congrArg some hb29))) ?_
    rintro _ σ33 ⟨_, ⟨rfl, rfl⟩, H, -, -⟩
    replace H : Hp S0 σ0 σ33 [Ch.own n0 n0 (Sl a5 r2.1 c6) r2.1, Ch.own 0 n0 (Sl a13 r10 c14) r10, Ch.ro 0 (Sl a20 r17 c21) r17, Ch.ro n0 (Sl a20 r17 c21) r17, Ch.own n0 n0 (Sl a7 r2.2.2.1 c8) r2.2.2.1, Ch.ro 0 (Sl acode_0 code_0 ccode_0) code_0] := H
    clear hle
    replace H : Hp S0 σ0 σ33 [Ch.own n0 n0 (Sl a5 r2.1 c6) r2.1, Ch.own 0 n0 (Sl a13 r10 c14) r10, Ch.ro 0 (Sl a20 r17 c21) r17, Ch.ro n0 (Sl a20 r17 c21) r17, Ch.own n0 n0 (Sl a7 r2.2.2.1 c8) r2.2.2.1, Ch.ro 0 (Sl acode_0 code_0 ccode_0) code_0] := H
    refine st_g (v := (B (!r30))) (congrArg some hb29) (rv_not rfl) ?_
    refine st (v := (B (!r30))) (rv_pick_f (congrArg B hb29) rfl) ?_
    refine st (v := (B (!r30))) (rv_move rfl) ?_
    rcases Bool.eq_false_or_eq_true (!r30) with hb34 | hb34
    ·replace h := bif_t hb34 h
     refine st_skip (congrArg some hb34) ?_
     refine st_skip (congrArg some hb34) ?_
     refine st_skip (congrArg some hb34) ?_
     refine st (v := (B true)) (rv_pick_t (congrArg B hb34) rfl) ?_
     refine st (v := (B true)) (rv_move rfl) ?_
     refine st_skip rfl ?_
     refine st_skip rfl ?_
     refine st (v := (B true)) (rv_pick_t rfl rfl) ?_
     refine w_end ?_
     obtain rfl := Option.some.inj h
     exact ⟨rfl, _, σ33, fr_join ⟨rfl, rfl, rfl, rfl, rfl, rfl, trivial⟩, rfl, H.sel' [0, 4, 1] rfl rfl⟩
    ·replace h := bif_f hb34 h
     refine st_g (v := (Sl a7 r2.2.2.1 c8)) (congrArg some hb34) (rv_move rfl) ?_
     obtain ⟨r35, hx36, h'⟩ := bind_some h
     clear h
     have h := h'; clear h'
     have hc37 := c_impl_ValidVector (av_0 := a7) (cv_0 := c8) hx36
     have hle := Nat.le_trans hn0 H.size
     refine st_call (cx_lend (Loan.lend Loan.nil) hc37 (ent_f hc37.fn rfl) (show Hp S0 σ0 _ ([Ch.own n0 n0 (Sl a7 r2.2.2.1 c8) r2.2.2.1] ++ ([] ++ [Ch.own n0 n0 (Sl a5 r2.1 c6) r2.1, Ch.own 0 n0 (Sl a13 r10 c14) r10, Ch.ro 0 (Sl a20 r17 c21) r17, Ch.ro n0 (Sl a20 r17 c21) r17, Ch.ro 0 (Sl acode_0 code_0 ccode_0) code_0])) from (H.sel' [4, 0, 1, 2, 3, 5] rfl rfl)) (by rintro _ _ _ ⟨rfl, rfl⟩; exact trivial)) (wanted_yes rfl (by exact (congrArg some hb34))) ?_
     rintro _ σ38 ⟨_, ⟨rfl, rfl⟩, H, -, -⟩
     replace H : Hp S0 σ0 σ38 [Ch.own n0 n0 (Sl a7 r2.2.2.1 c8) r2.2.2.1, Ch.own n0 n0 (Sl a5 r2.1 c6) r2.1, Ch.own 0 n0 (Sl a13 r10 c14) r10, Ch.ro 0 (Sl a20 r17 c21) r17, Ch.ro n0 (Sl a20 r17 c21) r17, Ch.ro 0 (Sl acode_0 code_0 ccode_0) code_0] := H
     clear hle
     replace H : Hp S0 σ0 σ38 [Ch.own n0 n0 (Sl a7 r2.2.2.1 c8) r2.2.2.1, Ch.own n0 n0 (Sl a5 r2.1 c6) r2.1, Ch.own 0 n0 (Sl a13 r10 c14) r10, Ch.ro 0 (Sl a20 r17 c21) r17, Ch.ro n0 (Sl a20 r17 c21) r17, Ch.ro 0 (Sl acode_0 code_0 ccode_0) code_0] := H
     refine st_g (v := (B (!r35))) (congrArg some hb34) (rv_not rfl) ?_
     refine st (v := (B (!r35))) (rv_pick_f (congrArg B hb34) rfl) ?_
     refine st (v := (B (!r35))) (rv_move rfl) ?_
     rcases Bool.eq_false_or_eq_true (!r35) with hb39 | hb39
     ·replace h := bif_t hb39 h
      refine st_skip (congrArg some hb39) ?_
      refine st_skip (congrArg some hb39) ?_
      refine st (v := (B true)) (rv_pick_t (congrArg B hb39) rfl) ?_
      refine w_end ?_
      obtain rfl := Option.some.inj h
      exact ⟨rfl, _, σ38, fr_join ⟨rfl, rfl, rfl, rfl, rfl, rfl, trivial⟩, rfl, H.sel' [1, 0, 2] rfl rfl⟩
     ·replace h := bif_f hb39 h
      refine st_g (v := (I r2.2.2.2)) (congrArg some hb39) (rv_move rfl) ?_
      refine st_g (v := (B (decide (r2.2.2.2 < 0)))) (congrArg some hb39) (rv_lss (a := r2.2.2.2) (b := 0) rfl rfl) ?_
      refine st (v := (B (decide (r2.2.2.2 < 0)))) (rv_pick_f (congrArg B hb39) rfl) ?_
      refine w_end ?_
      obtain rfl := Option.some.inj h
      exact ⟨rfl, _, σ38, fr_join ⟨rfl, rfl, rfl, rfl, rfl, rfl, trivial⟩, rfl, H.sel' [1, 0, 2] rfl rfl⟩
  ·clear hj
   have h := h'
   clear h' H
   rintro e a w ⟨rfl, ρ, σ40, rfl, rfl, H⟩
   refine q_then ?_
   refine cd_cond o16 rfl (fun hb41 => ?_) (fun hb41 => ?_)
   ·replace h := bif_t hb41 h
    refine c_seq ?_
    refine rg ?_
    refine st (v := (Sl a13 r10 c14)) (rv_move rfl) ?_
    refine st (v := (Sl a5 r2.1 c6)) (rv_move rfl) ?_
    refine st (v := (I r2.2.1)) (rv_move rfl) ?_
    refine st (v := (Sl a7 r2.2.2.1 c8)) (rv_move rfl) ?_
    refine st (v := (I r2.2.2.2)) (rv_move rfl) ?_
    obtain ⟨σ42, hw43, H, -⟩ := H.pub 0 rfl (Nat.le_refl _)
    rw [← hw43]; clear hw43
    obtain ⟨σ44, hw45, H, -⟩ := H.pub 1 rfl (Nat.le_refl _)
    rw [← hw45]; clear hw45
    replace H := H.roLow 1 0 rfl (Nat.zero_le _)
    replace H := H.roLow 1 0 rfl (Nat.zero_le _)
    obtain ⟨r46, hx47, h'⟩ := bind_some h
    clear h
    have h := h'; clear h'
    have hc48 := c_spec_WithinDist (alist_0 := a5) (clist_0 := c6) (aat_2 := a7) (cat_2 := c8) hx47
    refine st_call (cx_call hc48 (ent_f hc48.fn rfl) hn0 (show Hp S0 σ0 _ ([Ch.ro 0 (Sl a5 r2.1 c6) r2.1, Ch.ro 0 (Sl a7 r2.2.2.1 c8) r2.2.2.1] ++ [Ch.ro 0 (Sl a7 r2.2.2.1 c8) r2.2.2.1, Ch.ro 0 (Sl a5 r2.1 c6) r2.1, Ch.ro n0 (Sl a7 r2.2.2.1 c8) r2.2.2.1, Ch.ro n0 (Sl a5 r2.1 c6) r2.1, Ch.own 0 n0 (Sl a13 r10 c14) r10]) from (H.sel' [1, 0, 0, 1, 2, 3, 4] rfl rfl))) (wanted_none _ rfl _) ?_
    rintro _ σ51 ⟨_, ⟨a49, c50, rfl, rfl⟩, H, -⟩
    replace H : Hp S0 σ0 σ51 [Ch.own n0 n0 (Sl a49 r46 c50) r46, Ch.ro 0 (Sl a7 r2.2.2.1 c8) r2.2.2.1, Ch.ro 0 (Sl a5 r2.1 c6) r2.1, Ch.ro n0 (Sl a7 r2.2.2.1 c8) r2.2.2.1, Ch.ro n0 (Sl a5 r2.1 c6) r2.1, Ch.own 0 n0 (Sl a13 r10 c14) r10] := H
    replace H := H.ownLow 5 0 0 rfl (Nat.le_refl _) (Nat.zero_le _)
    obtain ⟨σ52, hw53, H, -⟩ := H.pub 0 rfl (Nat.le_refl _)
    rw [← hw53]; clear hw53
    obtain ⟨σ54, hw55, H, -⟩ := H.pub 1 rfl (Nat.le_refl _)
    rw [← hw55]; clear hw55
    replace H := H.roLow 0 0 rfl (Nat.zero_le _)
    obtain ⟨r56, hx57, h'⟩ := bind_some h
    clear h
    have h := h'; clear h'
    have hc58 := c_laws_equalHits (aa_0 := a13) (ca_0 := c14) (ab_1 := a49) (cb_1 := c50) hx57
    refine st_call (cx_call hc58 (ent_f hc58.fn rfl) hn0 (show Hp S0 σ0 _ ([Ch.ro 0 (Sl a13 r10 c14) r10, Ch.ro 0 (Sl a49 r46 c50) r46] ++ [Ch.ro 0 (Sl a49 r46 c50) r46, Ch.ro n0 (Sl a49 r46 c50) r46, Ch.ro 0 (Sl a13 r10 c14) r10, Ch.ro 0 (Sl a7 r2.2.2.1 c8) r2.2.2.1, Ch.ro 0 (Sl a5 r2.1 c6) r2.1, Ch.ro n0 (Sl a7 r2.2.2.1 c8) r2.2.2.1, Ch.ro n0 (Sl a5 r2.1 c6) r2.1]) from (H.sel' [2, 0, 0, 1, 2, 3, 4, 5, 6] rfl rfl))) (wanted_none _ rfl _) ?_
    rintro _ σ59 ⟨_, ⟨rfl, rfl⟩, H, -⟩
    replace H : Hp S0 σ0 σ59 [Ch.ro 0 (Sl a49 r46 c50) r46, Ch.ro n0 (Sl a49 r46 c50) r46, Ch.ro 0 (Sl a13 r10 c14) r10, Ch.ro 0 (Sl a7 r2.2.2.1 c8) r2.2.2.1, Ch.ro 0 (Sl a5 r2.1 c6) r2.1, Ch.ro n0 (Sl a7 r2.2.2.1 c8) r2.2.2.1, Ch.ro n0 (Sl a5 r2.1 c6) r2.1] := H
    refine st (v := (B r56)) (rv_assign rfl) ?_
    refine w_end ?_
    refine q_then ?_
    refine c_ret ?_
    refine q_then_r ?_
    obtain rfl := Option.some.inj h
    exact fin_ret (v := (B r56)) (results_ok Try.results5 (res_tmp (v := (B r56)) rfl res_nil) rfl) ⟨rfl, rfl⟩ (H.sel' [] rfl rfl)
   ·replace h := bif_f hb41 h
    refine c_skip ?_
    refine q_then ?_
    refine c_seq ?_
    refine rg ?_
    refine st_ex (ex_buildSlice (el := n0) (xs := ([] : List Int)) (ps := []) (cs := []) H hn0 Try.underlying24 ti3 rfl rfl (by kernel_rfl) (.nil) rfl) (wanted_none _ rfl _) ?_
    rintro _ σ61 ⟨b60, rfl, H, -⟩
    refine st (v := (Sl (some ⟨b60, 0, none⟩) ([] : List Int) 0)) (rv_assign rfl) ?_
    refine w_end ?_
    refine q_then ?_
    refine c_seq ?_
    refine rg ?_
    refine st_ex (ex_buildSlice (el := n0) (xs := ([] : List Int)) (ps := []) (cs := []) H hn0 Try.underlying24 ti3 rfl rfl (by kernel_rfl) (.nil) rfl) (wanted_none _ rfl _) ?_
    rintro _ σ63 ⟨b62, rfl, H, -⟩
    refine st (v := (Sl (some ⟨b62, 0, none⟩) ([] : List Int) 0)) (rv_assign rfl) ?_
    refine w_end ?_
    refine q_then ?_
    refine c_seq ?_
    refine c_seq ?_
    refine rg ?_
    refine st (v := (I 0)) (rv_assign rfl) ?_
    refine w_end ?_
    refine q_then ?_
    obtain ⟨o64, hj, h'⟩ := bind_some h
    clear h
    refine c_cut (fun e a w => e = .normal ∧ ∃ (ρ : Nat → Value) (σ : St) (aj1 : Option Addr) (cj2 : Nat) (aj3 : Option Addr) (cj4 : Nat), a = fr 119 (updL ρ [(3, (Sl a5 r2.1 c6)), (5, (Sl a7 r2.2.2.1 c8)), (6, (I r2.2.2.2)), (8, (Sl aj1 o64.1 cj2)), (9, (Sl aj3 o64.2 cj4))]) ∧ w = σ.w ∧ Hp S0 σ0 σ [Ch.own n0 n0 (Sl a5 r2.1 c6) r2.1, Ch.own n0 n0 (Sl a7 r2.2.2.1 c8) r2.2.2.1, Ch.own n0 n0 (Sl aj1 o64.1 cj2) o64.1, Ch.own n0 n0 (Sl aj3 o64.2 cj4) o64.2]) ?_ ?_
    ·clear h'
     rename _ = some o64 => h
     refine c_blk ?_
     refine wp_loopM _ h (fun s65 a w => ∃ (ρ : Nat → Value) (σ : St) (aj1 : Option Addr) (cj2 : Nat) (aj3 : Option Addr) (cj4 : Nat), a = fr 119 (updL ρ [(3, (Sl a5 r2.1 c6)), (5, (Sl a7 r2.2.2.1 c8)), (6, (I r2.2.2.2)), (8, (Sl aj1 s65.1 cj2)), (9, (Sl aj3 s65.2.1 cj4)), (10, (I s65.2.2))]) ∧ w = σ.w ∧ Hp S0 σ0 σ [Ch.own n0 n0 (Sl a5 r2.1 c6) r2.1, Ch.own n0 n0 (Sl a7 r2.2.2.1 c8) r2.2.2.1, Ch.own n0 n0 (Sl aj1 s65.1 cj2) s65.1, Ch.own n0 n0 (Sl aj3 s65.2.1 cj4) s65.2.1]) ⟨_, σ63, (some ⟨b60, 0, none⟩), 0, (some ⟨b62, 0, none⟩), 0, fr_join ⟨rfl, rfl, rfl, rfl, rfl, rfl, trivial⟩, rfl, H.sel' [2, 3, 1, 0] rfl rfl⟩ ?_
     clear h H
     rintro s65 a w o ⟨ρ, σ66, a67, c68, a69, c70, rfl, rfl, H⟩ h hres
     refine c_seq ?_
     refine c_seq ?_
     refine rg ?_
     refine st (v := (I s65.2.2)) (rv_move rfl) ?_
     refine st (v := (Sl a7 r2.2.2.1 c8)) (rv_move rfl) ?_
     refine st (v := (I (r2.2.2.1.length : Int))) (rv_len Try.underlying24 rfl) ?_
     refine st (v := (B (decide (s65.2.2 < (r2.2.2.1.length : Int))))) (rv_lss (a := s65.2.2) (b := (r2.2.2.1.length : Int)) rfl rfl) ?_
     refine w_end ?_
     refine q_then ?_
     refine cd_cond (decide (s65.2.2 < (r2.2.2.1.length : Int))) rfl (fun hb71 => ?_) (fun hb71 => ?_)
     ·replace h := bif_t hb71 h
      refine c_skip ?_
      refine q_then ?_
      refine c_seq ?_
      refine c_blk ?_
      refine c_seq ?_
      refine rg ?_
      refine st (v := (Sl a67 s65.1 c68)) (rv_move rfl) ?_
      refine st (v := (Sl a7 r2.2.2.1 c8)) (rv_move rfl) ?_
      refine st (v := (I s65.2.2)) (rv_move rfl) ?_
      obtain ⟨x72, hx73, h'⟩ := bind_some h
      clear h
      have h := h'; clear h'
      obtain ⟨b75, o76, hi74, -⟩ := (H.own 1 rfl).ix hx73
      refine st (v := (pt b75 o76)) (rv_ix Try.underlying24 ti3 rfl rfl hi74) ?_
      have hc77 := ((H.own 1 rfl).at hx73 hi74).int
      refine st (v := (I x72)) (rv_load1 Try.underlying3 rfl rfl hc77) ?_
      refine st (v := (I r2.2.2.2)) (rv_move rfl) ?_
      refine st (v := (I (w64 (x72 - r2.2.2.2)))) (rv_sub (a := x72) (b := r2.2.2.2) rfl rfl) ?_
      refine st_ex (ex_buildSlice (el := n0) (xs := ([w64 (x72 - r2.2.2.2)] : List Int)) (ps := [(0, (I (w64 (x72 - r2.2.2.2))))]) (cs := [(I (w64 (x72 - r2.2.2.2)))]) H hn0 Try.underlying24 ti3 rfl rfl (by kernel_rfl) (.cons (c := [(I (w64 (x72 - r2.2.2.2)))]) rfl (.nil)) rfl) (wanted_none _ rfl _) ?_
      rintro _ σ79 ⟨b78, rfl, H, -⟩
      obtain ⟨xs80, hx81, h'⟩ := bind_some h
      clear h
      have h := h'; clear h'
      refine st_ex (ex_append H (i := 3) rfl Try.underlying24 Try.underlying24 ti3 rfl rfl (by decide) (H.own 0 rfl).rd hx81 hn0 rfl rfl) (wanted_none _ rfl _) ?_
      rintro _ σ84 ⟨a82, c83, rfl, H, -⟩
      refine st (v := (Sl a82 xs80 c83)) (rv_assign rfl) ?_
      refine w_end ?_
      refine q_then ?_
      refine rg ?_
      refine st (v := (Sl a69 s65.2.1 c70)) (rv_move rfl) ?_
      refine st (v := (Sl a7 r2.2.2.1 c8)) (rv_move rfl) ?_
      refine st (v := (I s65.2.2)) (rv_move rfl) ?_
      obtain ⟨x85, hx86, h'⟩ := bind_some h
      clear h
      have h := h'; clear h'
      obtain ⟨b88, o89, hi87, -⟩ := (H.own 3 rfl).ix hx86
      refine st (v := (pt b88 o89)) (rv_ix Try.underlying24 ti3 rfl rfl hi87) ?_
      have hc90 := ((H.own 3 rfl).at hx86 hi87).int
      refine st (v := (I x85)) (rv_load1 Try.underlying3 rfl rfl hc90) ?_
      refine st (v := (I r2.2.2.2)) (rv_move rfl) ?_
      refine st (v := (I (w64 (x85 + r2.2.2.2)))) (rv_add (a := x85) (b := r2.2.2.2) rfl rfl) ?_
      refine st_ex (ex_buildSlice (el := n0) (xs := ([w64 (x85 + r2.2.2.2)] : List Int)) (ps := [(0, (I (w64 (x85 + r2.2.2.2))))]) (cs := [(I (w64 (x85 + r2.2.2.2)))]) H hn0 Try.underlying24 ti3 rfl rfl (by kernel_rfl) (.cons (c := [(I (w64 (x85 + r2.2.2.2)))]) rfl (.nil)) rfl) (wanted_none _ rfl _) ?_
      rintro _ σ92 ⟨b91, rfl, H, -⟩
      obtain ⟨xs93, hx94, h'⟩ := bind_some h
      clear h
      have h := h'; clear h'
      refine st_ex (ex_append H (i := 5) rfl Try.underlying24 Try.underlying24 ti3 rfl rfl (by decide) (H.own 0 rfl).rd hx94 hn0 rfl rfl) (wanted_none _ rfl _) ?_
      rintro _ σ97 ⟨a95, c96, rfl, H, -⟩
      refine st (v := (Sl a95 xs93 c96)) (rv_assign rfl) ?_
      refine w_end ?_
      refine q_blk ?_
      refine q_then ?_
      refine rg ?_
      refine st (v := (I s65.2.2)) (rv_move rfl) ?_
      refine st (v := (I (w64 (s65.2.2 + 1)))) (rv_add (a := s65.2.2) (b := 1) rfl rfl) ?_
      refine st (v := (I (w64 (s65.2.2 + 1)))) (rv_assign rfl) ?_
      refine w_end ?_
      refine q_then ?_
      obtain rfl := Option.some.inj h
      exact ⟨_, rfl, _, σ97, a82, c83, a95, c96, fr_join ⟨rfl, rfl, rfl, rfl, rfl, rfl, trivial⟩, rfl, H.sel' [4, 5, 2, 0] rfl rfl⟩
     ·replace h := bif_f hb71 h
      refine c_exit ?_
      refine q_then_x ?_
      refine q_then_x ?_
      refine q_blk_hit ?_
      obtain rfl := Option.some.inj h
      obtain rfl := hres _ rfl
      exact ⟨rfl, _, σ66, a67, c68, a69, c70, fr_join ⟨rfl, rfl, rfl, rfl, rfl, trivial⟩, rfl, H.sel' [0, 1, 2, 3] rfl rfl⟩
    ·clear hj
     have h := h'
     clear h' H
     rintro e a w ⟨rfl, ρ, σ98, a99, c100, a101, c102, rfl, rfl, H⟩
     refine q_then ?_
     refine c_seq ?_
     refine c_seq ?_
     obtain ⟨o103, hj, h'⟩ := bind_some h
     clear h
     refine c_cut (fun e a w => e = .normal ∧ ∃ (ρ : Nat → Value) (σ : St), a = fr 119 (updL ρ [(3, (Sl a5 r2.1 c6)), (5, (Sl a7 r2.2.2.1 c8)), (6, (I r2.2.2.2)), (8, (Sl a99 o64.1 c100)), (9, (Sl a101 o64.2 c102)), (91, (B o103))]) ∧ w = σ.w ∧ Hp S0 σ0 σ [Ch.own n0 n0 (Sl a5 r2.1 c6) r2.1, Ch.own n0 n0 (Sl a7 r2.2.2.1 c8) r2.2.2.1, Ch.own n0 n0 (Sl a99 o64.1 c100) o64.1, Ch.own n0 n0 (Sl a101 o64.2 c102) o64.2]) ?_ ?_
     ·clear h'
      rename _ = some o103 => h
      refine rg ?_
      refine st (v := (Sl a99 o64.1 c100)) (rv_move rfl) ?_
      obtain ⟨r104, hx105, h'⟩ := bind_some h
      clear h
      have h := h'; clear h'
      have hc106 := c_impl_ValidVector (av_0 := a99) (cv_0 := c100) hx105
      have hle := Nat.le_trans hn0 H.size
      refine st_call (cx_lend (Loan.lend Loan.nil) hc106 (ent_f hc106.fn rfl) (show Hp S0 σ0 _ ([Ch.own n0 n0 (Sl a99 o64.1 c100) o64.1] ++ ([] ++ [Ch.own n0 n0 (Sl a5 r2.1 c6) r2.1, Ch.own n0 n0 (Sl a7 r2.2.2.1 c8) r2.2.2.1, Ch.own n0 n0 (Sl a101 o64.2 c102) o64.2])) from (H.sel' [2, 0, 1, 3] rfl rfl)) (by rintro _ _ _ ⟨rfl, rfl⟩; exact trivial)) (wanted_none _ rfl _) ?_
      rintro _ σ107 ⟨_, ⟨rfl, rfl⟩, H, -, -⟩
      replace H : Hp S0 σ0 σ107 [Ch.own n0 n0 (Sl a99 o64.1 c100) o64.1, Ch.own n0 n0 (Sl a5 r2.1 c6) r2.1, Ch.own n0 n0 (Sl a7 r2.2.2.1 c8) r2.2.2.1, Ch.own n0 n0 (Sl a101 o64.2 c102) o64.2] := H
      clear hle
      replace H : Hp S0 σ0 σ107 [Ch.own n0 n0 (Sl a99 o64.1 c100) o64.1, Ch.own n0 n0 (Sl a5 r2.1 c6) r2.1, Ch.own n0 n0 (Sl a7 r2.2.2.1 c8) r2.2.2.1, Ch.own n0 n0 (Sl a101 o64.2 c102) o64.2] := H
      refine st (v := (B (!r104))) (rv_not rfl) ?_
      refine st (v := (B (!r104))) (rv_move rfl) ?_
      rcases Bool.eq_false_or_eq_true (!r104) with hb108 | hb108
      ·replace h := bif_t hb108 h
       refine st_skip (congrArg some hb108) ?_
       refine st_skip (congrArg some hb108) ?_
       refine st_skip (congrArg some hb108) ?_
       refine st (v := (B true)) (rv_pick_t (congrArg B hb108) rfl) ?_
       refine w_end ?_
       obtain rfl := Option.some.inj h
       exact ⟨rfl, _, σ107, fr_join ⟨rfl, rfl, rfl, rfl, rfl, rfl, trivial⟩, rfl, H.sel' [1, 2, 0, 3] rfl rfl⟩
      ·replace h := bif_f hb108 h
       refine st_g (v := (Sl a101 o64.2 c102)) (congrArg some hb108) (rv_move rfl) ?_
       obtain ⟨r109, hx110, h'⟩ := bind_some h
       clear h
       have h := h'; clear h'
       have hc111 := c_impl_ValidVector (av_0 := a101) (cv_0 := c102) hx110
       have hle := Nat.le_trans hn0 H.size
       refine st_call (cx_lend (Loan.lend Loan.nil) hc111 (ent_f hc111.fn rfl) (show Hp S0 σ0 _ ([Ch.own n0 n0 (Sl a101 o64.2 c102) o64.2] ++ ([] ++ [Ch.own n0 n0 (Sl a99 o64.1 c100) o64.1, Ch.own n0 n0 (Sl a5 r2.1 c6) r2.1, Ch.own n0 n0 (Sl a7 r2.2.2.1 c8) r2.2.2.1])) from (H.sel' [3, 0, 1, 2] rfl rfl)) (by rintro _ _ _ ⟨rfl, rfl⟩; exact trivial)) (wanted_yes rfl (by exact (congrArg some hb108))) ?_
       rintro _ σ112 ⟨_, ⟨rfl, rfl⟩, H, -, -⟩
       replace H : Hp S0 σ0 σ112 [Ch.own n0 n0 (Sl a101 o64.2 c102) o64.2, Ch.own n0 n0 (Sl a99 o64.1 c100) o64.1, Ch.own n0 n0 (Sl a5 r2.1 c6) r2.1, Ch.own n0 n0 (Sl a7 r2.2.2.1 c8) r2.2.2.1] := H
       clear hle
       replace H : Hp S0 σ0 σ112 [Ch.own n0 n0 (Sl a101 o64.2 c102) o64.2, Ch.own n0 n0 (Sl a99 o64.1 c100) o64.1, Ch.own n0 n0 (Sl a5 r2.1 c6) r2.1, Ch.own n0 n0 (Sl a7 r2.2.2.1 c8) r2.2.2.1] := H
       refine st_g (v := (B (!r109))) (congrArg some hb108) (rv_not rfl) ?_
       refine st (v := (B (!r109))) (rv_pick_f (congrArg B hb108) rfl) ?_
       refine w_end ?_
       obtain rfl := Option.some.inj h
       exact ⟨rfl, _, σ112, fr_join ⟨rfl, rfl, rfl, rfl, rfl, rfl, trivial⟩, rfl, H.sel' [2, 3, 1, 0] rfl rfl⟩
     ·clear hj
      have h := h'
      clear h' H
      rintro e a w ⟨rfl, ρ, σ113, rfl, rfl, H⟩
      refine q_then ?_
      refine cd_cond o103 rfl (fun hb114 => ?_) (fun hb114 => ?_)
      ·replace h := bif_t hb114 h
       refine c_seq ?_
       refine rg ?_
       refine st (v := (B true)) (rv_assign rfl) ?_
       refine w_end ?_
       refine q_then ?_
       refine c_ret ?_
       refine q_then_r ?_
       obtain rfl := Option.some.inj h
       exact fin_ret (v := (B true)) (results_ok Try.results5 (res_tmp (v := (B true)) rfl res_nil) rfl) ⟨rfl, rfl⟩ (H.sel' [] rfl rfl)
      ·replace h := bif_f hb114 h
       refine c_skip ?_
       refine q_then ?_
       refine c_seq ?_
       refine rg ?_
       refine st (v := (Sl a5 r2.1 c6)) (rv_move rfl) ?_
       refine st (v := (Sl a99 o64.1 c100)) (rv_move rfl) ?_
       refine st (v := (Sl a101 o64.2 c102)) (rv_move rfl) ?_
       obtain ⟨σ115, hw116, H, -⟩ := H.pub 2 rfl (Nat.le_refl _)
       rw [← hw116]; clear hw116
       obtain ⟨σ117, hw118, H, -⟩ := H.pub 3 rfl (Nat.le_refl _)
       rw [← hw118]; clear hw118
       replace H := H.roLow 1 0 rfl (Nat.zero_le _)
       replace H := H.roLow 1 0 rfl (Nat.zero_le _)
       obtain ⟨r119, hx120, h'⟩ := bind_some h
       clear h
       have h := h'; clear h'
       have hc121 := c_impl_InBox (alist_0 := a5) (clist_0 := c6) (alow_1 := a99) (clow_1 := c100) (ahigh_2 := a101) (chigh_2 := c102) hx120
       have hle := Nat.le_trans hn0 H.size
       refine st_call (cx_lend (Loan.lend (Loan.same (Loan.same Loan.nil))) hc121 (ent_f hc121.fn rfl) (show Hp S0 σ0 _ ([Ch.own n0 n0 (Sl a5 r2.1 c6) r2.1] ++ ([Ch.ro 0 (Sl a99 o64.1 c100) o64.1, Ch.ro 0 (Sl a101 o64.2 c102) o64.2] ++ [Ch.ro 0 (Sl a101 o64.2 c102) o64.2, Ch.ro 0 (Sl a99 o64.1 c100) o64.1, Ch.ro n0 (Sl a101 o64.2 c102) o64.2, Ch.ro n0 (Sl a99 o64.1 c100) o64.1, Ch.own n0 n0 (Sl a7 r2.2.2.1 c8) r2.2.2.1])) from (H.sel' [4, 1, 0, 0, 1, 2, 3, 5] rfl rfl)) (by rintro _ _ _ ⟨_, _, rfl, rfl⟩; exact ⟨Ab.ownSc, trivial⟩)) (wanted_none _ rfl _) ?_
       rintro _ σ124 ⟨_, ⟨a122, c123, rfl, rfl⟩, H, -, -⟩
       replace H : Hp S0 σ0 σ124 [Ch.own σ117.size σ117.size (Sl a122 r119 c123) r119, Ch.own n0 n0 (Sl a5 r2.1 c6) r2.1, Ch.ro 0 (Sl a101 o64.2 c102) o64.2, Ch.ro 0 (Sl a99 o64.1 c100) o64.1, Ch.ro n0 (Sl a101 o64.2 c102) o64.2, Ch.ro n0 (Sl a99 o64.1 c100) o64.1, Ch.own n0 n0 (Sl a7 r2.2.2.1 c8) r2.2.2.1] := H
       replace H := H.ownLow 0 n0 n0 rfl hle hle
       clear hle
       replace H : Hp S0 σ0 σ124 [Ch.own n0 n0 (Sl a122 r119 c123) r119, Ch.own n0 n0 (Sl a5 r2.1 c6) r2.1, Ch.ro 0 (Sl a101 o64.2 c102) o64.2, Ch.ro 0 (Sl a99 o64.1 c100) o64.1, Ch.ro n0 (Sl a101 o64.2 c102) o64.2, Ch.ro n0 (Sl a99 o64.1 c100) o64.1, Ch.own n0 n0 (Sl a7 r2.2.2.1 c8) r2.2.2.1] := H
       refine st (v := (Sl a122 r119 c123)) (rv_assign rfl) ?_
       refine w_end ?_
       refine q_then ?_
       refine c_seq ?_
       refine rg ?_
       refine st (v := (Sl a5 r2.1 c6)) (rv_move rfl) ?_
       refine st (v := (Sl a7 r2.2.2.1 c8)) (rv_move rfl) ?_
       refine st (v := (I r2.2.2.2)) (rv_move rfl) ?_
       obtain ⟨σ125, hw126, H, -⟩ := H.pub 1 rfl (Nat.le_refl _)
       rw [← hw126]; clear hw126
       obtain ⟨σ127, hw128, H, -⟩ := H.pub 6 rfl (Nat.le_refl _)
       rw [← hw128]; clear hw128
       replace H := H.roLow 1 0 rfl (Nat.zero_le _)
       replace H := H.roLow 1 0 rfl (Nat.zero_le _)
       obtain ⟨r129, hx130, h'⟩ := bind_some h
       clear h
       have h := h'; clear h'
       have hc131 := c_impl_WithinDist (alist_0 := a5) (clist_0 := c6) (aat_2 := a7) (cat_2 := c8) hx130
       refine st_call (cx_call hc131 (ent_f hc131.fn rfl) hn0 (show Hp S0 σ0 _ ([Ch.ro 0 (Sl a5 r2.1 c6) r2.1, Ch.ro 0 (Sl a7 r2.2.2.1 c8) r2.2.2.1] ++ [Ch.ro 0 (Sl a7 r2.2.2.1 c8) r2.2.2.1, Ch.ro 0 (Sl a5 r2.1 c6) r2.1, Ch.ro n0 (Sl a7 r2.2.2.1 c8) r2.2.2.1, Ch.ro n0 (Sl a5 r2.1 c6) r2.1, Ch.own n0 n0 (Sl a122 r119 c123) r119, Ch.ro 0 (Sl a101 o64.2 c102) o64.2, Ch.ro 0 (Sl a99 o64.1 c100) o64.1, Ch.ro n0 (Sl a101 o64.2 c102) o64.2, Ch.ro n0 (Sl a99 o64.1 c100) o64.1]) from (H.sel' [1, 0, 0, 1, 2, 3, 4, 5, 6, 7, 8] rfl rfl))) (wanted_none _ rfl _) ?_
       rintro _ σ134 ⟨_, ⟨a132, c133, rfl, rfl⟩, H, -⟩
       replace H : Hp S0 σ0 σ134 [Ch.own 0 n0 (Sl a132 r129 c133) r129, Ch.ro 0 (Sl a7 r2.2.2.1 c8) r2.2.2.1, Ch.ro 0 (Sl a5 r2.1 c6) r2.1, Ch.ro n0 (Sl a7 r2.2.2.1 c8) r2.2.2.1, Ch.ro n0 (Sl a5 r2.1 c6) r2.1, Ch.own n0 n0 (Sl a122 r119 c123) r119, Ch.ro 0 (Sl a101 o64.2 c102) o64.2, Ch.ro 0 (Sl a99 o64.1 c100) o64.1, Ch.ro n0 (Sl a101 o64.2 c102) o64.2, Ch.ro n0 (Sl a99 o64.1 c100) o64.1] := H
       replace H : Hp S0 σ0 σ134 [Ch.own 0 n0 (Sl a132 r129 c133) r129, Ch.own n0 n0 (Sl a122 r119 c123) r119] := H.sel' [0, 5] rfl rfl
       refine st (v := (Sl a132 r129 c133)) (rv_assign rfl) ?_
       refine w_end ?_
       refine q_then ?_
       refine c_seq ?_
       refine c_seq ?_
       refine rg ?_
       refine st (v := (I 0)) (rv_assign rfl) ?_
       refine w_end ?_
       refine q_then ?_
       obtain ⟨o135, hj, h'⟩ := bind_some h
       clear h
       refine c_cut (fun e a w => (∃ t, o135 = (.inl t) ∧ e = .normal ∧ ∃ (ρ : Nat → Value) (σ : St), a = fr 119 (updL ρ [(11, (Sl a122 r119 c123)), (12, (Sl a132 r129 c133))]) ∧ w = σ.w ∧ Hp S0 σ0 σ [Ch.own n0 n0 (Sl a122 r119 c123) r119, Ch.own 0 n0 (Sl a132 r129 c133) r129]) ∨ (∃ t, o135 = (.inr t) ∧ e = .ret ∧ ∃ (ρ : Nat → Value) (σ : St), a = fr 119 (updL ρ [(2, (B t))]) ∧ w = σ.w ∧ Hp S0 σ0 σ [])) ?_ ?_
       ·clear h'
        rename _ = some o135 => h
        refine c_blk ?_
        refine wp_loopM _ h (fun s136 a w => ∃ (ρ : Nat → Value) (σ : St), a = fr 119 (updL ρ [(11, (Sl a122 r119 c123)), (12, (Sl a132 r129 c133)), (13, (I s136))]) ∧ w = σ.w ∧ Hp S0 σ0 σ [Ch.own n0 n0 (Sl a122 r119 c123) r119, Ch.own 0 n0 (Sl a132 r129 c133) r129]) ⟨_, σ134, fr_join ⟨rfl, rfl, rfl, trivial⟩, rfl, H.sel' [1, 0] rfl rfl⟩ ?_
        clear h H
        rintro s136 a w o ⟨ρ, σ137, rfl, rfl, H⟩ h hres
        refine c_seq ?_
        refine c_seq ?_
        refine rg ?_
        refine st (v := (I s136)) (rv_move rfl) ?_
        refine st (v := (Sl a132 r129 c133)) (rv_move rfl) ?_
        refine st (v := (I (r129.length : Int))) (rv_len Try.underlying27 rfl) ?_
        refine st (v := (B (decide (s136 < (r129.length : Int))))) (rv_lss (a := s136) (b := (r129.length : Int)) rfl rfl) ?_
        refine w_end ?_
        refine q_then ?_
        refine cd_cond (decide (s136 < (r129.length : Int))) rfl (fun hb138 => ?_) (fun hb138 => ?_)
        ·replace h := bif_t hb138 h
         refine c_skip ?_
         refine q_then ?_
         refine c_seq ?_
         refine c_blk ?_
         refine c_seq ?_
         refine rg ?_
         refine st (v := (Sl a122 r119 c123)) (rv_move rfl) ?_
         refine st (v := (Sl a132 r129 c133)) (rv_move rfl) ?_
         refine st (v := (I s136)) (rv_move rfl) ?_
         obtain ⟨x139, hx140, h'⟩ := bind_some h
         clear h
         have h := h'; clear h'
         obtain ⟨b142, o143, hi141, -⟩ := (H.own 1 rfl).ix hx140
         refine st (v := (pt b142 o143)) (rv_ix Try.underlying27 ti33 rfl rfl hi141) ?_
         refine st (v := (pt b142 (o143 + 0))) (rv_fieldAddr (off := 0) (ft := 3) Try.underlying33 rfl ti3 rfl rfl) ?_
         have hc144 := ((H.own 1 rfl).at hx140 hi141).fst.int
         refine st (v := (I x139.1)) (rv_load1 Try.underlying3 rfl rfl hc144) ?_
         obtain ⟨r145, hx146, h'⟩ := bind_some h
         clear h
         have h := h'; clear h'
         have hc147 := c_laws_isIn (alist_0 := a122) (clist_0 := c123) hx146
         have hle := Nat.le_trans hn0 H.size
         refine st_call (cx_lend (Loan.lend Loan.nil) hc147 (ent_f hc147.fn rfl) (show Hp S0 σ0 _ ([Ch.own n0 n0 (Sl a122 r119 c123) r119] ++ ([] ++ [Ch.own 0 n0 (Sl a132 r129 c133) r129])) from (H.sel' [0, 1] rfl rfl)) (by rintro _ _ _ ⟨rfl, rfl⟩; exact trivial)) (wanted_none _ rfl _) ?_
         rintro _ σ148 ⟨_, ⟨rfl, rfl⟩, H, -, -⟩
         replace H : Hp S0 σ0 σ148 [Ch.own n0 n0 (Sl a122 r119 c123) r119, Ch.own 0 n0 (Sl a132 r129 c133) r129] := H
         clear hle
         replace H : Hp S0 σ0 σ148 [Ch.own n0 n0 (Sl a122 r119 c123) r119, Ch.own 0 n0 (Sl a132 r129 c133) r129] := H
         refine st (v := (B (!r145))) (rv_not rfl) ?_
         refine w_end ?_
         refine q_then ?_
         refine cd_cond (!r145) rfl (fun hb149 => ?_) (fun hb149 => ?_)
         ·replace h := bif_t hb149 h
          refine c_seq ?_
          refine rg ?_
          refine st (v := (B false)) (rv_assign rfl) ?_
          refine w_end ?_
          refine q_then ?_
          refine c_ret ?_
          refine q_blk_r ?_
          refine q_then_r ?_
          refine q_then_r ?_
          refine q_blk_r ?_
          obtain rfl := Option.some.inj h
          obtain rfl := hres _ rfl
          exact .inr (⟨_, rfl, rfl, _, σ148, fr_join ⟨rfl, trivial⟩, rfl, H.sel' [] rfl rfl⟩)
         ·replace h := bif_f hb149 h
          refine c_skip ?_
          refine q_blk ?_
          refine q_then ?_
          refine rg ?_
          refine st (v := (I s136)) (rv_move rfl) ?_
          refine st (v := (I (w64 (s136 + 1)))) (rv_add (a := s136) (b := 1) rfl rfl) ?_
          refine st (v := (I (w64 (s136 + 1)))) (rv_assign rfl) ?_
          refine w_end ?_
          refine q_then ?_
          obtain rfl := Option.some.inj h
          exact ⟨_, rfl, _, σ148, fr_join ⟨rfl, rfl, rfl, trivial⟩, rfl, H.sel' [0, 1] rfl rfl⟩
        ·replace h := bif_f hb138 h
         refine c_exit ?_
         refine q_then_x ?_
         refine q_then_x ?_
         refine q_blk_hit ?_
         obtain rfl := Option.some.inj h
         obtain rfl := hres _ rfl
         exact .inl ⟨_, rfl, rfl, _, σ137, fr_join ⟨rfl, rfl, trivial⟩, rfl, H.sel' [0, 1] rfl rfl⟩
       ·clear hj
        have h := h'
        clear h' H
        rintro e a w (⟨t150, rfl, rfl, ρ, σ151, rfl, rfl, H⟩ | ⟨t152, rfl, rfl, ρ, σ153, rfl, rfl, H⟩)
        ·replace h := selim_l h
         refine q_then ?_
         refine c_seq ?_
         refine rg ?_
         refine st (v := (Sl a122 r119 c123)) (rv_move rfl) ?_
         refine st (v := (I (r119.length : Int))) (rv_len Try.underlying24 rfl) ?_
         refine st (v := (Sl a132 r129 c133)) (rv_move rfl) ?_
         refine st (v := (I (r129.length : Int))) (rv_len Try.underlying27 rfl) ?_
         refine st (v := (B ((r119.length : Int) == (r129.length : Int)))) (rv_eql (a := (r119.length : Int)) (b := (r129.length : Int)) rfl rfl) ?_
         refine st (v := (B ((r119.length : Int) == (r129.length : Int)))) (rv_assign rfl) ?_
         refine w_end ?_
         refine q_then ?_
         refine c_ret ?_
         obtain rfl := Option.some.inj h
         exact fin_ret (v := (B ((r119.length : Int) == (r129.length : Int)))) (results_ok Try.results5 (res_tmp (v := (B ((r119.length : Int) == (r129.length : Int)))) rfl res_nil) rfl) ⟨rfl, rfl⟩ (H.sel' [] rfl rfl)
        ·replace h := selim_r h
         refine q_then_r ?_
         obtain rfl := Option.some.inj h
         exact fin_ret (v := (B t152)) (results_ok Try.results5 (res_tmp (v := (B t152)) rfl res_nil) rfl) ⟨rfl, rfl⟩ (H.sel' [] rfl rfl)

end Go.Vs
