/- The functions compute what their models say. -/
import Derived.Test.YtnkflplbeagljaaKMergeHitsOrderC3
set_option linter.unusedVariables false
set_option linter.unusedSimpArgs false
set_option maxRecDepth 20000
namespace Go.Vs
open Go Go.Proofs
attribute [local irreducible] Code.wp Code.wpIn wpList wpListIn wpQuiet Calls CallsIn

theorem c_laws_FnMergeHitsOrder {code_0 : List UInt8} {acode_0 : Option Addr} {ccode_0 : Nat} {r : Bool} (h : M.laws_FnMergeHitsOrder code_0 = some r) :
    Cal2 Try.prog 6 [(Sl acode_0 code_0 ccode_0)] [Ch.ro 0 (Sl acode_0 code_0 ccode_0) code_0] (fun n0 v L => v = (B r) ∧ L = []) := by
 refine cal2 (n := 70) Try.func6 rfl rfl rfl rfl ?_
 intro S0 σ0 n0 hn0 H
 unfold M.laws_FnMergeHitsOrder at h
 refine c_seq ?_
 refine rg ?_
 refine st (v := (B false)) (rv_assign rfl) ?_
 refine w_end ?_
 refine q_then ?_
 refine c_seq ?_
 refine c_seq ?_
 refine rg ?_
 refine st (v := (Sl acode_0 code_0 ccode_0)) (rv_move rfl) ?_
 refine st (v := (I (code_0.length : Int))) (rv_len Try.underlying22 rfl) ?_
 refine st (v := (B (decide (1048576 < (code_0.length : Int))))) (rv_gtr (a := (code_0.length : Int)) (b := 1048576) rfl rfl) ?_
 refine w_end ?_
 refine q_then ?_
 refine cd_cond (decide (1048576 < (code_0.length : Int))) rfl (fun hb1 => ?_) (fun hb1 => ?_)
 ·replace h := bif_t hb1 h
  refine c_seq ?_
  refine rg ?_
  refine st (v := (B true)) (rv_assign rfl) ?_
  refine w_end ?_
  refine q_then ?_
  refine c_ret ?_
  refine q_then_r ?_
  obtain rfl := Option.some.inj h
  exact fin_ret (v := (B true)) (results_ok Try.results6 (res_tmp (v := (B true)) rfl res_nil) rfl) ⟨rfl, rfl⟩ (H.sel' [] rfl rfl)
 ·replace h := bif_f hb1 h
  refine c_skip ?_
  refine q_then ?_
  refine c_seq ?_
  refine rg ?_
  refine st (v := (Sl acode_0 code_0 ccode_0)) (rv_move rfl) ?_
  obtain ⟨r2, hx3, h'⟩ := bind_some h
  clear h
  have h := h'; clear h'
  have hc4 := c_spec_DrawMergeHits (acode_0 := acode_0) (ccode_0 := ccode_0) hx3
  refine st_call (cx_call hc4 (ent_f hc4.fn rfl) hn0 (show Hp S0 σ0 _ ([Ch.ro 0 (Sl acode_0 code_0 ccode_0) code_0] ++ [Ch.ro 0 (Sl acode_0 code_0 ccode_0) code_0]) from (H.sel' [0, 0] rfl rfl))) wn ?_
  rintro _ σ9 ⟨_, ⟨a5, c6, a7, c8, rfl, rfl⟩, H, -⟩
  replace H : Hp S0 σ0 σ9 [Ch.own n0 n0 (Sl a5 r2.1 c6) r2.1, Ch.own n0 n0 (Sl a7 r2.2.1 c8) r2.2.1, Ch.ro 0 (Sl acode_0 code_0 ccode_0) code_0] := H
  refine st (v := (.tuple #[(Sl a5 r2.1 c6), (Sl a7 r2.2.1 c8), (I r2.2.2)])) (rv_move rfl) ?_
  refine st (v := (Sl a5 r2.1 c6)) (rv_extract rfl rfl) ?_
  refine st (v := (Sl a7 r2.2.1 c8)) (rv_extract rfl rfl) ?_
  refine st (v := (I r2.2.2)) (rv_extract rfl rfl) ?_
  refine st (v := (Sl a5 r2.1 c6)) (rv_assign rfl) ?_
  refine st (v := (Sl a7 r2.2.1 c8)) (rv_assign rfl) ?_
  refine st (v := (I r2.2.2)) (rv_assign rfl) ?_
  refine w_end ?_
  refine q_then ?_
  refine c_seq ?_
  refine rg ?_
  refine st (v := (Sl a5 r2.1 c6)) (rv_move rfl) ?_
  refine st (v := (Sl a7 r2.2.1 c8)) (rv_move rfl) ?_
  refine st (v := (I r2.2.2)) (rv_move rfl) ?_
  obtain ⟨r10, hx11, h'⟩ := bind_some h
  clear h
  have h := h'; clear h'
  have hc12 := c_impl_MergeHits (aa_0 := a5) (ca_0 := c6) (ab_1 := a7) (cb_1 := c8) hx11
  have hle := Nat.le_trans hn0 H.size
  refine st_call (cx_lend (Loan.lend (Loan.lend Loan.nil)) hc12 (ent_f hc12.fn rfl) (show Hp S0 σ0 _ ([Ch.own n0 n0 (Sl a5 r2.1 c6) r2.1, Ch.own n0 n0 (Sl a7 r2.2.1 c8) r2.2.1] ++ ([] ++ [Ch.ro 0 (Sl acode_0 code_0 ccode_0) code_0])) from (H.sel' [0, 1, 2] rfl rfl)) (by rintro _ _ _ ⟨_, _, rfl, rfl⟩; exact ⟨Ab.ownSc, trivial⟩)) wn ?_
  rintro _ σ15 ⟨_, ⟨a13, c14, rfl, rfl⟩, H, -, -⟩
  replace H : Hp S0 σ0 σ15 [Ch.own σ9.size σ9.size (Sl a13 r10 c14) r10, Ch.own n0 n0 (Sl a5 r2.1 c6) r2.1, Ch.own n0 n0 (Sl a7 r2.2.1 c8) r2.2.1, Ch.ro 0 (Sl acode_0 code_0 ccode_0) code_0] := H
  replace H := H.ownLow 0 n0 n0 rfl hle hle
  clear hle
  replace H : Hp S0 σ0 σ15 [Ch.own n0 n0 (Sl a13 r10 c14) r10, Ch.own n0 n0 (Sl a5 r2.1 c6) r2.1, Ch.own n0 n0 (Sl a7 r2.2.1 c8) r2.2.1, Ch.ro 0 (Sl acode_0 code_0 ccode_0) code_0] := H
  refine st (v := (Sl a13 r10 c14)) (rv_assign rfl) ?_
  refine w_end ?_
  refine q_then ?_
  refine c_seq ?_
  refine c_seq ?_
  obtain ⟨o16, hj, h'⟩ := bind_some h
  clear h
  refine c_cut (fun e a w => e = .normal ∧ ∃ (ρ : Nat → Value) (σ : St), a = fr 70 (updL ρ [(3, (Sl a5 r2.1 c6)), (4, (Sl a7 r2.2.1 c8)), (5, (I r2.2.2)), (6, (Sl a13 r10 c14)), (44, (B o16))]) ∧ w = σ.w ∧ Hp S0 σ0 σ [Ch.own n0 n0 (Sl a5 r2.1 c6) r2.1, Ch.own n0 n0 (Sl a7 r2.2.1 c8) r2.2.1, Ch.own n0 n0 (Sl a13 r10 c14) r10]) ?_ ?_
  ·clear h'
   rename _ = some o16 => h
   refine rg ?_
   refine st (v := (Sl a13 r10 c14)) (rv_move rfl) ?_
   refine st (v := (Sl a5 r2.1 c6)) (rv_move rfl) ?_
   refine st (v := (Sl a7 r2.2.1 c8)) (rv_move rfl) ?_
   refine st (v := (I r2.2.2)) (rv_move rfl) ?_
   obtain ⟨r17, hx18, h'⟩ := bind_some h
   clear h
   have h := h'; clear h'
   have hc19 := c_spec_MergeHits (aa_0 := a5) (ca_0 := c6) (ab_1 := a7) (cb_1 := c8) hx18
   have hle := Nat.le_trans hn0 H.size
   refine st_call (cx_lend (Loan.lend (Loan.lend Loan.nil)) hc19 (ent_f hc19.fn rfl) (show Hp S0 σ0 _ ([Ch.own n0 n0 (Sl a5 r2.1 c6) r2.1, Ch.own n0 n0 (Sl a7 r2.2.1 c8) r2.2.1] ++ ([] ++ [Ch.own n0 n0 (Sl a13 r10 c14) r10, Ch.ro 0 (Sl acode_0 code_0 ccode_0) code_0])) from (H.sel' [1, 2, 0, 3] rfl rfl)) (by rintro _ _ _ ⟨_, _, rfl, rfl⟩; exact ⟨Ab.ownSc, trivial⟩)) wn ?_
   rintro _ σ22 ⟨_, ⟨a20, c21, rfl, rfl⟩, H, -, -⟩
   replace H : Hp S0 σ0 σ22 [Ch.own σ15.size σ15.size (Sl a20 r17 c21) r17, Ch.own n0 n0 (Sl a5 r2.1 c6) r2.1, Ch.own n0 n0 (Sl a7 r2.2.1 c8) r2.2.1, Ch.own n0 n0 (Sl a13 r10 c14) r10, Ch.ro 0 (Sl acode_0 code_0 ccode_0) code_0] := H
   replace H := H.ownLow 0 n0 n0 rfl hle hle
   clear hle
   replace H : Hp S0 σ0 σ22 [Ch.own n0 n0 (Sl a20 r17 c21) r17, Ch.own n0 n0 (Sl a5 r2.1 c6) r2.1, Ch.own n0 n0 (Sl a7 r2.2.1 c8) r2.2.1, Ch.own n0 n0 (Sl a13 r10 c14) r10, Ch.ro 0 (Sl acode_0 code_0 ccode_0) code_0] := H
   obtain ⟨σ23, hw24, H, -⟩ := H.pub 0 rfl (Nat.le_refl _)
   rw [← hw24]; clear hw24
   replace H := H.roLow 0 0 rfl (Nat.zero_le _)
   obtain ⟨r25, hx26, h'⟩ := bind_some h
   clear h
   have h := h'; clear h'
   have hc27 := c_laws_equalHits (aa_0 := a13) (ca_0 := c14) (ab_1 := a20) (cb_1 := c21) hx26
   have hle := Nat.le_trans hn0 H.size
   refine st_call (cx_lend (Loan.lend (Loan.same Loan.nil)) hc27 (ent_f hc27.fn rfl) (show Hp S0 σ0 _ ([Ch.own n0 n0 (Sl a13 r10 c14) r10] ++ ([Ch.ro 0 (Sl a20 r17 c21) r17] ++ [Ch.ro 0 (Sl a20 r17 c21) r17, Ch.ro n0 (Sl a20 r17 c21) r17, Ch.own n0 n0 (Sl a5 r2.1 c6) r2.1, Ch.own n0 n0 (Sl a7 r2.2.1 c8) r2.2.1, Ch.ro 0 (Sl acode_0 code_0 ccode_0) code_0])) from (H.sel' [4, 0, 0, 1, 2, 3, 5] rfl rfl)) (by rintro _ _ _ ⟨rfl, rfl⟩; exact trivial)) wn ?_
   rintro _ σ28 ⟨_, ⟨rfl, rfl⟩, H, -, -⟩
   replace H : Hp S0 σ0 σ28 [Ch.own n0 n0 (Sl a13 r10 c14) r10, Ch.ro 0 (Sl a20 r17 c21) r17, Ch.ro n0 (Sl a20 r17 c21) r17, Ch.own n0 n0 (Sl a5 r2.1 c6) r2.1, Ch.own n0 n0 (Sl a7 r2.2.1 c8) r2.2.1, Ch.ro 0 (Sl acode_0 code_0 ccode_0) code_0] := H
   clear hle
   replace H : Hp S0 σ0 σ28 [Ch.own n0 n0 (Sl a13 r10 c14) r10, Ch.ro 0 (Sl a20 r17 c21) r17, Ch.ro n0 (Sl a20 r17 c21) r17, Ch.own n0 n0 (Sl a5 r2.1 c6) r2.1, Ch.own n0 n0 (Sl a7 r2.2.1 c8) r2.2.1, Ch.ro 0 (Sl acode_0 code_0 ccode_0) code_0] := H
   refine st (v := (B (!r25))) (rv_not rfl) ?_
   refine st (v := (B (!r25))) (rv_move rfl) ?_
   rcases Bool.eq_false_or_eq_true (!r25) with hb29 | hb29
   ·replace h := bif_t hb29 h
    refine st_skip (congrArg some hb29) ?_
    refine st_skip (congrArg some hb29) ?_
    refine st_skip (congrArg some hb29) ?_
    refine st (v := (B true)) (rv_pick_t (congrArg B hb29) rfl) ?_
    refine st (v := (B true)) (rv_move rfl) ?_
    refine st_skip rfl ?_
    refine st_skip rfl ?_
    refine st_skip rfl ?_
    refine st (v := (B true)) (rv_pick_t rfl rfl) ?_
    refine st (v := (B true)) (rv_move rfl) ?_
    refine st_skip rfl ?_
    refine st_skip rfl ?_
    refine st (v := (B true)) (rv_pick_t rfl rfl) ?_
    refine st (v := (B true)) (rv_move rfl) ?_
    refine st_skip rfl ?_
    refine st_skip rfl ?_
    refine st (v := (B true)) (rv_pick_t rfl rfl) ?_
    refine w_end ?_
    obtain rfl := Option.some.inj h
    exact ⟨rfl, _, σ28, fr_join ⟨rfl, rfl, rfl, rfl, rfl, trivial⟩, rfl, H.sel' [3, 4, 0] rfl rfl⟩
   ·replace h := bif_f hb29 h
    refine st_g (v := (Sl a5 r2.1 c6)) (congrArg some hb29) (rv_move rfl) ?_
    obtain ⟨r30, hx31, h'⟩ := bind_some h
    clear h
    have h := h'; clear h'
    have hc32 := c_impl_ValidHits (alist_0 := a5) (clist_0 := c6) hx31
    have hle := Nat.le_trans hn0 H.size
    refine st_call (cx_lend (Loan.lend Loan.nil) hc32 (ent_f hc32.fn rfl) (show Hp S0 σ0 _ ([Ch.own n0 n0 (Sl a5 r2.1 c6) r2.1] ++ ([] ++ [Ch.own n0 n0 (Sl a13 r10 c14) r10, Ch.ro 0 (Sl a20 r17 c21) r17, Ch.ro n0 (Sl a20 r17 c21) r17, Ch.own n0 n0 (Sl a7 r2.2.1 c8) r2.2.1, Ch.ro 0 (Sl acode_0 code_0 ccode_0) code_0])) from (H.sel' [3, 0, 1, 2, 4, 5] rfl rfl)) (by rintro _ _ _ ⟨rfl, rfl⟩; exact trivial)) (wanted_yes rfl (by exact (congrArg some hb29))) ?_
    rintro _ σ33 ⟨_, ⟨rfl, rfl⟩, H, -, -⟩
    replace H : Hp S0 σ0 σ33 [Ch.own n0 n0 (Sl a5 r2.1 c6) r2.1, Ch.own n0 n0 (Sl a13 r10 c14) r10, Ch.ro 0 (Sl a20 r17 c21) r17, Ch.ro n0 (Sl a20 r17 c21) r17, Ch.own n0 n0 (Sl a7 r2.2.1 c8) r2.2.1, Ch.ro 0 (Sl acode_0 code_0 ccode_0) code_0] := H
    clear hle
    replace H : Hp S0 σ0 σ33 [Ch.own n0 n0 (Sl a5 r2.1 c6) r2.1, Ch.own n0 n0 (Sl a13 r10 c14) r10, Ch.ro 0 (Sl a20 r17 c21) r17, Ch.ro n0 (Sl a20 r17 c21) r17, Ch.own n0 n0 (Sl a7 r2.2.1 c8) r2.2.1, Ch.ro 0 (Sl acode_0 code_0 ccode_0) code_0] := H
    refine st_g (v := (B (!r30))) (congrArg some hb29) (rv_not rfl) ?_
    refine st (v := (B (!r30))) (rv_pick_f (congrArg B hb29) rfl) ?_
    refine st (v := (B (!r30))) (rv_move rfl) ?_
    rcases Bool.eq_false_or_eq_true (!r30) with hb34 | hb34
    ·replace h := bif_t hb34 h
     refine st_skip (congrArg some hb34) ?_
     refine st_skip (congrArg some hb34) ?_
     refine st_skip (congrArg some hb34) ?_
     refine st (v := (B true)) (rv_pick_t (congrArg B hb34) rfl) ?_
     refine st (v := (B true)) (rv_move rfl) ?_
     refine st_skip rfl ?_
     refine st_skip rfl ?_
     refine st (v := (B true)) (rv_pick_t rfl rfl) ?_
     refine st (v := (B true)) (rv_move rfl) ?_
     refine st_skip rfl ?_
     refine st_skip rfl ?_
     refine st (v := (B true)) (rv_pick_t rfl rfl) ?_
     refine w_end ?_
     obtain rfl := Option.some.inj h
     exact ⟨rfl, _, σ33, fr_join ⟨rfl, rfl, rfl, rfl, rfl, trivial⟩, rfl, H.sel' [0, 4, 1] rfl rfl⟩
    ·replace h := bif_f hb34 h
     refine st_g (v := (Sl a7 r2.2.1 c8)) (congrArg some hb34) (rv_move rfl) ?_
     obtain ⟨r35, hx36, h'⟩ := bind_some h
     clear h
     have h := h'; clear h'
     have hc37 := c_impl_ValidHits (alist_0 := a7) (clist_0 := c8) hx36
     have hle := Nat.le_trans hn0 H.size
     refine st_call (cx_lend (Loan.lend Loan.nil) hc37 (ent_f hc37.fn rfl) (show Hp S0 σ0 _ ([Ch.own n0 n0 (Sl a7 r2.2.1 c8) r2.2.1] ++ ([] ++ [Ch.own n0 n0 (Sl a5 r2.1 c6) r2.1, Ch.own n0 n0 (Sl a13 r10 c14) r10, Ch.ro 0 (Sl a20 r17 c21) r17, Ch.ro n0 (Sl a20 r17 c21) r17, Ch.ro 0 (Sl acode_0 code_0 ccode_0) code_0])) from (H.sel' [4, 0, 1, 2, 3, 5] rfl rfl)) (by rintro _ _ _ ⟨rfl, rfl⟩; exact trivial)) (wanted_yes rfl (by exact (congrArg some hb34))) ?_
     rintro _ σ38 ⟨_, ⟨rfl, rfl⟩, H, -, -⟩
     replace H : Hp S0 σ0 σ38 [Ch.own n0 n0 (Sl a7 r2.2.1 c8) r2.2.1, Ch.own n0 n0 (Sl a5 r2.1 c6) r2.1, Ch.own n0 n0 (Sl a13 r10 c14) r10, Ch.ro 0 (Sl a20 r17 c21) r17, Ch.ro n0 (Sl a20 r17 c21) r17, Ch.ro 0 (Sl acode_0 code_0 ccode_0) code_0] := H
     clear hle
     replace H : Hp S0 σ0 σ38 [Ch.own n0 n0 (Sl a7 r2.2.1 c8) r2.2.1, Ch.own n0 n0 (Sl a5 r2.1 c6) r2.1, Ch.own n0 n0 (Sl a13 r10 c14) r10, Ch.ro 0 (Sl a20 r17 c21) r17, Ch.ro n0 (Sl a20 r17 c21) r17, Ch.ro 0 (Sl acode_0 code_0 ccode_0) code_0] := H
     refine st_g (v := (B (!r35))) (congrArg some hb34) (rv_not rfl) ?_
     refine st (v := (B (!r35))) (rv_pick_f (congrArg B hb34) rfl) ?_
     refine st (v := (B (!r35))) (rv_move rfl) ?_
     rcases Bool.eq_false_or_eq_true (!r35) with hb39 | hb39
     ·replace h := bif_t hb39 h
      refine st_skip (congrArg some hb39) ?_
      refine st_skip (congrArg some hb39) ?_
      refine st (v := (B true)) (rv_pick_t (congrArg B hb39) rfl) ?_
      refine st (v := (B true)) (rv_move rfl) ?_
      refine st_skip rfl ?_
      refine st_skip rfl ?_
      refine st (v := (B true)) (rv_pick_t rfl rfl) ?_
      refine w_end ?_
      obtain rfl := Option.some.inj h
      exact ⟨rfl, _, σ38, fr_join ⟨rfl, rfl, rfl, rfl, rfl, trivial⟩, rfl, H.sel' [1, 0, 2] rfl rfl⟩
     ·replace h := bif_f hb39 h
      refine st_g (v := (I r2.2.2)) (congrArg some hb39) (rv_move rfl) ?_
      refine st_g (v := (B (decide (r2.2.2 < 1)))) (congrArg some hb39) (rv_lss (a := r2.2.2) (b := 1) rfl rfl) ?_
      refine st (v := (B (decide (r2.2.2 < 1)))) (rv_pick_f (congrArg B hb39) rfl) ?_
      refine st (v := (B (decide (r2.2.2 < 1)))) (rv_move rfl) ?_
      rcases Bool.eq_false_or_eq_true (decide (r2.2.2 < 1)) with hb40 | hb40
      ·replace h := bif_t hb40 h
       refine st_skip (congrArg some hb40) ?_
       refine st_skip (congrArg some hb40) ?_
       refine st (v := (B true)) (rv_pick_t (congrArg B hb40) rfl) ?_
       refine w_end ?_
       obtain rfl := Option.some.inj h
       exact ⟨rfl, _, σ38, fr_join ⟨rfl, rfl, rfl, rfl, rfl, trivial⟩, rfl, H.sel' [1, 0, 2] rfl rfl⟩
      ·replace h := bif_f hb40 h
       refine st_g (v := (I r2.2.2)) (congrArg some hb40) (rv_move rfl) ?_
       refine st_g (v := (B (decide (16 < r2.2.2)))) (congrArg some hb40) (rv_gtr (a := r2.2.2) (b := 16) rfl rfl) ?_
       refine st (v := (B (decide (16 < r2.2.2)))) (rv_pick_f (congrArg B hb40) rfl) ?_
       refine w_end ?_
       obtain rfl := Option.some.inj h
       exact ⟨rfl, _, σ38, fr_join ⟨rfl, rfl, rfl, rfl, rfl, trivial⟩, rfl, H.sel' [1, 0, 2] rfl rfl⟩
  ·clear hj
   have h := h'
   clear h' H
   rintro e a w ⟨rfl, ρ, σ41, rfl, rfl, H⟩
   refine q_then ?_
   refine cd_cond o16 rfl (fun hb42 => ?_) (fun hb42 => ?_)
   ·replace h := bif_t hb42 h
    refine c_seq ?_
    refine rg ?_
    refine st (v := (Sl a13 r10 c14)) (rv_move rfl) ?_
    refine st (v := (Sl a5 r2.1 c6)) (rv_move rfl) ?_
    refine st (v := (Sl a7 r2.2.1 c8)) (rv_move rfl) ?_
    refine st (v := (I r2.2.2)) (rv_move rfl) ?_
    obtain ⟨σ43, hw44, H, -⟩ := H.pub 0 rfl (Nat.le_refl _)
    rw [← hw44]; clear hw44
    obtain ⟨σ45, hw46, H, -⟩ := H.pub 1 rfl (Nat.le_refl _)
    rw [← hw46]; clear hw46
    replace H := H.roLow 1 0 rfl (Nat.zero_le _)
    replace H := H.roLow 1 0 rfl (Nat.zero_le _)
    obtain ⟨r47, hx48, h'⟩ := bind_some h
    clear h
    have h := h'; clear h'
    have hc49 := c_spec_MergeHits (aa_0 := a5) (ca_0 := c6) (ab_1 := a7) (cb_1 := c8) hx48
    refine st_call (cx_call hc49 (ent_f hc49.fn rfl) hn0 (show Hp S0 σ0 _ ([Ch.ro 0 (Sl a5 r2.1 c6) r2.1, Ch.ro 0 (Sl a7 r2.2.1 c8) r2.2.1] ++ [Ch.ro 0 (Sl a7 r2.2.1 c8) r2.2.1, Ch.ro 0 (Sl a5 r2.1 c6) r2.1, Ch.ro n0 (Sl a7 r2.2.1 c8) r2.2.1, Ch.ro n0 (Sl a5 r2.1 c6) r2.1, Ch.own n0 n0 (Sl a13 r10 c14) r10]) from (H.sel' [1, 0, 0, 1, 2, 3, 4] rfl rfl))) wn ?_
    rintro _ σ52 ⟨_, ⟨a50, c51, rfl, rfl⟩, H, -⟩
    replace H : Hp S0 σ0 σ52 [Ch.own n0 n0 (Sl a50 r47 c51) r47, Ch.ro 0 (Sl a7 r2.2.1 c8) r2.2.1, Ch.ro 0 (Sl a5 r2.1 c6) r2.1, Ch.ro n0 (Sl a7 r2.2.1 c8) r2.2.1, Ch.ro n0 (Sl a5 r2.1 c6) r2.1, Ch.own n0 n0 (Sl a13 r10 c14) r10] := H
    obtain ⟨σ53, hw54, H, -⟩ := H.pub 5 rfl (Nat.le_refl _)
    rw [← hw54]; clear hw54
    obtain ⟨σ55, hw56, H, -⟩ := H.pub 1 rfl (Nat.le_refl _)
    rw [← hw56]; clear hw56
    replace H := H.roLow 1 0 rfl (Nat.zero_le _)
    replace H := H.roLow 1 0 rfl (Nat.zero_le _)
    obtain ⟨r57, hx58, h'⟩ := bind_some h
    clear h
    have h := h'; clear h'
    have hc59 := c_laws_equalHits (aa_0 := a13) (ca_0 := c14) (ab_1 := a50) (cb_1 := c51) hx58
    refine st_call (cx_call hc59 (ent_f hc59.fn rfl) hn0 (show Hp S0 σ0 _ ([Ch.ro 0 (Sl a13 r10 c14) r10, Ch.ro 0 (Sl a50 r47 c51) r47] ++ [Ch.ro 0 (Sl a50 r47 c51) r47, Ch.ro 0 (Sl a13 r10 c14) r10, Ch.ro n0 (Sl a50 r47 c51) r47, Ch.ro n0 (Sl a13 r10 c14) r10, Ch.ro 0 (Sl a7 r2.2.1 c8) r2.2.1, Ch.ro 0 (Sl a5 r2.1 c6) r2.1, Ch.ro n0 (Sl a7 r2.2.1 c8) r2.2.1, Ch.ro n0 (Sl a5 r2.1 c6) r2.1]) from (H.sel' [1, 0, 0, 1, 2, 3, 4, 5, 6, 7] rfl rfl))) wn ?_
    rintro _ σ60 ⟨_, ⟨rfl, rfl⟩, H, -⟩
    replace H : Hp S0 σ0 σ60 [Ch.ro 0 (Sl a50 r47 c51) r47, Ch.ro 0 (Sl a13 r10 c14) r10, Ch.ro n0 (Sl a50 r47 c51) r47, Ch.ro n0 (Sl a13 r10 c14) r10, Ch.ro 0 (Sl a7 r2.2.1 c8) r2.2.1, Ch.ro 0 (Sl a5 r2.1 c6) r2.1, Ch.ro n0 (Sl a7 r2.2.1 c8) r2.2.1, Ch.ro n0 (Sl a5 r2.1 c6) r2.1] := H
    replace H : Hp S0 σ0 σ60 [] := H.sel' [] rfl rfl
    refine st (v := (B r57)) (rv_assign rfl) ?_
    refine w_end ?_
    refine q_then ?_
    refine c_ret ?_
    refine q_then_r ?_
    obtain rfl := Option.some.inj h
    exact fin_ret (v := (B r57)) (results_ok Try.results6 (res_tmp (v := (B r57)) rfl res_nil) rfl) ⟨rfl, rfl⟩ (H.sel' [] rfl rfl)
   ·replace h := bif_f hb42 h
    refine c_skip ?_
    refine q_then ?_
    refine c_seq ?_
    obtain ⟨σ61, hw62, H, -⟩ := H.pub 1 rfl (Nat.le_refl _)
    rw [← hw62]; clear hw62
    obtain ⟨σ63, hw64, H, -⟩ := H.pub 1 rfl (Nat.le_refl _)
    rw [← hw64]; clear hw64
    obtain ⟨σ65, hw66, H, -⟩ := H.pub 2 rfl (Nat.le_refl _)
    rw [← hw66]; clear hw66
    replace H := H.roLow 2 0 rfl (Nat.zero_le _)
    replace H := H.roLow 2 0 rfl (Nat.zero_le _)
    obtain ⟨r67, hx68, h'⟩ := bind_some h
    clear h
    have h := h'; clear h'
    have hc69 := c_impl_MergeHits (aa_0 := a7) (ca_0 := c8) (ab_1 := a5) (cb_1 := c6) hx68
    replace H := H.roLow 2 0 rfl (Nat.zero_le _)
    obtain ⟨r72, hx73, h'⟩ := bind_some h
    clear h
    have h := h'; clear h'
    have hc74 := fun (a70 : Option Addr) (c71 : Nat) => c_laws_equalHits (aa_0 := a70) (ca_0 := c71) (ab_1 := a13) (cb_1 := c14) hx73
    rcases Bool.eq_false_or_eq_true r72 with hb75 | hb75
    ·replace h := bif_t hb75 h
     replace H := H.roLow 4 0 rfl (Nat.zero_le _)
     replace H := H.roLow 5 0 rfl (Nat.zero_le _)
     obtain ⟨r76, hx77, h'⟩ := bind_some h
     clear h
     have h := h'; clear h'
     have hc78 := c_impl_MergeHits (aa_0 := a5) (ca_0 := c6) (ab_1 := a5) (cb_1 := c6) hx77
     obtain ⟨xs81, hx82, h'⟩ := bind_some h
     clear h
     have h := h'; clear h'
     obtain ⟨a83, c84, hs85, hR86⟩ := (H.ro 6 rfl).slice hx82
     replace H := H.add (d := Ch.ro n0 (Sl a83 xs81 c84) xs81) hR86 (fun _ h => h)
     clear hR86
     have Hs := H
     refine rg2 (σ := σ65) (Nm := (Option Addr) × (Nat) × (Option Addr) × (Nat)) 17 [3, 5, 10] [[false, false, false], [true, false, false], [true, true, false], [true, true, true]] [[(0, 0)], [(0, 0)], [(0, 0)], [(0, 1)], [(0, 0), (1, 1)], [(1, 2)], [(2, 2)], [(2, 2)], [(2, 2)], [(2, 2)], [(2, 3)], [(2, 2), (3, 3)], [(2, 2), (3, 3)], [(2, 2), (3, 3)], [(2, 2), (3, 3)], [(2, 2), (3, 3)], [(2, 2), (3, 3)]] 3 [fun ((a70, c71, a79, c80) : (Option Addr) × (Nat) × (Option Addr) × (Nat)) => fun σm => Hp S0 σ0 σm [Ch.ro n0 (Sl a83 xs81 c84) xs81, Ch.ro 0 (Sl a5 r2.1 c6) r2.1, Ch.ro 0 (Sl a5 r2.1 c6) r2.1, Ch.ro 0 (Sl a13 r10 c14) r10, Ch.ro 0 (Sl a5 r2.1 c6) r2.1, Ch.ro 0 (Sl a7 r2.2.1 c8) r2.2.1, Ch.ro n0 (Sl a13 r10 c14) r10, Ch.ro n0 (Sl a5 r2.1 c6) r2.1, Ch.ro n0 (Sl a7 r2.2.1 c8) r2.2.1] ∧ Md (cov []) σ65 σm, fun ((a70, c71, a79, c80) : (Option Addr) × (Nat) × (Option Addr) × (Nat)) => fun σm => Hp S0 σ0 σm [Ch.ro 0 (Sl a70 r67 c71) r67, Ch.ro n0 (Sl a83 xs81 c84) xs81, Ch.ro 0 (Sl a5 r2.1 c6) r2.1, Ch.ro 0 (Sl a5 r2.1 c6) r2.1, Ch.ro 0 (Sl a13 r10 c14) r10, Ch.ro 0 (Sl a5 r2.1 c6) r2.1, Ch.ro 0 (Sl a7 r2.2.1 c8) r2.2.1, Ch.ro n0 (Sl a13 r10 c14) r10, Ch.ro n0 (Sl a5 r2.1 c6) r2.1, Ch.ro n0 (Sl a7 r2.2.1 c8) r2.2.1] ∧ Md (fun i => (cov []) i ∨ (fun i => (cov [Ch.ro 0 (Sl a7 r2.2.1 c8) r2.2.1, Ch.ro 0 (Sl a5 r2.1 c6) r2.1]) i ∨ (fun b => blk (Sl a70 r67 c71) = some b) i) i) σ65 σm, fun ((a70, c71, a79, c80) : (Option Addr) × (Nat) × (Option Addr) × (Nat)) => fun σm => Hp S0 σ0 σm [Ch.ro 0 (Sl a70 r67 c71) r67, Ch.ro n0 (Sl a83 xs81 c84) xs81, Ch.ro 0 (Sl a5 r2.1 c6) r2.1, Ch.ro 0 (Sl a5 r2.1 c6) r2.1, Ch.ro 0 (Sl a13 r10 c14) r10, Ch.ro 0 (Sl a5 r2.1 c6) r2.1, Ch.ro 0 (Sl a7 r2.2.1 c8) r2.2.1, Ch.ro n0 (Sl a13 r10 c14) r10, Ch.ro n0 (Sl a5 r2.1 c6) r2.1, Ch.ro n0 (Sl a7 r2.2.1 c8) r2.2.1] ∧ Md (fun i => (cov []) i ∨ (fun i => (cov [Ch.ro 0 (Sl a7 r2.2.1 c8) r2.2.1, Ch.ro 0 (Sl a5 r2.1 c6) r2.1]) i ∨ (fun b => blk (Sl a70 r67 c71) = some b) i) i) σ65 σm, fun ((a70, c71, a79, c80) : (Option Addr) × (Nat) × (Option Addr) × (Nat)) => fun σm => Hp S0 σ0 σm [Ch.own n0 n0 (Sl a79 r76 c80) r76, Ch.ro 0 (Sl a70 r67 c71) r67, Ch.ro n0 (Sl a83 xs81 c84) xs81, Ch.ro 0 (Sl a5 r2.1 c6) r2.1, Ch.ro 0 (Sl a5 r2.1 c6) r2.1, Ch.ro 0 (Sl a13 r10 c14) r10, Ch.ro 0 (Sl a5 r2.1 c6) r2.1, Ch.ro 0 (Sl a7 r2.2.1 c8) r2.2.1, Ch.ro n0 (Sl a13 r10 c14) r10, Ch.ro n0 (Sl a5 r2.1 c6) r2.1, Ch.ro n0 (Sl a7 r2.2.1 c8) r2.2.1] ∧ Md (fun i => (cov []) i ∨ (fun i => (cov [Ch.ro 0 (Sl a7 r2.2.1 c8) r2.2.1, Ch.ro 0 (Sl a5 r2.1 c6) r2.1]) i ∨ (fun b => blk (Sl a70 r67 c71) = some b) i) i) σ65 σm] [fun ((a70, c71, a79, c80) : (Option Addr) × (Nat) × (Option Addr) × (Nat)) => (Sl a7 r2.2.1 c8), fun ((a70, c71, a79, c80) : (Option Addr) × (Nat) × (Option Addr) × (Nat)) => (Sl a5 r2.1 c6), fun ((a70, c71, a79, c80) : (Option Addr) × (Nat) × (Option Addr) × (Nat)) => (I r2.2.2), fun ((a70, c71, a79, c80) : (Option Addr) × (Nat) × (Option Addr) × (Nat)) => (Sl a70 r67 c71), fun ((a70, c71, a79, c80) : (Option Addr) × (Nat) × (Option Addr) × (Nat)) => (Sl a13 r10 c14), fun ((a70, c71, a79, c80) : (Option Addr) × (Nat) × (Option Addr) × (Nat)) => (B r72), fun ((a70, c71, a79, c80) : (Option Addr) × (Nat) × (Option Addr) × (Nat)) => (B r72), fun ((a70, c71, a79, c80) : (Option Addr) × (Nat) × (Option Addr) × (Nat)) => (Sl a5 r2.1 c6), fun ((a70, c71, a79, c80) : (Option Addr) × (Nat) × (Option Addr) × (Nat)) => (Sl a5 r2.1 c6), fun ((a70, c71, a79, c80) : (Option Addr) × (Nat) × (Option Addr) × (Nat)) => (I r2.2.2), fun ((a70, c71, a79, c80) : (Option Addr) × (Nat) × (Option Addr) × (Nat)) => (Sl a79 r76 c80), fun ((a70, c71, a79, c80) : (Option Addr) × (Nat) × (Option Addr) × (Nat)) => (Sl a5 r2.1 c6), fun ((a70, c71, a79, c80) : (Option Addr) × (Nat) × (Option Addr) × (Nat)) => (I r2.2.2), fun ((a70, c71, a79, c80) : (Option Addr) × (Nat) × (Option Addr) × (Nat)) => (Sl a5 r2.1 c6), fun ((a70, c71, a79, c80) : (Option Addr) × (Nat) × (Option Addr) × (Nat)) => (I (r2.1.length : Int)), fun ((a70, c71, a79, c80) : (Option Addr) × (Nat) × (Option Addr) × (Nat)) => (I (min r2.2.2 (r2.1.length : Int))), fun ((a70, c71, a79, c80) : (Option Addr) × (Nat) × (Option Addr) × (Nat)) => (Sl a83 xs81 c84)] (none, 0, none, 0) (by kernel_rfl) (by kernel_rfl) ?_ ?_ ?_
     ·intro σm m0
      exact ⟨H.grow (m0.mono fun _ h => h.elim), m0⟩
     ·refine ac rfl (by
        intro k; rintro ⟨a70, c71, a79, c80⟩ ρ σm hJ hoff hdep
        have e4 := look_off (N := 70) (hoff 4 rfl) rfl
        exact dp_v (v := (Sl a7 r2.2.1 c8)) wn (rv_move e4) rfl hJ) ?_
      refine ac rfl (by
        intro k; rintro ⟨a70, c71, a79, c80⟩ ρ σm hJ hoff hdep
        have e3 := look_off (N := 70) (hoff 3 rfl) rfl
        exact dp_v (v := (Sl a5 r2.1 c6)) wn (rv_move e3) rfl hJ) ?_
      refine ac rfl (by
        intro k; rintro ⟨a70, c71, a79, c80⟩ ρ σm hJ hoff hdep
        have e5 := look_off (N := 70) (hoff 5 rfl) rfl
        exact dp_v (v := (I r2.2.2)) wn (rv_move e5) rfl hJ) ?_
      refine all_cons (by
        refine ⟨?_, ?_⟩
        ·rintro ⟨a70, c71, a79, c80⟩ ρ σm hJ hoff hdep
         have e51 : look 70 ρ 51 = (Sl a7 r2.2.1 c8) := hdep 0 rfl rfl 51 rfl
         have e52 : look 70 ρ 52 = (Sl a5 r2.1 c6) := hdep 1 rfl rfl 52 rfl
         have e53 : look 70 ρ 53 = (I r2.2.2) := hdep 2 rfl rfl 53 rfl
         obtain ⟨H, m⟩ := id hJ
         refine dp_cx wn (cx_call hc69 (ent_f hc69.fn (by show [look 70 ρ 51, look 70 ρ 52, look 70 ρ 53] = _; rw [e51, e52, e53])) hn0 (show Hp S0 σ0 _ ([Ch.ro 0 (Sl a7 r2.2.1 c8) r2.2.1, Ch.ro 0 (Sl a5 r2.1 c6) r2.1] ++ [Ch.ro n0 (Sl a83 xs81 c84) xs81, Ch.ro 0 (Sl a5 r2.1 c6) r2.1, Ch.ro 0 (Sl a5 r2.1 c6) r2.1, Ch.ro 0 (Sl a13 r10 c14) r10, Ch.ro 0 (Sl a5 r2.1 c6) r2.1, Ch.ro 0 (Sl a7 r2.2.1 c8) r2.2.1, Ch.ro n0 (Sl a13 r10 c14) r10, Ch.ro n0 (Sl a5 r2.1 c6) r2.1, Ch.ro n0 (Sl a7 r2.2.1 c8) r2.2.1]) from (H.sel' [5, 4, 0, 1, 2, 3, 4, 5, 6, 7, 8] rfl rfl))) ?_
         rintro _ σq ⟨_, ⟨a70x, c71x, rfl, rfl⟩, H2, m2⟩
         obtain ⟨σr0, hwr0, H2, mr0⟩ := H2.pubSc 0 rfl
         exact ⟨_, (a70x, c71x, a79, c80), hwr0, rfl, ⟨H2.sel' [0, 1, 2, 3, 4, 5, 6, 7, 8, 9] rfl rfl, m.comp (m2.comp mr0)⟩, stab [0, 1, 2, 4] (by kernel_rfl) ⟨rfl, rfl, rfl, rfl, trivial⟩⟩
        trivial) ?_
      refine ac rfl (by
        intro k; rintro ⟨a70, c71, a79, c80⟩ ρ σm hJ hoff hdep
        have e6 := look_off (N := 70) (hoff 6 rfl) rfl
        exact dp_v (v := (Sl a13 r10 c14)) wn (rv_move e6) rfl hJ) ?_
      refine all_cons (by
        refine ⟨?_, ?_⟩
        ·rintro ⟨a70, c71, a79, c80⟩ ρ σm hJ hoff hdep
         have e54 : look 70 ρ 54 = (Sl a70 r67 c71) := hdep 3 rfl rfl 54 rfl
         have e55 : look 70 ρ 55 = (Sl a13 r10 c14) := hdep 4 rfl rfl 55 rfl
         obtain ⟨H, m⟩ := id hJ
         refine dp_cx wn (cx_call (hc74 a70 c71) (ent_f (hc74 a70 c71).fn (by show [look 70 ρ 54, look 70 ρ 55] = _; rw [e54, e55])) hn0 (show Hp S0 σ0 _ ([Ch.ro 0 (Sl a70 r67 c71) r67, Ch.ro 0 (Sl a13 r10 c14) r10] ++ [Ch.ro 0 (Sl a70 r67 c71) r67, Ch.ro n0 (Sl a83 xs81 c84) xs81, Ch.ro 0 (Sl a5 r2.1 c6) r2.1, Ch.ro 0 (Sl a5 r2.1 c6) r2.1, Ch.ro 0 (Sl a13 r10 c14) r10, Ch.ro 0 (Sl a5 r2.1 c6) r2.1, Ch.ro 0 (Sl a7 r2.2.1 c8) r2.2.1, Ch.ro n0 (Sl a13 r10 c14) r10, Ch.ro n0 (Sl a5 r2.1 c6) r2.1, Ch.ro n0 (Sl a7 r2.2.1 c8) r2.2.1]) from (H.sel' [0, 4, 0, 1, 2, 3, 4, 5, 6, 7, 8, 9] rfl rfl))) ?_
         rintro _ σq ⟨_, ⟨rfl, rfl⟩, H2, m2⟩
         exact ⟨_, (a70, c71, a79, c80), rfl, rfl, ⟨H2.sel' [0, 1, 2, 3, 4, 5, 6, 7, 8, 9] rfl rfl, m.comp0 (m2.mono (fun i h => by simp [cov, Ch.ro] at h))⟩, stab [0, 1, 2, 3, 4] (by kernel_rfl) ⟨rfl, rfl, rfl, rfl, rfl, trivial⟩⟩
        trivial) ?_
      refine ac rfl (by
        intro k; rintro ⟨a70, c71, a79, c80⟩ ρ σm hJ hoff hdep
        have e56 := hdep 5 rfl rfl 56 rfl
        exact dp_v (v := (B r72)) wn (rv_move e56) rfl hJ) ?_
      refine ac rfl (by
        intro k; rintro ⟨a70, c71, a79, c80⟩ ρ σm hJ hoff hdep
        have e3 := look_off (N := 70) (hoff 3 rfl) rfl
        have e57 := hdep 6 rfl rfl 57 rfl
        exact dp_v (v := (Sl a5 r2.1 c6)) (wanted_yes rfl (yv_of rfl (e57.trans (congrArg B hb75)))) (rv_move e3) rfl hJ) ?_
      refine ac rfl (by
        intro k; rintro ⟨a70, c71, a79, c80⟩ ρ σm hJ hoff hdep
        have e3 := look_off (N := 70) (hoff 3 rfl) rfl
        have e57 := hdep 6 rfl rfl 57 rfl
        exact dp_v (v := (Sl a5 r2.1 c6)) (wanted_yes rfl (yv_of rfl (e57.trans (congrArg B hb75)))) (rv_move e3) rfl hJ) ?_
      refine ac rfl (by
        intro k; rintro ⟨a70, c71, a79, c80⟩ ρ σm hJ hoff hdep
        have e5 := look_off (N := 70) (hoff 5 rfl) rfl
        have e57 := hdep 6 rfl rfl 57 rfl
        exact dp_v (v := (I r2.2.2)) (wanted_yes rfl (yv_of rfl (e57.trans (congrArg B hb75)))) (rv_move e5) rfl hJ) ?_
      refine all_cons (by
        refine ⟨?_, ?_⟩
        ·rintro ⟨a70, c71, a79, c80⟩ ρ σm hJ hoff hdep
         have e58 : look 70 ρ 58 = (Sl a5 r2.1 c6) := hdep 7 rfl rfl 58 rfl
         have e59 : look 70 ρ 59 = (Sl a5 r2.1 c6) := hdep 8 rfl rfl 59 rfl
         have e60 : look 70 ρ 60 = (I r2.2.2) := hdep 9 rfl rfl 60 rfl
         have e57 := hdep 6 rfl rfl 57 rfl
         obtain ⟨H, m⟩ := id hJ
         refine dp_cx (wanted_yes rfl (yv_of rfl (e57.trans (congrArg B hb75)))) (cx_call hc78 (ent_f hc78.fn (by show [look 70 ρ 58, look 70 ρ 59, look 70 ρ 60] = _; rw [e58, e59, e60])) hn0 (show Hp S0 σ0 _ ([Ch.ro 0 (Sl a5 r2.1 c6) r2.1, Ch.ro 0 (Sl a5 r2.1 c6) r2.1] ++ [Ch.ro 0 (Sl a70 r67 c71) r67, Ch.ro n0 (Sl a83 xs81 c84) xs81, Ch.ro 0 (Sl a5 r2.1 c6) r2.1, Ch.ro 0 (Sl a5 r2.1 c6) r2.1, Ch.ro 0 (Sl a13 r10 c14) r10, Ch.ro 0 (Sl a5 r2.1 c6) r2.1, Ch.ro 0 (Sl a7 r2.2.1 c8) r2.2.1, Ch.ro n0 (Sl a13 r10 c14) r10, Ch.ro n0 (Sl a5 r2.1 c6) r2.1, Ch.ro n0 (Sl a7 r2.2.1 c8) r2.2.1]) from (H.sel' [2, 2, 0, 1, 2, 3, 4, 5, 6, 7, 8, 9] rfl rfl))) ?_
         rintro _ σq ⟨_, ⟨a79x, c80x, rfl, rfl⟩, H2, m2⟩
         exact ⟨_, (a70, c71, a79x, c80x), rfl, rfl, ⟨H2.sel' [0, 1, 2, 3, 4, 5, 6, 7, 8, 9, 10] rfl rfl, m.comp0 (m2.mono (fun i h => by simp [cov, Ch.ro] at h))⟩, stab [0, 1, 2, 3, 4, 5, 6, 7, 8, 9, 11, 12, 13, 14, 15, 16] (by kernel_rfl) ⟨rfl, rfl, rfl, rfl, rfl, rfl, rfl, rfl, rfl, rfl, rfl, rfl, rfl, rfl, rfl, rfl, trivial⟩⟩
        trivial) ?_
      refine ac rfl (by
        intro k; rintro ⟨a70, c71, a79, c80⟩ ρ σm hJ hoff hdep
        have e3 := look_off (N := 70) (hoff 3 rfl) rfl
        have e57 := hdep 6 rfl rfl 57 rfl
        exact dp_v (v := (Sl a5 r2.1 c6)) (wanted_yes rfl (yv_of rfl (e57.trans (congrArg B hb75)))) (rv_move e3) rfl hJ) ?_
      refine ac rfl (by
        intro k; rintro ⟨a70, c71, a79, c80⟩ ρ σm hJ hoff hdep
        have e5 := look_off (N := 70) (hoff 5 rfl) rfl
        have e57 := hdep 6 rfl rfl 57 rfl
        exact dp_v (v := (I r2.2.2)) (wanted_yes rfl (yv_of rfl (e57.trans (congrArg B hb75)))) (rv_move e5) rfl hJ) ?_
      refine ac rfl (by
        intro k; rintro ⟨a70, c71, a79, c80⟩ ρ σm hJ hoff hdep
        have e3 := look_off (N := 70) (hoff 3 rfl) rfl
        have e57 := hdep 6 rfl rfl 57 rfl
        exact dp_v (v := (Sl a5 r2.1 c6)) (wanted_yes rfl (yv_of rfl (e57.trans (congrArg B hb75)))) (rv_move e3) rfl hJ) ?_
      refine ac rfl (by
        intro k; rintro ⟨a70, c71, a79, c80⟩ ρ σm hJ hoff hdep
        have e64 := hdep 13 rfl rfl 64 rfl
        have e57 := hdep 6 rfl rfl 57 rfl
        exact dp_v (v := (I (r2.1.length : Int))) (wanted_yes rfl (yv_of rfl (e57.trans (congrArg B hb75)))) (rv_len Try.underlying27 e64) rfl hJ) ?_
      refine ac rfl (by
        intro k; rintro ⟨a70, c71, a79, c80⟩ ρ σm hJ hoff hdep
        have e63 := hdep 12 rfl rfl 63 rfl
        have e65 := hdep 14 rfl rfl 65 rfl
        have e57 := hdep 6 rfl rfl 57 rfl
        exact dp_v (v := (I (min r2.2.2 (r2.1.length : Int)))) (wanted_yes rfl (yv_of rfl (e57.trans (congrArg B hb75)))) (rv_min e63 e65) rfl hJ) ?_
      refine ac rfl (by
        intro k; rintro ⟨a70, c71, a79, c80⟩ ρ σm hJ hoff hdep
        have e62 := hdep 11 rfl rfl 62 rfl
        have e66 := hdep 15 rfl rfl 66 rfl
        have e57 := hdep 6 rfl rfl 57 rfl
        exact dp_v (v := (Sl a83 xs81 c84)) (wanted_yes rfl (yv_of rfl (e57.trans (congrArg B hb75)))) (rv_slice_h Try.underlying27 ti31 hs85 e62 e66) rfl hJ) ?_
      exact all_nil
     ·rintro ⟨a70, c71, a79, c80⟩ ρ σ87 hJ hoff hrel
      have e57 := hrel 6 rfl 57 rfl
      have e61 := hrel 10 rfl 61 rfl
      have e67 := hrel 16 rfl 67 rfl
      obtain ⟨H, -⟩ := (show Hp S0 σ0 σ87 [Ch.own n0 n0 (Sl a79 r76 c80) r76, Ch.ro 0 (Sl a70 r67 c71) r67, Ch.ro n0 (Sl a83 xs81 c84) xs81, Ch.ro 0 (Sl a5 r2.1 c6) r2.1, Ch.ro 0 (Sl a5 r2.1 c6) r2.1, Ch.ro 0 (Sl a13 r10 c14) r10, Ch.ro 0 (Sl a5 r2.1 c6) r2.1, Ch.ro 0 (Sl a7 r2.2.1 c8) r2.2.1, Ch.ro n0 (Sl a13 r10 c14) r10, Ch.ro n0 (Sl a5 r2.1 c6) r2.1, Ch.ro n0 (Sl a7 r2.2.1 c8) r2.2.1] ∧ Md (fun i => (cov []) i ∨ (fun i => (cov [Ch.ro 0 (Sl a7 r2.2.1 c8) r2.2.1, Ch.ro 0 (Sl a5 r2.1 c6) r2.1]) i ∨ (fun b => blk (Sl a70 r67 c71) = some b) i) i) σ65 σ87 from hJ)
      clear hJ Hs
      rw [fr_lookL (L := [(57, (B r72)), (61, (Sl a79 r76 c80)), (67, (Sl a83 xs81 c84))]) ⟨e57, e61, e67, trivial⟩]
      clear hoff hrel e57 e61 e67
      obtain ⟨σ88, hw89, H, -⟩ := H.pub 0 rfl (Nat.le_refl _)
      rw [← hw89]; clear hw89
      replace H := H.roLow 0 0 rfl (Nat.zero_le _)
      replace H := H.roLow 3 0 rfl (Nat.zero_le _)
      obtain ⟨r90, hx91, h'⟩ := bind_some h
      clear h
      have h := h'; clear h'
      have hc92 := c_laws_equalHits (aa_0 := a79) (ca_0 := c80) (ab_1 := a83) (cb_1 := c84) hx91
      refine st_call (cx_call hc92 (ent_f hc92.fn rfl) hn0 (show Hp S0 σ0 _ ([Ch.ro 0 (Sl a79 r76 c80) r76, Ch.ro 0 (Sl a83 xs81 c84) xs81] ++ [Ch.ro 0 (Sl a83 xs81 c84) xs81, Ch.ro 0 (Sl a79 r76 c80) r76, Ch.ro n0 (Sl a79 r76 c80) r76, Ch.ro 0 (Sl a70 r67 c71) r67, Ch.ro n0 (Sl a83 xs81 c84) xs81, Ch.ro 0 (Sl a5 r2.1 c6) r2.1, Ch.ro 0 (Sl a5 r2.1 c6) r2.1, Ch.ro 0 (Sl a13 r10 c14) r10, Ch.ro 0 (Sl a5 r2.1 c6) r2.1, Ch.ro 0 (Sl a7 r2.2.1 c8) r2.2.1, Ch.ro n0 (Sl a13 r10 c14) r10, Ch.ro n0 (Sl a5 r2.1 c6) r2.1, Ch.ro n0 (Sl a7 r2.2.1 c8) r2.2.1]) from (H.sel' [1, 0, 0, 1, 2, 3, 4, 5, 6, 7, 8, 9, 10, 11, 12] rfl rfl))) (wanted_yes rfl (by exact (congrArg some hb75))) ?_
      rintro _ σ93 ⟨_, ⟨rfl, rfl⟩, H, -⟩
      replace H : Hp S0 σ0 σ93 [Ch.ro 0 (Sl a83 xs81 c84) xs81, Ch.ro 0 (Sl a79 r76 c80) r76, Ch.ro n0 (Sl a79 r76 c80) r76, Ch.ro 0 (Sl a70 r67 c71) r67, Ch.ro n0 (Sl a83 xs81 c84) xs81, Ch.ro 0 (Sl a5 r2.1 c6) r2.1, Ch.ro 0 (Sl a5 r2.1 c6) r2.1, Ch.ro 0 (Sl a13 r10 c14) r10, Ch.ro 0 (Sl a5 r2.1 c6) r2.1, Ch.ro 0 (Sl a7 r2.2.1 c8) r2.2.1, Ch.ro n0 (Sl a13 r10 c14) r10, Ch.ro n0 (Sl a5 r2.1 c6) r2.1, Ch.ro n0 (Sl a7 r2.2.1 c8) r2.2.1] := H
      replace H : Hp S0 σ0 σ93 [] := H.sel' [] rfl rfl
      refine st (v := (B r90)) (rv_pick_t (congrArg B hb75) rfl) ?_
      refine st (v := (B r90)) (rv_assign rfl) ?_
      refine w_end ?_
      refine q_then ?_
      refine c_ret ?_
      obtain rfl := Option.some.inj h
      exact fin_ret (v := (B r90)) (results_ok Try.results6 (res_tmp (v := (B r90)) rfl res_nil) rfl) ⟨rfl, rfl⟩ (H.sel' [] rfl rfl)
    ·replace h := bif_f hb75 h
     have Hs := H
     refine rg2 (σ := σ65) (Nm := (Option Addr) × (Nat)) 17 [3, 5] [[false, false], [true, false], [true, true]] [[(0, 0)], [(0, 0)], [(0, 0)], [(0, 1)], [(0, 0), (1, 1)], [(1, 2)], [(2, 2)], [(2, 2)], [(2, 2)], [(2, 2)], [(2, 2)], [(2, 2)], [(2, 2)], [(2, 2)], [(2, 2)], [(2, 2)], [(2, 2)]] 2 [fun ((a70, c71) : (Option Addr) × (Nat)) => fun σm => Hp S0 σ0 σm [Ch.ro 0 (Sl a13 r10 c14) r10, Ch.ro 0 (Sl a5 r2.1 c6) r2.1, Ch.ro 0 (Sl a7 r2.2.1 c8) r2.2.1, Ch.ro n0 (Sl a13 r10 c14) r10, Ch.ro n0 (Sl a5 r2.1 c6) r2.1, Ch.ro n0 (Sl a7 r2.2.1 c8) r2.2.1] ∧ Md (cov []) σ65 σm, fun ((a70, c71) : (Option Addr) × (Nat)) => fun σm => Hp S0 σ0 σm [Ch.ro 0 (Sl a70 r67 c71) r67, Ch.ro 0 (Sl a13 r10 c14) r10, Ch.ro 0 (Sl a5 r2.1 c6) r2.1, Ch.ro 0 (Sl a7 r2.2.1 c8) r2.2.1, Ch.ro n0 (Sl a13 r10 c14) r10, Ch.ro n0 (Sl a5 r2.1 c6) r2.1, Ch.ro n0 (Sl a7 r2.2.1 c8) r2.2.1] ∧ Md (fun i => (cov []) i ∨ (fun i => (cov [Ch.ro 0 (Sl a7 r2.2.1 c8) r2.2.1, Ch.ro 0 (Sl a5 r2.1 c6) r2.1]) i ∨ (fun b => blk (Sl a70 r67 c71) = some b) i) i) σ65 σm, fun ((a70, c71) : (Option Addr) × (Nat)) => fun σm => Hp S0 σ0 σm [Ch.ro 0 (Sl a70 r67 c71) r67, Ch.ro 0 (Sl a13 r10 c14) r10, Ch.ro 0 (Sl a5 r2.1 c6) r2.1, Ch.ro 0 (Sl a7 r2.2.1 c8) r2.2.1, Ch.ro n0 (Sl a13 r10 c14) r10, Ch.ro n0 (Sl a5 r2.1 c6) r2.1, Ch.ro n0 (Sl a7 r2.2.1 c8) r2.2.1] ∧ Md (fun i => (cov []) i ∨ (fun i => (cov [Ch.ro 0 (Sl a7 r2.2.1 c8) r2.2.1, Ch.ro 0 (Sl a5 r2.1 c6) r2.1]) i ∨ (fun b => blk (Sl a70 r67 c71) = some b) i) i) σ65 σm] [fun ((a70, c71) : (Option Addr) × (Nat)) => (Sl a7 r2.2.1 c8), fun ((a70, c71) : (Option Addr) × (Nat)) => (Sl a5 r2.1 c6), fun ((a70, c71) : (Option Addr) × (Nat)) => (I r2.2.2), fun ((a70, c71) : (Option Addr) × (Nat)) => (Sl a70 r67 c71), fun ((a70, c71) : (Option Addr) × (Nat)) => (Sl a13 r10 c14), fun ((a70, c71) : (Option Addr) × (Nat)) => (B r72), fun ((a70, c71) : (Option Addr) × (Nat)) => (B r72), fun ((a70, c71) : (Option Addr) × (Nat)) => undef, fun ((a70, c71) : (Option Addr) × (Nat)) => undef, fun ((a70, c71) : (Option Addr) × (Nat)) => undef, fun ((a70, c71) : (Option Addr) × (Nat)) => undef, fun ((a70, c71) : (Option Addr) × (Nat)) => undef, fun ((a70, c71) : (Option Addr) × (Nat)) => undef, fun ((a70, c71) : (Option Addr) × (Nat)) => undef, fun ((a70, c71) : (Option Addr) × (Nat)) => undef, fun ((a70, c71) : (Option Addr) × (Nat)) => undef, fun ((a70, c71) : (Option Addr) × (Nat)) => undef] (none, 0) (by kernel_rfl) (by kernel_rfl) ?_ ?_ ?_
     ·intro σm m0
      exact ⟨H.grow (m0.mono fun _ h => h.elim), m0⟩
     ·refine ac rfl (by
        intro k; rintro ⟨a70, c71⟩ ρ σm hJ hoff hdep
        have e4 := look_off (N := 70) (hoff 4 rfl) rfl
        exact dp_v (v := (Sl a7 r2.2.1 c8)) wn (rv_move e4) rfl hJ) ?_
      refine ac rfl (by
        intro k; rintro ⟨a70, c71⟩ ρ σm hJ hoff hdep
        have e3 := look_off (N := 70) (hoff 3 rfl) rfl
        exact dp_v (v := (Sl a5 r2.1 c6)) wn (rv_move e3) rfl hJ) ?_
      refine ac rfl (by
        intro k; rintro ⟨a70, c71⟩ ρ σm hJ hoff hdep
        have e5 := look_off (N := 70) (hoff 5 rfl) rfl
        exact dp_v (v := (I r2.2.2)) wn (rv_move e5) rfl hJ) ?_
      refine all_cons (by
        refine ⟨?_, ?_⟩
        ·rintro ⟨a70, c71⟩ ρ σm hJ hoff hdep
         have e51 : look 70 ρ 51 = (Sl a7 r2.2.1 c8) := hdep 0 rfl rfl 51 rfl
         have e52 : look 70 ρ 52 = (Sl a5 r2.1 c6) := hdep 1 rfl rfl 52 rfl
         have e53 : look 70 ρ 53 = (I r2.2.2) := hdep 2 rfl rfl 53 rfl
         obtain ⟨H, m⟩ := id hJ
         refine dp_cx wn (cx_call hc69 (ent_f hc69.fn (by show [look 70 ρ 51, look 70 ρ 52, look 70 ρ 53] = _; rw [e51, e52, e53])) hn0 (show Hp S0 σ0 _ ([Ch.ro 0 (Sl a7 r2.2.1 c8) r2.2.1, Ch.ro 0 (Sl a5 r2.1 c6) r2.1] ++ [Ch.ro 0 (Sl a13 r10 c14) r10, Ch.ro 0 (Sl a5 r2.1 c6) r2.1, Ch.ro 0 (Sl a7 r2.2.1 c8) r2.2.1, Ch.ro n0 (Sl a13 r10 c14) r10, Ch.ro n0 (Sl a5 r2.1 c6) r2.1, Ch.ro n0 (Sl a7 r2.2.1 c8) r2.2.1]) from (H.sel' [2, 1, 0, 1, 2, 3, 4, 5] rfl rfl))) ?_
         rintro _ σq ⟨_, ⟨a70x, c71x, rfl, rfl⟩, H2, m2⟩
         obtain ⟨σr0, hwr0, H2, mr0⟩ := H2.pubSc 0 rfl
         exact ⟨_, (a70x, c71x), hwr0, rfl, ⟨H2.sel' [0, 1, 2, 3, 4, 5, 6] rfl rfl, m.comp (m2.comp mr0)⟩, stab [0, 1, 2, 4] (by kernel_rfl) ⟨rfl, rfl, rfl, rfl, trivial⟩⟩
        trivial) ?_
      refine ac rfl (by
        intro k; rintro ⟨a70, c71⟩ ρ σm hJ hoff hdep
        have e6 := look_off (N := 70) (hoff 6 rfl) rfl
        exact dp_v (v := (Sl a13 r10 c14)) wn (rv_move e6) rfl hJ) ?_
      refine all_cons (by
        refine ⟨?_, ?_⟩
        ·rintro ⟨a70, c71⟩ ρ σm hJ hoff hdep
         have e54 : look 70 ρ 54 = (Sl a70 r67 c71) := hdep 3 rfl rfl 54 rfl
         have e55 : look 70 ρ 55 = (Sl a13 r10 c14) := hdep 4 rfl rfl 55 rfl
         obtain ⟨H, m⟩ := id hJ
         refine dp_cx wn (cx_call (hc74 a70 c71) (ent_f (hc74 a70 c71).fn (by show [look 70 ρ 54, look 70 ρ 55] = _; rw [e54, e55])) hn0 (show Hp S0 σ0 _ ([Ch.ro 0 (Sl a70 r67 c71) r67, Ch.ro 0 (Sl a13 r10 c14) r10] ++ [Ch.ro 0 (Sl a70 r67 c71) r67, Ch.ro 0 (Sl a13 r10 c14) r10, Ch.ro 0 (Sl a5 r2.1 c6) r2.1, Ch.ro 0 (Sl a7 r2.2.1 c8) r2.2.1, Ch.ro n0 (Sl a13 r10 c14) r10, Ch.ro n0 (Sl a5 r2.1 c6) r2.1, Ch.ro n0 (Sl a7 r2.2.1 c8) r2.2.1]) from (H.sel' [0, 1, 0, 1, 2, 3, 4, 5, 6] rfl rfl))) ?_
         rintro _ σq ⟨_, ⟨rfl, rfl⟩, H2, m2⟩
         exact ⟨_, (a70, c71), rfl, rfl, ⟨H2.sel' [0, 1, 2, 3, 4, 5, 6] rfl rfl, m.comp0 (m2.mono (fun i h => by simp [cov, Ch.ro] at h))⟩, stab [0, 1, 2, 3, 4] (by kernel_rfl) ⟨rfl, rfl, rfl, rfl, rfl, trivial⟩⟩
        trivial) ?_
      refine ac rfl (by
        intro k; rintro ⟨a70, c71⟩ ρ σm hJ hoff hdep
        have e56 := hdep 5 rfl rfl 56 rfl
        exact dp_v (v := (B r72)) wn (rv_move e56) rfl hJ) ?_
      refine ac rfl (by
        intro k; rintro ⟨a70, c71⟩ ρ σm hJ hoff hdep
        have e57 := hdep 6 rfl rfl 57 rfl
        exact dp_skip (wanted_no rfl (yv_of rfl (e57.trans (congrArg B hb75)))) rfl hJ) ?_
      refine ac rfl (by
        intro k; rintro ⟨a70, c71⟩ ρ σm hJ hoff hdep
        have e57 := hdep 6 rfl rfl 57 rfl
        exact dp_skip (wanted_no rfl (yv_of rfl (e57.trans (congrArg B hb75)))) rfl hJ) ?_
      refine ac rfl (by
        intro k; rintro ⟨a70, c71⟩ ρ σm hJ hoff hdep
        have e57 := hdep 6 rfl rfl 57 rfl
        exact dp_skip (wanted_no rfl (yv_of rfl (e57.trans (congrArg B hb75)))) rfl hJ) ?_
      refine ac rfl (by
        intro k; rintro ⟨a70, c71⟩ ρ σm hJ hoff hdep
        have e57 := hdep 6 rfl rfl 57 rfl
        exact dp_skip (wanted_no rfl (yv_of rfl (e57.trans (congrArg B hb75)))) rfl hJ) ?_
      refine ac rfl (by
        intro k; rintro ⟨a70, c71⟩ ρ σm hJ hoff hdep
        have e57 := hdep 6 rfl rfl 57 rfl
        exact dp_skip (wanted_no rfl (yv_of rfl (e57.trans (congrArg B hb75)))) rfl hJ) ?_
      refine ac rfl (by
        intro k; rintro ⟨a70, c71⟩ ρ σm hJ hoff hdep
        have e57 := hdep 6 rfl rfl 57 rfl
        exact dp_skip (wanted_no rfl (yv_of rfl (e57.trans (congrArg B hb75)))) rfl hJ) ?_
      refine ac rfl (by
        intro k; rintro ⟨a70, c71⟩ ρ σm hJ hoff hdep
        have e57 := hdep 6 rfl rfl 57 rfl
        exact dp_skip (wanted_no rfl (yv_of rfl (e57.trans (congrArg B hb75)))) rfl hJ) ?_
      refine ac rfl (by
        intro k; rintro ⟨a70, c71⟩ ρ σm hJ hoff hdep
        have e57 := hdep 6 rfl rfl 57 rfl
        exact dp_skip (wanted_no rfl (yv_of rfl (e57.trans (congrArg B hb75)))) rfl hJ) ?_
      refine ac rfl (by
        intro k; rintro ⟨a70, c71⟩ ρ σm hJ hoff hdep
        have e57 := hdep 6 rfl rfl 57 rfl
        exact dp_skip (wanted_no rfl (yv_of rfl (e57.trans (congrArg B hb75)))) rfl hJ) ?_
      refine ac rfl (by
        intro k; rintro ⟨a70, c71⟩ ρ σm hJ hoff hdep
        have e57 := hdep 6 rfl rfl 57 rfl
        exact dp_skip (wanted_no rfl (yv_of rfl (e57.trans (congrArg B hb75)))) rfl hJ) ?_
      exact all_nil
     ·rintro ⟨a70, c71⟩ ρ σ94 hJ hoff hrel
      have e57 := hrel 6 rfl 57 rfl
      have e61 := hrel 10 rfl 61 rfl
      have e67 := hrel 16 rfl 67 rfl
      obtain ⟨H, -⟩ := (show Hp S0 σ0 σ94 [Ch.ro 0 (Sl a70 r67 c71) r67, Ch.ro 0 (Sl a13 r10 c14) r10, Ch.ro 0 (Sl a5 r2.1 c6) r2.1, Ch.ro 0 (Sl a7 r2.2.1 c8) r2.2.1, Ch.ro n0 (Sl a13 r10 c14) r10, Ch.ro n0 (Sl a5 r2.1 c6) r2.1, Ch.ro n0 (Sl a7 r2.2.1 c8) r2.2.1] ∧ Md (fun i => (cov []) i ∨ (fun i => (cov [Ch.ro 0 (Sl a7 r2.2.1 c8) r2.2.1, Ch.ro 0 (Sl a5 r2.1 c6) r2.1]) i ∨ (fun b => blk (Sl a70 r67 c71) = some b) i) i) σ65 σ94 from hJ)
      clear hJ Hs
      rw [fr_lookL (L := [(57, (B r72)), (61, undef), (67, undef)]) ⟨e57, e61, e67, trivial⟩]
      clear hoff hrel e57 e61 e67
      refine st_skip (congrArg some hb75) ?_
      refine st (v := (B false)) (rv_pick_f (congrArg B hb75) rfl) ?_
      refine st (v := (B false)) (rv_assign rfl) ?_
      refine w_end ?_
      refine q_then ?_
      refine c_ret ?_
      obtain rfl := Option.some.inj h
      exact fin_ret (v := (B false)) (results_ok Try.results6 (res_tmp (v := (B false)) rfl res_nil) rfl) ⟨rfl, rfl⟩ (H.sel' [] rfl rfl)

end Go.Vs
