/- The functions compute what their models say. -/
import Derived.Test.YtnkflplbeagljabKMergeHitsThreeC3
set_option linter.unusedVariables false
set_option linter.unusedSimpArgs false
set_option maxRecDepth 20000
namespace Go.Vs
open Go Go.Proofs
attribute [local irreducible] Code.wp Code.wpIn wpList wpListIn wpQuiet Calls CallsIn

theorem c_laws_FnMergeHitsThree {code_0 : List UInt8} {acode_0 : Option Addr} {ccode_0 : Nat} {r : Bool} (h : M.laws_FnMergeHitsThree code_0 = some r) :
    Cal2 Try.prog 8 [(Sl acode_0 code_0 ccode_0)] [Ch.ro 0 (Sl acode_0 code_0 ccode_0) code_0] (fun n0 v L => v = (B r) ∧ L = []) := by
 refine cal2 (n := 67) Try.func8 rfl rfl rfl rfl ?_
 intro S0 σ0 n0 hn0 H
 unfold M.laws_FnMergeHitsThree at h
 refine c_seq ?_
 refine rg ?_
 refine st (v := (B false)) (rv_assign rfl) ?_
 refine w_end ?_
 refine q_then ?_
 refine c_seq ?_
 refine c_seq ?_
 refine rg ?_
 refine st (v := (Sl acode_0 code_0 ccode_0)) (rv_move rfl) ?_
 refine st (v := (I (code_0.length : Int))) (rv_len Try.underlying22 rfl) ?_
 refine st (v := (B (decide (1048576 < (code_0.length : Int))))) (rv_gtr (a := (code_0.length : Int)) (b := 1048576) rfl rfl) ?_
 refine w_end ?_
 refine q_then ?_
 refine cd_cond (decide (1048576 < (code_0.length : Int))) rfl (fun hb1 => ?_) (fun hb1 => ?_)
 ·replace h := bif_t hb1 h
  refine c_seq ?_
  refine rg ?_
  refine st (v := (B true)) (rv_assign rfl) ?_
  refine w_end ?_
  refine q_then ?_
  refine c_ret ?_
  refine q_then_r ?_
  obtain rfl := Option.some.inj h
  exact fin_ret (v := (B true)) (results_ok Try.results8 (res_tmp (v := (B true)) rfl res_nil) rfl) ⟨rfl, rfl⟩ (H.sel' [] rfl rfl)
 ·replace h := bif_f hb1 h
  refine c_skip ?_
  refine q_then ?_
  refine c_seq ?_
  refine rg ?_
  refine st (v := (Sl acode_0 code_0 ccode_0)) (rv_move rfl) ?_
  obtain ⟨r2, hx3, h'⟩ := bind_some h
  clear h
  have h := h'; clear h'
  have hc4 := c_spec_DrawMergeHits (acode_0 := acode_0) (ccode_0 := ccode_0) hx3
  refine st_call (cx_call hc4 (ent_f hc4.fn rfl) hn0 (show Hp S0 σ0 _ ([Ch.ro 0 (Sl acode_0 code_0 ccode_0) code_0] ++ [Ch.ro 0 (Sl acode_0 code_0 ccode_0) code_0]) from (H.sel' [0, 0] rfl rfl))) wn ?_
  rintro _ σ9 ⟨_, ⟨a5, c6, a7, c8, rfl, rfl⟩, H, -⟩
  replace H : Hp S0 σ0 σ9 [Ch.own n0 n0 (Sl a5 r2.1 c6) r2.1, Ch.own n0 n0 (Sl a7 r2.2.1 c8) r2.2.1, Ch.ro 0 (Sl acode_0 code_0 ccode_0) code_0] := H
  refine st (v := (.tuple #[(Sl a5 r2.1 c6), (Sl a7 r2.2.1 c8), (I r2.2.2)])) (rv_move rfl) ?_
  refine st (v := (Sl a5 r2.1 c6)) (rv_extract rfl rfl) ?_
  refine st (v := (Sl a7 r2.2.1 c8)) (rv_extract rfl rfl) ?_
  refine st (v := (I r2.2.2)) (rv_extract rfl rfl) ?_
  refine st (v := (Sl a5 r2.1 c6)) (rv_assign rfl) ?_
  refine st (v := (Sl a7 r2.2.1 c8)) (rv_assign rfl) ?_
  refine st (v := (I r2.2.2)) (rv_assign rfl) ?_
  refine w_end ?_
  refine q_then ?_
  refine c_seq ?_
  refine rg ?_
  refine st (v := (Sl a5 r2.1 c6)) (rv_move rfl) ?_
  refine st (v := (Sl a7 r2.2.1 c8)) (rv_move rfl) ?_
  refine st (v := (I r2.2.2)) (rv_move rfl) ?_
  obtain ⟨r10, hx11, h'⟩ := bind_some h
  clear h
  have h := h'; clear h'
  have hc12 := c_impl_MergeHits (aa_0 := a5) (ca_0 := c6) (ab_1 := a7) (cb_1 := c8) hx11
  have hle := Nat.le_trans hn0 H.size
  refine st_call (cx_lend (Loan.lend (Loan.lend Loan.nil)) hc12 (ent_f hc12.fn rfl) (show Hp S0 σ0 _ ([Ch.own n0 n0 (Sl a5 r2.1 c6) r2.1, Ch.own n0 n0 (Sl a7 r2.2.1 c8) r2.2.1] ++ ([] ++ [Ch.ro 0 (Sl acode_0 code_0 ccode_0) code_0])) from (H.sel' [0, 1, 2] rfl rfl)) (by rintro _ _ _ ⟨_, _, rfl, rfl⟩; exact ⟨Ab.ownSc, trivial⟩)) wn ?_
  rintro _ σ15 ⟨_, ⟨a13, c14, rfl, rfl⟩, H, -, -⟩
  replace H : Hp S0 σ0 σ15 [Ch.own σ9.size σ9.size (Sl a13 r10 c14) r10, Ch.own n0 n0 (Sl a5 r2.1 c6) r2.1, Ch.own n0 n0 (Sl a7 r2.2.1 c8) r2.2.1, Ch.ro 0 (Sl acode_0 code_0 ccode_0) code_0] := H
  replace H := H.ownLow 0 n0 n0 rfl hle hle
  clear hle
  replace H : Hp S0 σ0 σ15 [Ch.own n0 n0 (Sl a13 r10 c14) r10, Ch.own n0 n0 (Sl a5 r2.1 c6) r2.1, Ch.own n0 n0 (Sl a7 r2.2.1 c8) r2.2.1, Ch.ro 0 (Sl acode_0 code_0 ccode_0) code_0] := H
  refine st (v := (Sl a13 r10 c14)) (rv_assign rfl) ?_
  refine w_end ?_
  refine q_then ?_
  refine c_seq ?_
  refine c_seq ?_
  obtain ⟨o16, hj, h'⟩ := bind_some h
  clear h
  refine c_cut (fun e a w => e = .normal ∧ ∃ (ρ : Nat → Value) (σ : St), a = fr 67 (updL ρ [(3, (Sl a5 r2.1 c6)), (4, (Sl a7 r2.2.1 c8)), (5, (I r2.2.2)), (6, (Sl a13 r10 c14)), (45, (B o16))]) ∧ w = σ.w ∧ Hp S0 σ0 σ [Ch.own n0 n0 (Sl a5 r2.1 c6) r2.1, Ch.own n0 n0 (Sl a7 r2.2.1 c8) r2.2.1, Ch.own n0 n0 (Sl a13 r10 c14) r10]) ?_ ?_
  ·clear h'
   rename _ = some o16 => h
   refine rg ?_
   refine st (v := (Sl a13 r10 c14)) (rv_move rfl) ?_
   refine st (v := (Sl a5 r2.1 c6)) (rv_move rfl) ?_
   refine st (v := (Sl a7 r2.2.1 c8)) (rv_move rfl) ?_
   refine st (v := (I r2.2.2)) (rv_move rfl) ?_
   obtain ⟨r17, hx18, h'⟩ := bind_some h
   clear h
   have h := h'; clear h'
   have hc19 := c_spec_MergeHits (aa_0 := a5) (ca_0 := c6) (ab_1 := a7) (cb_1 := c8) hx18
   have hle := Nat.le_trans hn0 H.size
   refine st_call (cx_lend (Loan.lend (Loan.lend Loan.nil)) hc19 (ent_f hc19.fn rfl) (show Hp S0 σ0 _ ([Ch.own n0 n0 (Sl a5 r2.1 c6) r2.1, Ch.own n0 n0 (Sl a7 r2.2.1 c8) r2.2.1] ++ ([] ++ [Ch.own n0 n0 (Sl a13 r10 c14) r10, Ch.ro 0 (Sl acode_0 code_0 ccode_0) code_0])) from (H.sel' [1, 2, 0, 3] rfl rfl)) (by rintro _ _ _ ⟨_, _, rfl, rfl⟩; exact ⟨Ab.ownSc, trivial⟩)) wn ?_
   rintro _ σ22 ⟨_, ⟨a20, c21, rfl, rfl⟩, H, -, -⟩
   replace H : Hp S0 σ0 σ22 [Ch.own σ15.size σ15.size (Sl a20 r17 c21) r17, Ch.own n0 n0 (Sl a5 r2.1 c6) r2.1, Ch.own n0 n0 (Sl a7 r2.2.1 c8) r2.2.1, Ch.own n0 n0 (Sl a13 r10 c14) r10, Ch.ro 0 (Sl acode_0 code_0 ccode_0) code_0] := H
   replace H := H.ownLow 0 n0 n0 rfl hle hle
   clear hle
   replace H : Hp S0 σ0 σ22 [Ch.own n0 n0 (Sl a20 r17 c21) r17, Ch.own n0 n0 (Sl a5 r2.1 c6) r2.1, Ch.own n0 n0 (Sl a7 r2.2.1 c8) r2.2.1, Ch.own n0 n0 (Sl a13 r10 c14) r10, Ch.ro 0 (Sl acode_0 code_0 ccode_0) code_0] := H
   obtain ⟨σ23, hw24, H, -⟩ := H.pub 0 rfl (Nat.le_refl _)
   rw [← hw24]; clear hw24
   replace H := H.roLow 0 0 rfl (Nat.zero_le _)
   obtain ⟨r25, hx26, h'⟩ := bind_some h
   clear h
   have h := h'; clear h'
   have hc27 := c_laws_equalHits (aa_0 := a13) (ca_0 := c14) (ab_1 := a20) (cb_1 := c21) hx26
   have hle := Nat.le_trans hn0 H.size
   refine st_call (cx_lend (Loan.lend (Loan.same Loan.nil)) hc27 (ent_f hc27.fn rfl) (show Hp S0 σ0 _ ([Ch.own n0 n0 (Sl a13 r10 c14) r10] ++ ([Ch.ro 0 (Sl a20 r17 c21) r17] ++ [Ch.ro 0 (Sl a20 r17 c21) r17, Ch.ro n0 (Sl a20 r17 c21) r17, Ch.own n0 n0 (Sl a5 r2.1 c6) r2.1, Ch.own n0 n0 (Sl a7 r2.2.1 c8) r2.2.1, Ch.ro 0 (Sl acode_0 code_0 ccode_0) code_0])) from (H.sel' [4, 0, 0, 1, 2, 3, 5] rfl rfl)) (by rintro _ _ _ ⟨rfl, rfl⟩; exact trivial)) wn ?_
   rintro _ σ28 ⟨_, ⟨rfl, rfl⟩, H, -, -⟩
   replace H : Hp S0 σ0 σ28 [Ch.own n0 n0 (Sl a13 r10 c14) r10, Ch.ro 0 (Sl a20 r17 c21) r17, Ch.ro n0 (Sl a20 r17 c21) r17, Ch.own n0 n0 (Sl a5 r2.1 c6) r2.1, Ch.own n0 n0 (Sl a7 r2.2.1 c8) r2.2.1, Ch.ro 0 (Sl acode_0 code_0 ccode_0) code_0] := H
   clear hle
   replace H : Hp S0 σ0 σ28 [Ch.own n0 n0 (Sl a13 r10 c14) r10, Ch.ro 0 (Sl a20 r17 c21) r17, Ch.ro n0 (Sl a20 r17 c21) r17, Ch.own n0 n0 (Sl a5 r2.1 c6) r2.1, Ch.own n0 n0 (Sl a7 r2.2.1 c8) r2.2.1, Ch.ro 0 (Sl acode_0 code_0 ccode_0) code_0] := H
   refine st (v := (B (!r25))) (rv_not rfl) ?_
   refine st (v := (B (!r25))) (rv_move rfl) ?_
   rcases Bool.eq_false_or_eq_true (!r25) with hb29 | hb29
   ·replace h := bif_t hb29 h
    refine st_skip (congrArg some hb29) ?_
    refine st_skip (congrArg some hb29) ?_
    refine st_skip (congrArg some hb29) ?_
    refine st (v := (B true)) (rv_pick_t (congrArg B hb29) rfl) ?_
    refine st (v := (B true)) (rv_move rfl) ?_
    refine st_skip rfl ?_
    refine st_skip rfl ?_
    refine st_skip rfl ?_
    refine st (v := (B true)) (rv_pick_t rfl rfl) ?_
    refine st (v := (B true)) (rv_move rfl) ?_
    refine st_skip rfl ?_
    refine st_skip rfl ?_
    refine st (v := (B true)) (rv_pick_t rfl rfl) ?_
    refine st (v := (B true)) (rv_move rfl) ?_
    refine st_skip rfl ?_
    refine st_skip rfl ?_
    refine st (v := (B true)) (rv_pick_t rfl rfl) ?_
    refine w_end ?_
    obtain rfl := Option.some.inj h
    exact ⟨rfl, _, σ28, fr_join ⟨rfl, rfl, rfl, rfl, rfl, trivial⟩, rfl, H.sel' [3, 4, 0] rfl rfl⟩
   ·replace h := bif_f hb29 h
    refine st_g (v := (Sl a5 r2.1 c6)) (congrArg some hb29) (rv_move rfl) ?_
    obtain ⟨r30, hx31, h'⟩ := bind_some h
    clear h
    have h := h'; clear h'
    have hc32 := c_impl_ValidHits (alist_0 := a5) (clist_0 := c6) hx31
    have hle := Nat.le_trans hn0 H.size
    refine st_call (cx_lend (Loan.lend Loan.nil) hc32 (ent_f hc32.fn rfl) (show Hp S0 σ0 _ ([Ch.own n0 n0 (Sl a5 r2.1 c6) r2.1] ++ ([] ++ [Ch.own n0 n0 (Sl a13 r10 c14) r10, Ch.ro 0 (Sl a20 r17 c21) r17, Ch.ro n0 (Sl a20 r17 c21) r17, Ch.own n0 n0 (Sl a7 r2.2.1 c8) r2.2.1, Ch.ro 0 (Sl acode_0 code_0 ccode_0) code_0])) from (H.sel' [3, 0, 1, 2, 4, 5] rfl rfl)) (by rintro _ _ _ ⟨rfl, rfl⟩; exact trivial)) (wanted_yes rfl (by exact (congrArg some hb29))) ?_
    rintro _ σ33 ⟨_, ⟨rfl, rfl⟩, H, -, -⟩
    replace H : Hp S0 σ0 σ33 [Ch.own n0 n0 (Sl a5 r2.1 c6) r2.1, Ch.own n0 n0 (Sl a13 r10 c14) r10, Ch.ro 0 (Sl a20 r17 c21) r17, Ch.ro n0 (Sl a20 r17 c21) r17, Ch.own n0 n0 (Sl a7 r2.2.1 c8) r2.2.1, Ch.ro 0 (Sl acode_0 code_0 ccode_0) code_0] := H
    clear hle
    replace H : Hp S0 σ0 σ33 [Ch.own n0 n0 (Sl a5 r2.1 c6) r2.1, Ch.own n0 n0 (Sl a13 r10 c14) r10, Ch.ro 0 (Sl a20 r17 c21) r17, Ch.ro n0 (Sl a20 r17 c21) r17, Ch.own n0 n0 (Sl a7 r2.2.1 c8) r2.2.1, Ch.ro 0 (Sl acode_0 code_0 ccode_0) code_0] := H
    refine st_g (v := (B (!r30))) (congrArg some hb29) (rv_not rfl) ?_
    refine st (v := (B (!r30))) (rv_pick_f (congrArg B hb29) rfl) ?_
    refine st (v := (B (!r30))) (rv_move rfl) ?_
    rcases Bool.eq_false_or_eq_true (!r30) with hb34 | hb34
    ·replace h := bif_t hb34 h
     refine st_skip (congrArg some hb34) ?_
     refine st_skip (congrArg some hb34) ?_
     refine st_skip (congrArg some hb34) ?_
     refine st (v := (B true)) (rv_pick_t (congrArg B hb34) rfl) ?_
     refine st (v := (B true)) (rv_move rfl) ?_
     refine st_skip rfl ?_
     refine st_skip rfl ?_
     refine st (v := (B true)) (rv_pick_t rfl rfl) ?_
     refine st (v := (B true)) (rv_move rfl) ?_
     refine st_skip rfl ?_
     refine st_skip rfl ?_
     refine st (v := (B true)) (rv_pick_t rfl rfl) ?_
     refine w_end ?_
     obtain rfl := Option.some.inj h
     exact ⟨rfl, _, σ33, fr_join ⟨rfl, rfl, rfl, rfl, rfl, trivial⟩, rfl, H.sel' [0, 4, 1] rfl rfl⟩
    ·replace h := bif_f hb34 h
     refine st_g (v := (Sl a7 r2.2.1 c8)) (congrArg some hb34) (rv_move rfl) ?_
     obtain ⟨r35, hx36, h'⟩ := bind_some h
     clear h
     have h := h'; clear h'
     have hc37 := c_impl_ValidHits (alist_0 := a7) (clist_0 := c8) hx36
     have hle := Nat.le_trans hn0 H.size
     refine st_call (cx_lend (Loan.lend Loan.nil) hc37 (ent_f hc37.fn rfl) (show Hp S0 σ0 _ ([Ch.own n0 n0 (Sl a7 r2.2.1 c8) r2.2.1] ++ ([] ++ [Ch.own n0 n0 (Sl a5 r2.1 c6) r2.1, Ch.own n0 n0 (Sl a13 r10 c14) r10, Ch.ro 0 (Sl a20 r17 c21) r17, Ch.ro n0 (Sl a20 r17 c21) r17, Ch.ro 0 (Sl acode_0 code_0 ccode_0) code_0])) from (H.sel' [4, 0, 1, 2, 3, 5] rfl rfl)) (by rintro _ _ _ ⟨rfl, rfl⟩; exact trivial)) (wanted_yes rfl (by exact (congrArg some hb34))) ?_
     rintro _ σ38 ⟨_, ⟨rfl, rfl⟩, H, -, -⟩
     replace H : Hp S0 σ0 σ38 [Ch.own n0 n0 (Sl a7 r2.2.1 c8) r2.2.1, Ch.own n0 n0 (Sl a5 r2.1 c6) r2.1, Ch.own n0 n0 (Sl a13 r10 c14) r10, Ch.ro 0 (Sl a20 r17 c21) r17, Ch.ro n0 (Sl a20 r17 c21) r17, Ch.ro 0 (Sl acode_0 code_0 ccode_0) code_0] := H
     clear hle
     replace H : Hp S0 σ0 σ38 [Ch.own n0 n0 (Sl a7 r2.2.1 c8) r2.2.1, Ch.own n0 n0 (Sl a5 r2.1 c6) r2.1, Ch.own n0 n0 (Sl a13 r10 c14) r10, Ch.ro 0 (Sl a20 r17 c21) r17, Ch.ro n0 (Sl a20 r17 c21) r17, Ch.ro 0 (Sl acode_0 code_0 ccode_0) code_0] := H
     refine st_g (v := (B (!r35))) (congrArg some hb34) (rv_not rfl) ?_
     refine st (v := (B (!r35))) (rv_pick_f (congrArg B hb34) rfl) ?_
     refine st (v := (B (!r35))) (rv_move rfl) ?_
     rcases Bool.eq_false_or_eq_true (!r35) with hb39 | hb39
     ·replace h := bif_t hb39 h
      refine st_skip (congrArg some hb39) ?_
      refine st_skip (congrArg some hb39) ?_
      refine st (v := (B true)) (rv_pick_t (congrArg B hb39) rfl) ?_
      refine st (v := (B true)) (rv_move rfl) ?_
      refine st_skip rfl ?_
      refine st_skip rfl ?_
      refine st (v := (B true)) (rv_pick_t rfl rfl) ?_
      refine w_end ?_
      obtain rfl := Option.some.inj h
      exact ⟨rfl, _, σ38, fr_join ⟨rfl, rfl, rfl, rfl, rfl, trivial⟩, rfl, H.sel' [1, 0, 2] rfl rfl⟩
     ·replace h := bif_f hb39 h
      refine st_g (v := (I r2.2.2)) (congrArg some hb39) (rv_move rfl) ?_
      refine st_g (v := (B (decide (r2.2.2 < 1)))) (congrArg some hb39) (rv_lss (a := r2.2.2) (b := 1) rfl rfl) ?_
      refine st (v := (B (decide (r2.2.2 < 1)))) (rv_pick_f (congrArg B hb39) rfl) ?_
      refine st (v := (B (decide (r2.2.2 < 1)))) (rv_move rfl) ?_
      rcases Bool.eq_false_or_eq_true (decide (r2.2.2 < 1)) with hb40 | hb40
      ·replace h := bif_t hb40 h
       refine st_skip (congrArg some hb40) ?_
       refine st_skip (congrArg some hb40) ?_
       refine st (v := (B true)) (rv_pick_t (congrArg B hb40) rfl) ?_
       refine w_end ?_
       obtain rfl := Option.some.inj h
       exact ⟨rfl, _, σ38, fr_join ⟨rfl, rfl, rfl, rfl, rfl, trivial⟩, rfl, H.sel' [1, 0, 2] rfl rfl⟩
      ·replace h := bif_f hb40 h
       refine st_g (v := (I r2.2.2)) (congrArg some hb40) (rv_move rfl) ?_
       refine st_g (v := (B (decide (16 < r2.2.2)))) (congrArg some hb40) (rv_gtr (a := r2.2.2) (b := 16) rfl rfl) ?_
       refine st (v := (B (decide (16 < r2.2.2)))) (rv_pick_f (congrArg B hb40) rfl) ?_
       refine w_end ?_
       obtain rfl := Option.some.inj h
       exact ⟨rfl, _, σ38, fr_join ⟨rfl, rfl, rfl, rfl, rfl, trivial⟩, rfl, H.sel' [1, 0, 2] rfl rfl⟩
  ·clear hj
   have h := h'
   clear h' H
   rintro e a w ⟨rfl, ρ, σ41, rfl, rfl, H⟩
   refine q_then ?_
   refine cd_cond o16 rfl (fun hb42 => ?_) (fun hb42 => ?_)
   ·replace h := bif_t hb42 h
    refine c_seq ?_
    refine rg ?_
    refine st (v := (Sl a13 r10 c14)) (rv_move rfl) ?_
    refine st (v := (Sl a5 r2.1 c6)) (rv_move rfl) ?_
    refine st (v := (Sl a7 r2.2.1 c8)) (rv_move rfl) ?_
    refine st (v := (I r2.2.2)) (rv_move rfl) ?_
    obtain ⟨σ43, hw44, H, -⟩ := H.pub 0 rfl (Nat.le_refl _)
    rw [← hw44]; clear hw44
    obtain ⟨σ45, hw46, H, -⟩ := H.pub 1 rfl (Nat.le_refl _)
    rw [← hw46]; clear hw46
    replace H := H.roLow 1 0 rfl (Nat.zero_le _)
    replace H := H.roLow 1 0 rfl (Nat.zero_le _)
    obtain ⟨r47, hx48, h'⟩ := bind_some h
    clear h
    have h := h'; clear h'
    have hc49 := c_spec_MergeHits (aa_0 := a5) (ca_0 := c6) (ab_1 := a7) (cb_1 := c8) hx48
    refine st_call (cx_call hc49 (ent_f hc49.fn rfl) hn0 (show Hp S0 σ0 _ ([Ch.ro 0 (Sl a5 r2.1 c6) r2.1, Ch.ro 0 (Sl a7 r2.2.1 c8) r2.2.1] ++ [Ch.ro 0 (Sl a7 r2.2.1 c8) r2.2.1, Ch.ro 0 (Sl a5 r2.1 c6) r2.1, Ch.ro n0 (Sl a7 r2.2.1 c8) r2.2.1, Ch.ro n0 (Sl a5 r2.1 c6) r2.1, Ch.own n0 n0 (Sl a13 r10 c14) r10]) from (H.sel' [1, 0, 0, 1, 2, 3, 4] rfl rfl))) wn ?_
    rintro _ σ52 ⟨_, ⟨a50, c51, rfl, rfl⟩, H, -⟩
    replace H : Hp S0 σ0 σ52 [Ch.own n0 n0 (Sl a50 r47 c51) r47, Ch.ro 0 (Sl a7 r2.2.1 c8) r2.2.1, Ch.ro 0 (Sl a5 r2.1 c6) r2.1, Ch.ro n0 (Sl a7 r2.2.1 c8) r2.2.1, Ch.ro n0 (Sl a5 r2.1 c6) r2.1, Ch.own n0 n0 (Sl a13 r10 c14) r10] := H
    obtain ⟨σ53, hw54, H, -⟩ := H.pub 5 rfl (Nat.le_refl _)
    rw [← hw54]; clear hw54
    obtain ⟨σ55, hw56, H, -⟩ := H.pub 1 rfl (Nat.le_refl _)
    rw [← hw56]; clear hw56
    replace H := H.roLow 1 0 rfl (Nat.zero_le _)
    replace H := H.roLow 1 0 rfl (Nat.zero_le _)
    obtain ⟨r57, hx58, h'⟩ := bind_some h
    clear h
    have h := h'; clear h'
    have hc59 := c_laws_equalHits (aa_0 := a13) (ca_0 := c14) (ab_1 := a50) (cb_1 := c51) hx58
    refine st_call (cx_call hc59 (ent_f hc59.fn rfl) hn0 (show Hp S0 σ0 _ ([Ch.ro 0 (Sl a13 r10 c14) r10, Ch.ro 0 (Sl a50 r47 c51) r47] ++ [Ch.ro 0 (Sl a50 r47 c51) r47, Ch.ro 0 (Sl a13 r10 c14) r10, Ch.ro n0 (Sl a50 r47 c51) r47, Ch.ro n0 (Sl a13 r10 c14) r10, Ch.ro 0 (Sl a7 r2.2.1 c8) r2.2.1, Ch.ro 0 (Sl a5 r2.1 c6) r2.1, Ch.ro n0 (Sl a7 r2.2.1 c8) r2.2.1, Ch.ro n0 (Sl a5 r2.1 c6) r2.1]) from (H.sel' [1, 0, 0, 1, 2, 3, 4, 5, 6, 7] rfl rfl))) wn ?_
    rintro _ σ60 ⟨_, ⟨rfl, rfl⟩, H, -⟩
    replace H : Hp S0 σ0 σ60 [Ch.ro 0 (Sl a50 r47 c51) r47, Ch.ro 0 (Sl a13 r10 c14) r10, Ch.ro n0 (Sl a50 r47 c51) r47, Ch.ro n0 (Sl a13 r10 c14) r10, Ch.ro 0 (Sl a7 r2.2.1 c8) r2.2.1, Ch.ro 0 (Sl a5 r2.1 c6) r2.1, Ch.ro n0 (Sl a7 r2.2.1 c8) r2.2.1, Ch.ro n0 (Sl a5 r2.1 c6) r2.1] := H
    replace H : Hp S0 σ0 σ60 [] := H.sel' [] rfl rfl
    refine st (v := (B r57)) (rv_assign rfl) ?_
    refine w_end ?_
    refine q_then ?_
    refine c_ret ?_
    refine q_then_r ?_
    obtain rfl := Option.some.inj h
    exact fin_ret (v := (B r57)) (results_ok Try.results8 (res_tmp (v := (B r57)) rfl res_nil) rfl) ⟨rfl, rfl⟩ (H.sel' [] rfl rfl)
   ·replace h := bif_f hb42 h
    refine c_skip ?_
    refine q_then ?_
    refine c_seq ?_
    refine rg ?_
    refine st (v := (.agg #[(I 5), (I 3)])) (rv_build (ps := [(0, (I 5)), (1, (I 3))]) Try.underlying40 ti40 (bp40 Try.underlying40) rfl (by kernel_rfl)) ?_
    refine st (v := (.agg #[(I 2), (I 9)])) (rv_build (ps := [(0, (I 2)), (1, (I 9))]) Try.underlying40 ti40 (bp40 Try.underlying40) rfl (by kernel_rfl)) ?_
    refine st_ex (ex_buildSlice (el := n0) (xs := ([(5, 3), (2, 9)] : List (Int × Int))) (ps := [(0, (.agg #[(I 5), (I 3)])), (1, (.agg #[(I 2), (I 9)]))]) (cs := [(I 5), (I 3), (I 2), (I 9)]) H hn0 Try.underlying23 ti40 rfl rfl (by kernel_rfl) (.cons (c := [(I 5), (I 3)]) ⟨[(I 5)], [(I 3)], rfl, rfl, rfl⟩ (.cons (c := [(I 2), (I 9)]) ⟨[(I 2)], [(I 9)], rfl, rfl, rfl⟩ (.nil))) rfl) wn ?_
    rintro _ σ62 ⟨b61, rfl, H, -⟩
    refine st (v := (Sl (some ⟨b61, 0, none⟩) ([(5, 3), (2, 9)] : List (Int × Int)) 2)) (rv_assign rfl) ?_
    refine w_end ?_
    refine q_then ?_
    refine c_seq ?_
    refine rg ?_
    refine st (v := (Sl a13 r10 c14)) (rv_move rfl) ?_
    refine st (v := (Sl (some ⟨b61, 0, none⟩) ([(5, 3), (2, 9)] : List (Int × Int)) 2)) (rv_move rfl) ?_
    refine st (v := (I r2.2.2)) (rv_move rfl) ?_
    obtain ⟨σ63, hw64, H, -⟩ := H.pub 3 rfl (Nat.le_refl _)
    rw [← hw64]; clear hw64
    replace H := H.roLow 0 0 rfl (Nat.zero_le _)
    obtain ⟨r65, hx66, h'⟩ := bind_some h
    clear h
    have h := h'; clear h'
    have hc67 := c_impl_MergeHits (aa_0 := a13) (ca_0 := c14) (ab_1 := (some ⟨b61, 0, none⟩)) (cb_1 := 2) hx66
    have hle := Nat.le_trans hn0 H.size
    refine st_call (cx_lend (Loan.same (Loan.lend Loan.nil)) hc67 (ent_f hc67.fn rfl) (show Hp S0 σ0 _ ([Ch.own n0 n0 (Sl (some ⟨b61, 0, none⟩) ([(5, 3), (2, 9)] : List (Int × Int)) 2) ([(5, 3), (2, 9)] : List (Int × Int))] ++ ([Ch.ro 0 (Sl a13 r10 c14) r10] ++ [Ch.ro 0 (Sl a13 r10 c14) r10, Ch.ro n0 (Sl a13 r10 c14) r10, Ch.own n0 n0 (Sl a5 r2.1 c6) r2.1, Ch.own n0 n0 (Sl a7 r2.2.1 c8) r2.2.1])) from (H.sel' [2, 0, 0, 1, 3, 4] rfl rfl)) (by rintro _ _ _ ⟨_, _, rfl, rfl⟩; exact ⟨Ab.ownSc, trivial⟩)) wn ?_
    rintro _ σ70 ⟨_, ⟨a68, c69, rfl, rfl⟩, H, -, -⟩
    replace H : Hp S0 σ0 σ70 [Ch.own σ63.size σ63.size (Sl a68 r65 c69) r65, Ch.own n0 n0 (Sl (some ⟨b61, 0, none⟩) ([(5, 3), (2, 9)] : List (Int × Int)) 2) ([(5, 3), (2, 9)] : List (Int × Int)), Ch.ro 0 (Sl a13 r10 c14) r10, Ch.ro n0 (Sl a13 r10 c14) r10, Ch.own n0 n0 (Sl a5 r2.1 c6) r2.1, Ch.own n0 n0 (Sl a7 r2.2.1 c8) r2.2.1] := H
    replace H := H.ownLow 0 n0 n0 rfl hle hle
    clear hle
    replace H : Hp S0 σ0 σ70 [Ch.own n0 n0 (Sl a68 r65 c69) r65, Ch.own n0 n0 (Sl (some ⟨b61, 0, none⟩) ([(5, 3), (2, 9)] : List (Int × Int)) 2) ([(5, 3), (2, 9)] : List (Int × Int)), Ch.ro 0 (Sl a13 r10 c14) r10, Ch.ro n0 (Sl a13 r10 c14) r10, Ch.own n0 n0 (Sl a5 r2.1 c6) r2.1, Ch.own n0 n0 (Sl a7 r2.2.1 c8) r2.2.1] := H
    refine st (v := (Sl a5 r2.1 c6)) (rv_move rfl) ?_
    refine st (v := (Sl a7 r2.2.1 c8)) (rv_move rfl) ?_
    refine st (v := (Sl (some ⟨b61, 0, none⟩) ([(5, 3), (2, 9)] : List (Int × Int)) 2)) (rv_move rfl) ?_
    refine st (v := (I r2.2.2)) (rv_move rfl) ?_
    obtain ⟨σ71, hw72, H, -⟩ := H.pub 5 rfl (Nat.le_refl _)
    rw [← hw72]; clear hw72
    obtain ⟨σ73, hw74, H, -⟩ := H.pub 2 rfl (Nat.le_refl _)
    rw [← hw74]; clear hw74
    replace H := H.roLow 1 0 rfl (Nat.zero_le _)
    replace H := H.roLow 1 0 rfl (Nat.zero_le _)
    obtain ⟨r75, hx76, h'⟩ := bind_some h
    clear h
    have h := h'; clear h'
    have hc77 := c_impl_MergeHits (aa_0 := a7) (ca_0 := c8) (ab_1 := (some ⟨b61, 0, none⟩)) (cb_1 := 2) hx76
    refine st_call (cx_call hc77 (ent_f hc77.fn rfl) hn0 (show Hp S0 σ0 _ ([Ch.ro 0 (Sl a7 r2.2.1 c8) r2.2.1, Ch.ro 0 (Sl (some ⟨b61, 0, none⟩) ([(5, 3), (2, 9)] : List (Int × Int)) 2) ([(5, 3), (2, 9)] : List (Int × Int))] ++ [Ch.ro 0 (Sl (some ⟨b61, 0, none⟩) ([(5, 3), (2, 9)] : List (Int × Int)) 2) ([(5, 3), (2, 9)] : List (Int × Int)), Ch.ro 0 (Sl a7 r2.2.1 c8) r2.2.1, Ch.ro n0 (Sl (some ⟨b61, 0, none⟩) ([(5, 3), (2, 9)] : List (Int × Int)) 2) ([(5, 3), (2, 9)] : List (Int × Int)), Ch.ro n0 (Sl a7 r2.2.1 c8) r2.2.1, Ch.own n0 n0 (Sl a68 r65 c69) r65, Ch.ro 0 (Sl a13 r10 c14) r10, Ch.ro n0 (Sl a13 r10 c14) r10, Ch.own n0 n0 (Sl a5 r2.1 c6) r2.1]) from (H.sel' [1, 0, 0, 1, 2, 3, 4, 5, 6, 7] rfl rfl))) wn ?_
    rintro _ σ80 ⟨_, ⟨a78, c79, rfl, rfl⟩, H, -⟩
    replace H : Hp S0 σ0 σ80 [Ch.own n0 n0 (Sl a78 r75 c79) r75, Ch.ro 0 (Sl (some ⟨b61, 0, none⟩) ([(5, 3), (2, 9)] : List (Int × Int)) 2) ([(5, 3), (2, 9)] : List (Int × Int)), Ch.ro 0 (Sl a7 r2.2.1 c8) r2.2.1, Ch.ro n0 (Sl (some ⟨b61, 0, none⟩) ([(5, 3), (2, 9)] : List (Int × Int)) 2) ([(5, 3), (2, 9)] : List (Int × Int)), Ch.ro n0 (Sl a7 r2.2.1 c8) r2.2.1, Ch.own n0 n0 (Sl a68 r65 c69) r65, Ch.ro 0 (Sl a13 r10 c14) r10, Ch.ro n0 (Sl a13 r10 c14) r10, Ch.own n0 n0 (Sl a5 r2.1 c6) r2.1] := H
    replace H : Hp S0 σ0 σ80 [Ch.own n0 n0 (Sl a78 r75 c79) r75, Ch.own n0 n0 (Sl a68 r65 c69) r65, Ch.own n0 n0 (Sl a5 r2.1 c6) r2.1] := H.sel' [0, 5, 8] rfl rfl
    refine st (v := (I r2.2.2)) (rv_move rfl) ?_
    obtain ⟨σ81, hw82, H, -⟩ := H.pub 2 rfl (Nat.le_refl _)
    rw [← hw82]; clear hw82
    obtain ⟨σ83, hw84, H, -⟩ := H.pub 1 rfl (Nat.le_refl _)
    rw [← hw84]; clear hw84
    replace H := H.roLow 1 0 rfl (Nat.zero_le _)
    replace H := H.roLow 1 0 rfl (Nat.zero_le _)
    obtain ⟨r85, hx86, h'⟩ := bind_some h
    clear h
    have h := h'; clear h'
    have hc87 := c_impl_MergeHits (aa_0 := a5) (ca_0 := c6) (ab_1 := a78) (cb_1 := c79) hx86
    refine st_call (cx_call hc87 (ent_f hc87.fn rfl) hn0 (show Hp S0 σ0 _ ([Ch.ro 0 (Sl a5 r2.1 c6) r2.1, Ch.ro 0 (Sl a78 r75 c79) r75] ++ [Ch.ro 0 (Sl a78 r75 c79) r75, Ch.ro 0 (Sl a5 r2.1 c6) r2.1, Ch.ro n0 (Sl a78 r75 c79) r75, Ch.ro n0 (Sl a5 r2.1 c6) r2.1, Ch.own n0 n0 (Sl a68 r65 c69) r65]) from (H.sel' [1, 0, 0, 1, 2, 3, 4] rfl rfl))) wn ?_
    rintro _ σ90 ⟨_, ⟨a88, c89, rfl, rfl⟩, H, -⟩
    replace H : Hp S0 σ0 σ90 [Ch.own n0 n0 (Sl a88 r85 c89) r85, Ch.ro 0 (Sl a78 r75 c79) r75, Ch.ro 0 (Sl a5 r2.1 c6) r2.1, Ch.ro n0 (Sl a78 r75 c79) r75, Ch.ro n0 (Sl a5 r2.1 c6) r2.1, Ch.own n0 n0 (Sl a68 r65 c69) r65] := H
    obtain ⟨σ91, hw92, H, -⟩ := H.pub 5 rfl (Nat.le_refl _)
    rw [← hw92]; clear hw92
    obtain ⟨σ93, hw94, H, -⟩ := H.pub 1 rfl (Nat.le_refl _)
    rw [← hw94]; clear hw94
    replace H := H.roLow 1 0 rfl (Nat.zero_le _)
    replace H := H.roLow 1 0 rfl (Nat.zero_le _)
    obtain ⟨r95, hx96, h'⟩ := bind_some h
    clear h
    have h := h'; clear h'
    have hc97 := c_laws_equalHits (aa_0 := a68) (ca_0 := c69) (ab_1 := a88) (cb_1 := c89) hx96
    refine st_call (cx_call hc97 (ent_f hc97.fn rfl) hn0 (show Hp S0 σ0 _ ([Ch.ro 0 (Sl a68 r65 c69) r65, Ch.ro 0 (Sl a88 r85 c89) r85] ++ [Ch.ro 0 (Sl a88 r85 c89) r85, Ch.ro 0 (Sl a68 r65 c69) r65, Ch.ro n0 (Sl a88 r85 c89) r85, Ch.ro n0 (Sl a68 r65 c69) r65, Ch.ro 0 (Sl a78 r75 c79) r75, Ch.ro 0 (Sl a5 r2.1 c6) r2.1, Ch.ro n0 (Sl a78 r75 c79) r75, Ch.ro n0 (Sl a5 r2.1 c6) r2.1]) from (H.sel' [1, 0, 0, 1, 2, 3, 4, 5, 6, 7] rfl rfl))) wn ?_
    rintro _ σ98 ⟨_, ⟨rfl, rfl⟩, H, -⟩
    replace H : Hp S0 σ0 σ98 [Ch.ro 0 (Sl a88 r85 c89) r85, Ch.ro 0 (Sl a68 r65 c69) r65, Ch.ro n0 (Sl a88 r85 c89) r85, Ch.ro n0 (Sl a68 r65 c69) r65, Ch.ro 0 (Sl a78 r75 c79) r75, Ch.ro 0 (Sl a5 r2.1 c6) r2.1, Ch.ro n0 (Sl a78 r75 c79) r75, Ch.ro n0 (Sl a5 r2.1 c6) r2.1] := H
    replace H : Hp S0 σ0 σ98 [] := H.sel' [] rfl rfl
    refine st (v := (B r95)) (rv_assign rfl) ?_
    refine w_end ?_
    refine q_then ?_
    refine c_ret ?_
    obtain rfl := Option.some.inj h
    exact fin_ret (v := (B r95)) (results_ok Try.results8 (res_tmp (v := (B r95)) rfl res_nil) rfl) ⟨rfl, rfl⟩ (H.sel' [] rfl rfl)

end Go.Vs
