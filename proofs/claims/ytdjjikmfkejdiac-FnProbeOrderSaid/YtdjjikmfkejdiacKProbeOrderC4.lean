/- The functions compute what their models say. -/
import Derived.Test.YtdjjikmfkejdiacKProbeOrderC3
set_option linter.unusedVariables false
set_option linter.unusedSimpArgs false
set_option maxRecDepth 20000
namespace Go.Vs
open Go Go.Proofs
attribute [local irreducible] Code.wp Code.wpIn wpList wpListIn wpQuiet Calls CallsIn

theorem c_laws_FnProbeOrder {code_0 : List UInt8} {acode_0 : Option Addr} {ccode_0 : Nat} {r : Bool} (h : M.laws_FnProbeOrder code_0 = some r) :
    Cal2 Try.prog 7 [(Sl acode_0 code_0 ccode_0)] [Ch.ro 0 (Sl acode_0 code_0 ccode_0) code_0] (fun n0 v L => v = (B r) ∧ L = []) := by
 refine cal2 (n := 102) Try.func7 rfl rfl rfl rfl ?_
 intro S0 σ0 n0 hn0 H
 unfold M.laws_FnProbeOrder at h
 refine c_seq ?_
 refine rg ?_
 refine st (v := (B false)) (rv_assign rfl) ?_
 refine w_end ?_
 refine q_then ?_
 refine c_seq ?_
 refine c_seq ?_
 refine rg ?_
 refine st (v := (Sl acode_0 code_0 ccode_0)) (rv_move rfl) ?_
 refine st (v := (I (code_0.length : Int))) (rv_len Try.underlying22 rfl) ?_
 refine st (v := (B (decide (1048576 < (code_0.length : Int))))) (rv_gtr (a := (code_0.length : Int)) (b := 1048576) rfl rfl) ?_
 refine w_end ?_
 refine q_then ?_
 refine cd_cond (decide (1048576 < (code_0.length : Int))) rfl (fun hb1 => ?_) (fun hb1 => ?_)
 ·replace h := bif_t hb1 h
  refine c_seq ?_
  refine rg ?_
  refine st (v := (B true)) (rv_assign rfl) ?_
  refine w_end ?_
  refine q_then ?_
  refine c_ret ?_
  refine q_then_r ?_
  obtain rfl := Option.some.inj h
  exact fin_ret (v := (B true)) (results_ok Try.results7 (res_tmp (v := (B true)) rfl res_nil) rfl) ⟨rfl, rfl⟩ (H.sel' [] rfl rfl)
 ·replace h := bif_f hb1 h
  refine c_skip ?_
  refine q_then ?_
  refine c_seq ?_
  refine rg ?_
  refine st (v := (Sl acode_0 code_0 ccode_0)) (rv_move rfl) ?_
  obtain ⟨r2, hx3, h'⟩ := bind_some h
  clear h
  have h := h'; clear h'
  have hc4 := c_spec_DrawProbeOrder (acode_0 := acode_0) (ccode_0 := ccode_0) hx3
  refine st_call (cx_call hc4 (ent_f hc4.fn rfl) hn0 (show Hp S0 σ0 _ ([Ch.ro 0 (Sl acode_0 code_0 ccode_0) code_0] ++ [Ch.ro 0 (Sl acode_0 code_0 ccode_0) code_0]) from (H.sel' [0, 0] rfl rfl))) wn ?_
  rintro _ σ9 ⟨_, ⟨a5, c6, a7, c8, rfl, rfl⟩, H, -⟩
  replace H : Hp S0 σ0 σ9 [Ch.own n0 n0 (Sl a5 r2.1 c6) r2.1, Ch.own n0 n0 (Sl a7 r2.2.1 c8) r2.2.1, Ch.ro 0 (Sl acode_0 code_0 ccode_0) code_0] := H
  refine st (v := (.tuple #[(Sl a5 r2.1 c6), (Sl a7 r2.2.1 c8), (I r2.2.2)])) (rv_move rfl) ?_
  refine st (v := (Sl a5 r2.1 c6)) (rv_extract rfl rfl) ?_
  refine st (v := (Sl a7 r2.2.1 c8)) (rv_extract rfl rfl) ?_
  refine st (v := (I r2.2.2)) (rv_extract rfl rfl) ?_
  refine st (v := (Sl a5 r2.1 c6)) (rv_assign rfl) ?_
  refine st (v := (Sl a7 r2.2.1 c8)) (rv_assign rfl) ?_
  refine st (v := (I r2.2.2)) (rv_assign rfl) ?_
  refine w_end ?_
  refine q_then ?_
  refine c_seq ?_
  refine rg ?_
  refine st (v := (Sl a5 r2.1 c6)) (rv_move rfl) ?_
  refine st (v := (Sl a7 r2.2.1 c8)) (rv_move rfl) ?_
  refine st (v := (I r2.2.2)) (rv_move rfl) ?_
  obtain ⟨r10, hx11, h'⟩ := bind_some h
  clear h
  have h := h'; clear h'
  have hc12 := c_impl_ProbeOrder (acentres_0 := a5) (ccentres_0 := c6) (aat_1 := a7) (cat_1 := c8) hx11
  have hle := Nat.le_trans hn0 H.size
  refine st_call (cx_lend (Loan.lend (Loan.lend Loan.nil)) hc12 (ent_f hc12.fn rfl) (show Hp S0 σ0 _ ([Ch.own n0 n0 (Sl a5 r2.1 c6) r2.1, Ch.own n0 n0 (Sl a7 r2.2.1 c8) r2.2.1] ++ ([] ++ [Ch.ro 0 (Sl acode_0 code_0 ccode_0) code_0])) from (H.sel' [0, 1, 2] rfl rfl)) (by rintro _ _ _ ⟨_, _, rfl, rfl⟩; exact ⟨Ab.ownSc, trivial⟩)) wn ?_
  rintro _ σ15 ⟨_, ⟨a13, c14, rfl, rfl⟩, H, -, -⟩
  replace H : Hp S0 σ0 σ15 [Ch.own 0 σ9.size (Sl a13 r10 c14) r10, Ch.own n0 n0 (Sl a5 r2.1 c6) r2.1, Ch.own n0 n0 (Sl a7 r2.2.1 c8) r2.2.1, Ch.ro 0 (Sl acode_0 code_0 ccode_0) code_0] := H
  replace H := H.ownLow 0 0 n0 rfl (Nat.le_refl _) hle
  clear hle
  replace H : Hp S0 σ0 σ15 [Ch.own 0 n0 (Sl a13 r10 c14) r10, Ch.own n0 n0 (Sl a5 r2.1 c6) r2.1, Ch.own n0 n0 (Sl a7 r2.2.1 c8) r2.2.1, Ch.ro 0 (Sl acode_0 code_0 ccode_0) code_0] := H
  refine st (v := (Sl a13 r10 c14)) (rv_assign rfl) ?_
  refine w_end ?_
  refine q_then ?_
  refine c_seq ?_
  refine c_seq ?_
  obtain ⟨o16, hj, h'⟩ := bind_some h
  clear h
  refine c_cut (fun e a w => e = .normal ∧ ∃ (ρ : Nat → Value) (σ : St), a = fr 102 (updL ρ [(3, (Sl a5 r2.1 c6)), (4, (Sl a7 r2.2.1 c8)), (5, (I r2.2.2)), (6, (Sl a13 r10 c14)), (34, (B o16))]) ∧ w = σ.w ∧ Hp S0 σ0 σ [Ch.own n0 n0 (Sl a5 r2.1 c6) r2.1, Ch.own n0 n0 (Sl a7 r2.2.1 c8) r2.2.1, Ch.own 0 n0 (Sl a13 r10 c14) r10]) ?_ ?_
  ·clear h'
   rename _ = some o16 => h
   refine rg ?_
   refine st (v := (Sl a13 r10 c14)) (rv_move rfl) ?_
   refine st (v := (Sl a5 r2.1 c6)) (rv_move rfl) ?_
   refine st (v := (Sl a7 r2.2.1 c8)) (rv_move rfl) ?_
   refine st (v := (I r2.2.2)) (rv_move rfl) ?_
   obtain ⟨r17, hx18, h'⟩ := bind_some h
   clear h
   have h := h'; clear h'
   have hc19 := c_spec_ProbeOrder (acentres_0 := a5) (ccentres_0 := c6) (aat_1 := a7) (cat_1 := c8) hx18
   have hle := Nat.le_trans hn0 H.size
   refine st_call (cx_lend (Loan.lend (Loan.lend Loan.nil)) hc19 (ent_f hc19.fn rfl) (show Hp S0 σ0 _ ([Ch.own n0 n0 (Sl a5 r2.1 c6) r2.1, Ch.own n0 n0 (Sl a7 r2.2.1 c8) r2.2.1] ++ ([] ++ [Ch.own 0 n0 (Sl a13 r10 c14) r10, Ch.ro 0 (Sl acode_0 code_0 ccode_0) code_0])) from (H.sel' [1, 2, 0, 3] rfl rfl)) (by rintro _ _ _ ⟨_, _, rfl, rfl⟩; exact ⟨Ab.ownSc, trivial⟩)) wn ?_
   rintro _ σ22 ⟨_, ⟨a20, c21, rfl, rfl⟩, H, -, -⟩
   replace H : Hp S0 σ0 σ22 [Ch.own σ15.size σ15.size (Sl a20 r17 c21) r17, Ch.own n0 n0 (Sl a5 r2.1 c6) r2.1, Ch.own n0 n0 (Sl a7 r2.2.1 c8) r2.2.1, Ch.own 0 n0 (Sl a13 r10 c14) r10, Ch.ro 0 (Sl acode_0 code_0 ccode_0) code_0] := H
   replace H := H.ownLow 0 n0 n0 rfl hle hle
   clear hle
   replace H : Hp S0 σ0 σ22 [Ch.own n0 n0 (Sl a20 r17 c21) r17, Ch.own n0 n0 (Sl a5 r2.1 c6) r2.1, Ch.own n0 n0 (Sl a7 r2.2.1 c8) r2.2.1, Ch.own 0 n0 (Sl a13 r10 c14) r10, Ch.ro 0 (Sl acode_0 code_0 ccode_0) code_0] := H
   obtain ⟨σ23, hw24, H, -⟩ := H.pub 0 rfl (Nat.le_refl _)
   rw [← hw24]; clear hw24
   replace H := H.roLow 0 0 rfl (Nat.zero_le _)
   obtain ⟨r25, hx26, h'⟩ := bind_some h
   clear h
   have h := h'; clear h'
   have hc27 := c_laws_equalInts (aa_0 := a13) (ca_0 := c14) (ab_1 := a20) (cb_1 := c21) hx26
   have hle := Nat.le_trans hn0 H.size
   refine st_call (cx_lend (Loan.lend (Loan.same Loan.nil)) hc27 (ent_f hc27.fn rfl) (show Hp S0 σ0 _ ([Ch.own 0 n0 (Sl a13 r10 c14) r10] ++ ([Ch.ro 0 (Sl a20 r17 c21) r17] ++ [Ch.ro 0 (Sl a20 r17 c21) r17, Ch.ro n0 (Sl a20 r17 c21) r17, Ch.own n0 n0 (Sl a5 r2.1 c6) r2.1, Ch.own n0 n0 (Sl a7 r2.2.1 c8) r2.2.1, Ch.ro 0 (Sl acode_0 code_0 ccode_0) code_0])) from (H.sel' [4, 0, 0, 1, 2, 3, 5] rfl rfl)) (by rintro _ _ _ ⟨rfl, rfl⟩; exact trivial)) wn ?_
   rintro _ σ28 ⟨_, ⟨rfl, rfl⟩, H, -, -⟩
   replace H : Hp S0 σ0 σ28 [Ch.own 0 n0 (Sl a13 r10 c14) r10, Ch.ro 0 (Sl a20 r17 c21) r17, Ch.ro n0 (Sl a20 r17 c21) r17, Ch.own n0 n0 (Sl a5 r2.1 c6) r2.1, Ch.own n0 n0 (Sl a7 r2.2.1 c8) r2.2.1, Ch.ro 0 (Sl acode_0 code_0 ccode_0) code_0] := H
   clear hle
   replace H : Hp S0 σ0 σ28 [Ch.own 0 n0 (Sl a13 r10 c14) r10, Ch.ro 0 (Sl a20 r17 c21) r17, Ch.ro n0 (Sl a20 r17 c21) r17, Ch.own n0 n0 (Sl a5 r2.1 c6) r2.1, Ch.own n0 n0 (Sl a7 r2.2.1 c8) r2.2.1, Ch.ro 0 (Sl acode_0 code_0 ccode_0) code_0] := H
   refine st (v := (B (!r25))) (rv_not rfl) ?_
   refine st (v := (B (!r25))) (rv_move rfl) ?_
   rcases Bool.eq_false_or_eq_true (!r25) with hb29 | hb29
   ·replace h := bif_t hb29 h
    refine st_skip (congrArg some hb29) ?_
    refine st_skip (congrArg some hb29) ?_
    refine st_skip (congrArg some hb29) ?_
    refine st (v := (B true)) (rv_pick_t (congrArg B hb29) rfl) ?_
    refine w_end ?_
    obtain rfl := Option.some.inj h
    exact ⟨rfl, _, σ28, fr_join ⟨rfl, rfl, rfl, rfl, rfl, trivial⟩, rfl, H.sel' [3, 4, 0] rfl rfl⟩
   ·replace h := bif_f hb29 h
    refine st_g (v := (Sl a13 r10 c14)) (congrArg some hb29) (rv_move rfl) ?_
    refine st_g (v := (I (r10.length : Int))) (congrArg some hb29) (rv_len Try.underlying29 rfl) ?_
    refine st_g (v := (B ((r10.length : Int) == 0))) (congrArg some hb29) (rv_eql (a := (r10.length : Int)) (b := 0) rfl rfl) ?_
    refine st (v := (B ((r10.length : Int) == 0))) (rv_pick_f (congrArg B hb29) rfl) ?_
    refine w_end ?_
    obtain rfl := Option.some.inj h
    exact ⟨rfl, _, σ28, fr_join ⟨rfl, rfl, rfl, rfl, rfl, trivial⟩, rfl, H.sel' [3, 4, 0] rfl rfl⟩
  ·clear hj
   have h := h'
   clear h' H
   rintro e a w ⟨rfl, ρ, σ30, rfl, rfl, H⟩
   refine q_then ?_
   refine cd_cond o16 rfl (fun hb31 => ?_) (fun hb31 => ?_)
   ·replace h := bif_t hb31 h
    refine c_seq ?_
    refine rg ?_
    refine st (v := (Sl a13 r10 c14)) (rv_move rfl) ?_
    refine st (v := (Sl a5 r2.1 c6)) (rv_move rfl) ?_
    refine st (v := (Sl a7 r2.2.1 c8)) (rv_move rfl) ?_
    refine st (v := (I r2.2.2)) (rv_move rfl) ?_
    obtain ⟨σ32, hw33, H, -⟩ := H.pub 0 rfl (Nat.le_refl _)
    rw [← hw33]; clear hw33
    obtain ⟨σ34, hw35, H, -⟩ := H.pub 1 rfl (Nat.le_refl _)
    rw [← hw35]; clear hw35
    replace H := H.roLow 1 0 rfl (Nat.zero_le _)
    replace H := H.roLow 1 0 rfl (Nat.zero_le _)
    obtain ⟨r36, hx37, h'⟩ := bind_some h
    clear h
    have h := h'; clear h'
    have hc38 := c_spec_ProbeOrder (acentres_0 := a5) (ccentres_0 := c6) (aat_1 := a7) (cat_1 := c8) hx37
    refine st_call (cx_call hc38 (ent_f hc38.fn rfl) hn0 (show Hp S0 σ0 _ ([Ch.ro 0 (Sl a5 r2.1 c6) r2.1, Ch.ro 0 (Sl a7 r2.2.1 c8) r2.2.1] ++ [Ch.ro 0 (Sl a7 r2.2.1 c8) r2.2.1, Ch.ro 0 (Sl a5 r2.1 c6) r2.1, Ch.ro n0 (Sl a7 r2.2.1 c8) r2.2.1, Ch.ro n0 (Sl a5 r2.1 c6) r2.1, Ch.own 0 n0 (Sl a13 r10 c14) r10]) from (H.sel' [1, 0, 0, 1, 2, 3, 4] rfl rfl))) wn ?_
    rintro _ σ41 ⟨_, ⟨a39, c40, rfl, rfl⟩, H, -⟩
    replace H : Hp S0 σ0 σ41 [Ch.own n0 n0 (Sl a39 r36 c40) r36, Ch.ro 0 (Sl a7 r2.2.1 c8) r2.2.1, Ch.ro 0 (Sl a5 r2.1 c6) r2.1, Ch.ro n0 (Sl a7 r2.2.1 c8) r2.2.1, Ch.ro n0 (Sl a5 r2.1 c6) r2.1, Ch.own 0 n0 (Sl a13 r10 c14) r10] := H
    replace H := H.ownLow 5 0 0 rfl (Nat.le_refl _) (Nat.zero_le _)
    obtain ⟨σ42, hw43, H, -⟩ := H.pub 0 rfl (Nat.le_refl _)
    rw [← hw43]; clear hw43
    obtain ⟨σ44, hw45, H, -⟩ := H.pub 1 rfl (Nat.le_refl _)
    rw [← hw45]; clear hw45
    replace H := H.roLow 0 0 rfl (Nat.zero_le _)
    obtain ⟨r46, hx47, h'⟩ := bind_some h
    clear h
    have h := h'; clear h'
    have hc48 := c_laws_equalInts (aa_0 := a13) (ca_0 := c14) (ab_1 := a39) (cb_1 := c40) hx47
    refine st_call (cx_call hc48 (ent_f hc48.fn rfl) hn0 (show Hp S0 σ0 _ ([Ch.ro 0 (Sl a13 r10 c14) r10, Ch.ro 0 (Sl a39 r36 c40) r36] ++ [Ch.ro 0 (Sl a39 r36 c40) r36, Ch.ro n0 (Sl a39 r36 c40) r36, Ch.ro 0 (Sl a13 r10 c14) r10, Ch.ro 0 (Sl a7 r2.2.1 c8) r2.2.1, Ch.ro 0 (Sl a5 r2.1 c6) r2.1, Ch.ro n0 (Sl a7 r2.2.1 c8) r2.2.1, Ch.ro n0 (Sl a5 r2.1 c6) r2.1]) from (H.sel' [2, 0, 0, 1, 2, 3, 4, 5, 6] rfl rfl))) wn ?_
    rintro _ σ49 ⟨_, ⟨rfl, rfl⟩, H, -⟩
    replace H : Hp S0 σ0 σ49 [Ch.ro 0 (Sl a39 r36 c40) r36, Ch.ro n0 (Sl a39 r36 c40) r36, Ch.ro 0 (Sl a13 r10 c14) r10, Ch.ro 0 (Sl a7 r2.2.1 c8) r2.2.1, Ch.ro 0 (Sl a5 r2.1 c6) r2.1, Ch.ro n0 (Sl a7 r2.2.1 c8) r2.2.1, Ch.ro n0 (Sl a5 r2.1 c6) r2.1] := H
    refine st (v := (B r46)) (rv_assign rfl) ?_
    refine w_end ?_
    refine q_then ?_
    refine c_ret ?_
    refine q_then_r ?_
    obtain rfl := Option.some.inj h
    exact fin_ret (v := (B r46)) (results_ok Try.results7 (res_tmp (v := (B r46)) rfl res_nil) rfl) ⟨rfl, rfl⟩ (H.sel' [] rfl rfl)
   ·replace h := bif_f hb31 h
    refine c_skip ?_
    refine q_then ?_
    refine c_seq ?_
    refine c_seq ?_
    refine rg ?_
    refine st (v := (I 1)) (rv_assign rfl) ?_
    refine w_end ?_
    refine q_then ?_
    obtain ⟨o50, hj, h'⟩ := bind_some h
    clear h
    refine c_cut (fun e a w => (∃ t, o50 = (.inl t) ∧ e = .normal ∧ ∃ (ρ : Nat → Value) (σ : St), a = fr 102 (updL ρ [(3, (Sl a5 r2.1 c6)), (4, (Sl a7 r2.2.1 c8)), (5, (I r2.2.2)), (6, (Sl a13 r10 c14))]) ∧ w = σ.w ∧ Hp S0 σ0 σ [Ch.own n0 n0 (Sl a5 r2.1 c6) r2.1, Ch.own n0 n0 (Sl a7 r2.2.1 c8) r2.2.1, Ch.own 0 n0 (Sl a13 r10 c14) r10]) ∨ (∃ t, o50 = (.inr t) ∧ e = .ret ∧ ∃ (ρ : Nat → Value) (σ : St), a = fr 102 (updL ρ [(2, (B t))]) ∧ w = σ.w ∧ Hp S0 σ0 σ [])) ?_ ?_
    ·clear h'
     rename _ = some o50 => h
     refine c_blk ?_
     refine wp_loopM _ h (fun s51 a w => ∃ (ρ : Nat → Value) (σ : St), a = fr 102 (updL ρ [(3, (Sl a5 r2.1 c6)), (4, (Sl a7 r2.2.1 c8)), (5, (I r2.2.2)), (6, (Sl a13 r10 c14)), (7, (I s51))]) ∧ w = σ.w ∧ Hp S0 σ0 σ [Ch.own n0 n0 (Sl a5 r2.1 c6) r2.1, Ch.own n0 n0 (Sl a7 r2.2.1 c8) r2.2.1, Ch.own 0 n0 (Sl a13 r10 c14) r10]) ⟨_, σ30, fr_join ⟨rfl, rfl, rfl, rfl, rfl, trivial⟩, rfl, H.sel' [0, 1, 2] rfl rfl⟩ ?_
     clear h H
     rintro s51 a w o ⟨ρ, σ52, rfl, rfl, H⟩ h hres
     refine c_seq ?_
     refine c_seq ?_
     refine rg ?_
     refine st (v := (I s51)) (rv_move rfl) ?_
     refine st (v := (Sl a13 r10 c14)) (rv_move rfl) ?_
     refine st (v := (I (r10.length : Int))) (rv_len Try.underlying29 rfl) ?_
     refine st (v := (B (decide (s51 < (r10.length : Int))))) (rv_lss (a := s51) (b := (r10.length : Int)) rfl rfl) ?_
     refine w_end ?_
     refine q_then ?_
     refine cd_cond (decide (s51 < (r10.length : Int))) rfl (fun hb53 => ?_) (fun hb53 => ?_)
     ·replace h := bif_t hb53 h
      refine c_skip ?_
      refine q_then ?_
      refine c_seq ?_
      refine c_blk ?_
      refine c_seq ?_
      refine rg ?_
      refine st (v := (Sl a5 r2.1 c6)) (rv_move rfl) ?_
      refine st (v := (Sl a13 r10 c14)) (rv_move rfl) ?_
      refine st (v := (I s51)) (rv_move rfl) ?_
      refine st (v := (I (w64 (s51 - 1)))) (rv_sub (a := s51) (b := 1) rfl rfl) ?_
      obtain ⟨x54, hx55, h'⟩ := bind_some h
      clear h
      have h := h'; clear h'
      obtain ⟨b57, o58, hi56, -⟩ := (H.own 2 rfl).ix hx55
      refine st (v := (pt b57 o58)) (rv_ix Try.underlying29 ti3 rfl rfl hi56) ?_
      have hc59 := ((H.own 2 rfl).at hx55 hi56).int
      refine st (v := (I x54)) (rv_load1 Try.underlying3 rfl rfl hc59) ?_
      obtain ⟨x60, hx61, h'⟩ := bind_some h
      clear h
      have h := h'; clear h'
      obtain ⟨b63, o64, hi62, -⟩ := (H.own 0 rfl).ix hx61
      refine st (v := (pt b63 o64)) (rv_ix Try.underlying23 ti29 rfl rfl hi62) ?_
      obtain ⟨v68, hc69, hR67⟩ := ((H.own 0 rfl).at hx61 hi62).slice
      obtain ⟨a65, c66, rfl⟩ := hR67.isSl
      replace H := H.add (d := Ch.ro n0 (Sl a65 x60 c66) x60) hR67 (fun _ h => h)
      clear hR67
      refine st (v := (Sl a65 x60 c66)) (rv_load1 Try.underlying29 rfl rfl hc69) ?_
      refine st (v := (Sl a7 r2.2.1 c8)) (rv_move rfl) ?_
      replace H := H.roLow 0 0 rfl (Nat.zero_le _)
      obtain ⟨r70, hx71, h'⟩ := bind_some h
      clear h
      have h := h'; clear h'
      have hc72 := c_impl_Distance (aa_1 := a65) (ca_1 := c66) (ab_2 := a7) (cb_2 := c8) hx71
      have hle := Nat.le_trans hn0 H.size
      refine st_call (cx_lend (Loan.same (Loan.lend Loan.nil)) hc72 (ent_f hc72.fn rfl) (show Hp S0 σ0 _ ([Ch.own n0 n0 (Sl a7 r2.2.1 c8) r2.2.1] ++ ([Ch.ro 0 (Sl a65 x60 c66) x60] ++ [Ch.ro 0 (Sl a65 x60 c66) x60, Ch.ro n0 (Sl a65 x60 c66) x60, Ch.own n0 n0 (Sl a5 r2.1 c6) r2.1, Ch.own 0 n0 (Sl a13 r10 c14) r10])) from (H.sel' [3, 0, 0, 1, 2, 4] rfl rfl)) (by rintro _ _ _ ⟨rfl, rfl⟩; exact trivial)) wn ?_
      rintro _ σ73 ⟨_, ⟨rfl, rfl⟩, H, -, -⟩
      replace H : Hp S0 σ0 σ73 [Ch.own n0 n0 (Sl a7 r2.2.1 c8) r2.2.1, Ch.ro 0 (Sl a65 x60 c66) x60, Ch.ro n0 (Sl a65 x60 c66) x60, Ch.own n0 n0 (Sl a5 r2.1 c6) r2.1, Ch.own 0 n0 (Sl a13 r10 c14) r10] := H
      clear hle
      replace H : Hp S0 σ0 σ73 [Ch.own n0 n0 (Sl a7 r2.2.1 c8) r2.2.1, Ch.ro 0 (Sl a65 x60 c66) x60, Ch.ro n0 (Sl a65 x60 c66) x60, Ch.own n0 n0 (Sl a5 r2.1 c6) r2.1, Ch.own 0 n0 (Sl a13 r10 c14) r10] := H
      refine st (v := (I r70)) (rv_assign rfl) ?_
      refine w_end ?_
      refine q_then ?_
      refine c_seq ?_
      refine rg ?_
      refine st (v := (Sl a5 r2.1 c6)) (rv_move rfl) ?_
      refine st (v := (Sl a13 r10 c14)) (rv_move rfl) ?_
      refine st (v := (I s51)) (rv_move rfl) ?_
      obtain ⟨x74, hx75, h'⟩ := bind_some h
      clear h
      have h := h'; clear h'
      obtain ⟨b77, o78, hi76, -⟩ := (H.own 4 rfl).ix hx75
      refine st (v := (pt b77 o78)) (rv_ix Try.underlying29 ti3 rfl rfl hi76) ?_
      have hc79 := ((H.own 4 rfl).at hx75 hi76).int
      refine st (v := (I x74)) (rv_load1 Try.underlying3 rfl rfl hc79) ?_
      obtain ⟨x80, hx81, h'⟩ := bind_some h
      clear h
      have h := h'; clear h'
      obtain ⟨b83, o84, hi82, -⟩ := (H.own 3 rfl).ix hx81
      refine st (v := (pt b83 o84)) (rv_ix Try.underlying23 ti29 rfl rfl hi82) ?_
      obtain ⟨v88, hc89, hR87⟩ := ((H.own 3 rfl).at hx81 hi82).slice
      obtain ⟨a85, c86, rfl⟩ := hR87.isSl
      replace H := H.add (d := Ch.ro n0 (Sl a85 x80 c86) x80) hR87 (fun _ h => h)
      clear hR87
      refine st (v := (Sl a85 x80 c86)) (rv_load1 Try.underlying29 rfl rfl hc89) ?_
      refine st (v := (Sl a7 r2.2.1 c8)) (rv_move rfl) ?_
      replace H := H.roLow 0 0 rfl (Nat.zero_le _)
      obtain ⟨r90, hx91, h'⟩ := bind_some h
      clear h
      have h := h'; clear h'
      have hc92 := c_impl_Distance (aa_1 := a85) (ca_1 := c86) (ab_2 := a7) (cb_2 := c8) hx91
      have hle := Nat.le_trans hn0 H.size
      refine st_call (cx_lend (Loan.same (Loan.lend Loan.nil)) hc92 (ent_f hc92.fn rfl) (show Hp S0 σ0 _ ([Ch.own n0 n0 (Sl a7 r2.2.1 c8) r2.2.1] ++ ([Ch.ro 0 (Sl a85 x80 c86) x80] ++ [Ch.ro 0 (Sl a85 x80 c86) x80, Ch.ro n0 (Sl a85 x80 c86) x80, Ch.ro 0 (Sl a65 x60 c66) x60, Ch.ro n0 (Sl a65 x60 c66) x60, Ch.own n0 n0 (Sl a5 r2.1 c6) r2.1, Ch.own 0 n0 (Sl a13 r10 c14) r10])) from (H.sel' [2, 0, 0, 1, 3, 4, 5, 6] rfl rfl)) (by rintro _ _ _ ⟨rfl, rfl⟩; exact trivial)) wn ?_
      rintro _ σ93 ⟨_, ⟨rfl, rfl⟩, H, -, -⟩
      replace H : Hp S0 σ0 σ93 [Ch.own n0 n0 (Sl a7 r2.2.1 c8) r2.2.1, Ch.ro 0 (Sl a85 x80 c86) x80, Ch.ro n0 (Sl a85 x80 c86) x80, Ch.ro 0 (Sl a65 x60 c66) x60, Ch.ro n0 (Sl a65 x60 c66) x60, Ch.own n0 n0 (Sl a5 r2.1 c6) r2.1, Ch.own 0 n0 (Sl a13 r10 c14) r10] := H
      clear hle
      replace H : Hp S0 σ0 σ93 [Ch.own n0 n0 (Sl a7 r2.2.1 c8) r2.2.1, Ch.ro 0 (Sl a85 x80 c86) x80, Ch.ro n0 (Sl a85 x80 c86) x80, Ch.ro 0 (Sl a65 x60 c66) x60, Ch.ro n0 (Sl a65 x60 c66) x60, Ch.own n0 n0 (Sl a5 r2.1 c6) r2.1, Ch.own 0 n0 (Sl a13 r10 c14) r10] := H
      refine st (v := (I r90)) (rv_assign rfl) ?_
      refine w_end ?_
      refine q_then ?_
      refine c_seq ?_
      obtain ⟨o94, hj, h'⟩ := bind_some h
      clear h
      refine c_cut (fun e a w => e = .normal ∧ ∃ (ρ : Nat → Value) (σ : St), a = fr 102 (updL ρ [(3, (Sl a5 r2.1 c6)), (4, (Sl a7 r2.2.1 c8)), (5, (I r2.2.2)), (6, (Sl a13 r10 c14)), (7, (I s51)), (85, (B o94))]) ∧ w = σ.w ∧ Hp S0 σ0 σ [Ch.own n0 n0 (Sl a5 r2.1 c6) r2.1, Ch.own n0 n0 (Sl a7 r2.2.1 c8) r2.2.1, Ch.own 0 n0 (Sl a13 r10 c14) r10]) ?_ ?_
      ·clear h'
       rename _ = some o94 => h
       refine rgP (σ := σ93) 17 (by kernel_rfl) (by kernel_rfl) (by kernel_rfl) ?_
       refine sq (v := (I r70)) (rv_move rfl) ?_
       refine sq (v := (I r90)) (rv_move rfl) ?_
       refine sq (v := (B (decide (r90 < r70)))) (rv_gtr (a := r70) (b := r90) rfl rfl) ?_
       refine sq (v := (B (decide (r90 < r70)))) (rv_move rfl) ?_
       rcases Bool.eq_false_or_eq_true (decide (r90 < r70)) with hb95 | hb95
       ·replace h := bif_t hb95 h
        refine sq_skip (congrArg some hb95) ?_
        refine sq_skip (congrArg some hb95) ?_
        refine sq_skip (congrArg some hb95) ?_
        refine sq_skip (congrArg some hb95) ?_
        refine sq_skip_u rfl ?_
        refine sq_skip_u rfl ?_
        refine sq_skip_u rfl ?_
        refine sq_skip_u rfl ?_
        refine sq_skip_u rfl ?_
        refine sq_skip_u rfl ?_
        refine sq_skip_u rfl ?_
        refine sq_skip_u rfl ?_
        refine sq_skip_u rfl ?_
        refine sq_end ?_
        intro σ96 hm97
        replace H := H.grow (hm97.mono fun _ h => h); clear hm97
        refine st_skip_u rfl ?_
        refine st_skip (congrArg some hb95) ?_
        refine st (v := (B true)) (rv_pick_t (congrArg B hb95) rfl) ?_
        refine w_end ?_
        obtain rfl := Option.some.inj h
        exact ⟨rfl, _, σ96, fr_join ⟨rfl, rfl, rfl, rfl, rfl, rfl, trivial⟩, rfl, H.sel' [5, 0, 6] rfl rfl⟩
       ·replace h := bif_f hb95 h
        refine sq_g (v := (I r70)) (congrArg some hb95) (rv_move rfl) ?_
        refine sq_g (v := (I r90)) (congrArg some hb95) (rv_move rfl) ?_
        refine sq_g (v := (B (r70 == r90))) (congrArg some hb95) (rv_eql (a := r70) (b := r90) rfl rfl) ?_
        refine sq_g (v := (B (r70 == r90))) (congrArg some hb95) (rv_move rfl) ?_
        rcases Bool.eq_false_or_eq_true (r70 == r90) with hb98 | hb98
        ·replace h := bif_t hb98 h
         refine sq_g (v := (Sl a13 r10 c14)) (congrArg some hb98) (rv_move rfl) ?_
         refine sq_g (v := (I s51)) (congrArg some hb98) (rv_move rfl) ?_
         refine sq_g (v := (I (w64 (s51 - 1)))) (congrArg some hb98) (rv_sub (a := s51) (b := 1) rfl rfl) ?_
         obtain ⟨x99, hx100, h'⟩ := bind_some h
         clear h
         have h := h'; clear h'
         obtain ⟨b102, o103, hi101, -⟩ := (H.own 6 rfl).ix hx100
         refine sq_g (v := (pt b102 o103)) (congrArg some hb98) (rv_ix Try.underlying29 ti3 rfl rfl hi101) ?_
         have hc104 := ((H.own 6 rfl).at hx100 hi101).int
         refine sq_g (v := (I x99)) (congrArg some hb98) (rv_load1 Try.underlying3 rfl rfl hc104) ?_
         refine sq_g (v := (Sl a13 r10 c14)) (congrArg some hb98) (rv_move rfl) ?_
         refine sq_g (v := (I s51)) (congrArg some hb98) (rv_move rfl) ?_
         obtain ⟨x105, hx106, h'⟩ := bind_some h
         clear h
         have h := h'; clear h'
         obtain ⟨b108, o109, hi107, -⟩ := (H.own 6 rfl).ix hx106
         refine sq_g (v := (pt b108 o109)) (congrArg some hb98) (rv_ix Try.underlying29 ti3 rfl rfl hi107) ?_
         have hc110 := ((H.own 6 rfl).at hx106 hi107).int
         refine sq_g (v := (I x105)) (congrArg some hb98) (rv_load1 Try.underlying3 rfl rfl hc110) ?_
         refine sq_end ?_
         intro σ111 hm112
         replace H := H.grow (hm112.mono fun _ h => h); clear hm112
         refine st_g (v := (B (decide (x105 ≤ x99)))) (congrArg some hb98) (rv_geq (a := x99) (b := x105) rfl rfl) ?_
         refine st_g (v := (B (decide (x105 ≤ x99)))) (congrArg some hb95) (rv_pick_t (congrArg B hb98) rfl) ?_
         refine st (v := (B (decide (x105 ≤ x99)))) (rv_pick_f (congrArg B hb95) rfl) ?_
         refine w_end ?_
         obtain rfl := Option.some.inj h
         exact ⟨rfl, _, σ111, fr_join ⟨rfl, rfl, rfl, rfl, rfl, rfl, trivial⟩, rfl, H.sel' [5, 0, 6] rfl rfl⟩
        ·replace h := bif_f hb98 h
         refine sq_skip (congrArg some hb98) ?_
         refine sq_skip (congrArg some hb98) ?_
         refine sq_skip (congrArg some hb98) ?_
         refine sq_skip (congrArg some hb98) ?_
         refine sq_skip (congrArg some hb98) ?_
         refine sq_skip (congrArg some hb98) ?_
         refine sq_skip (congrArg some hb98) ?_
         refine sq_skip (congrArg some hb98) ?_
         refine sq_skip (congrArg some hb98) ?_
         refine sq_end ?_
         intro σ113 hm114
         replace H := H.grow (hm114.mono fun _ h => h); clear hm114
         refine st_skip (congrArg some hb98) ?_
         refine st_g (v := (B false)) (congrArg some hb95) (rv_pick_f (congrArg B hb98) rfl) ?_
         refine st (v := (B false)) (rv_pick_f (congrArg B hb95) rfl) ?_
         refine w_end ?_
         obtain rfl := Option.some.inj h
         exact ⟨rfl, _, σ113, fr_join ⟨rfl, rfl, rfl, rfl, rfl, rfl, trivial⟩, rfl, H.sel' [5, 0, 6] rfl rfl⟩
      ·clear hj
       have h := h'
       clear h' H
       rintro e a w ⟨rfl, ρ, σ115, rfl, rfl, H⟩
       refine q_then ?_
       refine cd_cond o94 rfl (fun hb116 => ?_) (fun hb116 => ?_)
       ·replace h := bif_t hb116 h
        refine c_seq ?_
        refine rg ?_
        refine st (v := (B false)) (rv_assign rfl) ?_
        refine w_end ?_
        refine q_then ?_
        refine c_ret ?_
        refine q_blk_r ?_
        refine q_then_r ?_
        refine q_then_r ?_
        refine q_blk_r ?_
        obtain rfl := Option.some.inj h
        obtain rfl := hres _ rfl
        exact .inr (⟨_, rfl, rfl, _, σ115, fr_join ⟨rfl, trivial⟩, rfl, H.sel' [] rfl rfl⟩)
       ·replace h := bif_f hb116 h
        refine c_skip ?_
        refine q_blk ?_
        refine q_then ?_
        refine rg ?_
        refine st (v := (I s51)) (rv_move rfl) ?_
        refine st (v := (I (w64 (s51 + 1)))) (rv_add (a := s51) (b := 1) rfl rfl) ?_
        refine st (v := (I (w64 (s51 + 1)))) (rv_assign rfl) ?_
        refine w_end ?_
        refine q_then ?_
        obtain rfl := Option.some.inj h
        exact ⟨_, rfl, _, σ115, fr_join ⟨rfl, rfl, rfl, rfl, rfl, trivial⟩, rfl, H.sel' [0, 1, 2] rfl rfl⟩
     ·replace h := bif_f hb53 h
      refine c_exit ?_
      refine q_then_x ?_
      refine q_then_x ?_
      refine q_blk_hit ?_
      obtain rfl := Option.some.inj h
      obtain rfl := hres _ rfl
      exact .inl ⟨_, rfl, rfl, _, σ52, fr_join ⟨rfl, rfl, rfl, rfl, trivial⟩, rfl, H.sel' [0, 1, 2] rfl rfl⟩
    ·clear hj
     have h := h'
     clear h' H
     rintro e a w (⟨t117, rfl, rfl, ρ, σ118, rfl, rfl, H⟩ | ⟨t135, rfl, rfl, ρ, σ136, rfl, rfl, H⟩)
     ·replace h := selim_l h
      refine q_then ?_
      refine c_seq ?_
      obtain ⟨σ119, hw120, H, -⟩ := H.pub 0 rfl (Nat.le_refl _)
      rw [← hw120]; clear hw120
      obtain ⟨σ121, hw122, H, -⟩ := H.pub 1 rfl (Nat.le_refl _)
      rw [← hw122]; clear hw122
      obtain ⟨x123, hx124, h'⟩ := bind_some h
      clear h
      have h := h'; clear h'
      obtain ⟨b126, o127, hi125, -⟩ := (H.own 2 rfl).ix hx124
      have hc128 := ((H.own 2 rfl).at hx124 hi125).int
      replace H := H.roLow 1 0 rfl (Nat.zero_le _)
      replace H := H.roLow 1 0 rfl (Nat.zero_le _)
      obtain ⟨r129, hx130, h'⟩ := bind_some h
      clear h
      have h := h'; clear h'
      have hc131 := c_impl_CentreOf (acentres_0 := a5) (ccentres_0 := c6) (aat_1 := a7) (cat_1 := c8) hx130
      rcases Bool.eq_false_or_eq_true (x123 == r129) with hb132 | hb132
      ·replace h := bif_t hb132 h
       have Hs := H
       refine rg2 (σ := σ121) (Nm := Unit) 14 [5] [[false], [true]] [[(0, 0), (1, 1)], [(0, 0), (1, 1)], [(0, 0), (1, 1)], [(0, 0)], [(0, 0)], [(0, 1)], [(1, 1)], [(1, 1)], [(1, 1)], [(1, 1)], [(1, 1)], [(1, 1)], [(1, 1)], [(1, 1)]] 1 [fun _ => fun σm => Hp S0 σ0 σm [Ch.ro 0 (Sl a7 r2.2.1 c8) r2.2.1, Ch.ro 0 (Sl a5 r2.1 c6) r2.1, Ch.ro n0 (Sl a7 r2.2.1 c8) r2.2.1, Ch.ro n0 (Sl a5 r2.1 c6) r2.1, Ch.own 0 n0 (Sl a13 r10 c14) r10] ∧ Md (cov []) σ121 σm, fun _ => fun σm => Hp S0 σ0 σm [Ch.ro 0 (Sl a7 r2.2.1 c8) r2.2.1, Ch.ro 0 (Sl a5 r2.1 c6) r2.1, Ch.ro n0 (Sl a7 r2.2.1 c8) r2.2.1, Ch.ro n0 (Sl a5 r2.1 c6) r2.1, Ch.own 0 n0 (Sl a13 r10 c14) r10] ∧ Md (cov []) σ121 σm] [fun _ => (Sl a13 r10 c14), fun _ => (pt b126 o127), fun _ => (I x123), fun _ => (Sl a5 r2.1 c6), fun _ => (Sl a7 r2.2.1 c8), fun _ => (I r129), fun _ => (B (x123 == r129)), fun _ => (B (x123 == r129)), fun _ => (Sl a13 r10 c14), fun _ => (I (r10.length : Int)), fun _ => (I r2.2.2), fun _ => (Sl a5 r2.1 c6), fun _ => (I (r2.1.length : Int)), fun _ => (I (min r2.2.2 (r2.1.length : Int)))] () (by kernel_rfl) (by kernel_rfl) ?_ ?_ ?_
       ·intro σm m0
        exact ⟨H.grow (m0.mono fun _ h => h.elim), m0⟩
       ·refine ac rfl (by
          intro k _nm ρ σm hJ hoff hdep
          have e6 := look_off (N := 102) (hoff 6 rfl) rfl
          exact dp_v (v := (Sl a13 r10 c14)) wn (rv_move e6) rfl hJ) ?_
        refine ac rfl (by
          intro k _nm ρ σm hJ hoff hdep
          have e86 := hdep 0 rfl rfl 86 rfl
          exact dp_v (v := (pt b126 o127)) wn (rv_ix Try.underlying29 ti3 e86 rfl hi125) rfl hJ) ?_
        refine all_cons (by
          refine ⟨?_, ?_⟩
          ·intro _nm ρ σm hJ hoff hdep
           have e87 := hdep 1 rfl rfl 87 rfl
           obtain ⟨H, m⟩ := id hJ
           have hc128 := ((H.own 4 rfl).at hx124 hi125).int
           exact dp_v (v := (I x123)) wn (rv_load1 Try.underlying3 rfl e87 hc128) rfl hJ
          refine ⟨?_, ?_⟩
          ·intro _nm ρ σm hJ hoff hdep
           have e87 := hdep 1 rfl rfl 87 rfl
           obtain ⟨H, m⟩ := id hJ
           have hc128 := ((H.own 4 rfl).at hx124 hi125).int
           exact dp_v (v := (I x123)) wn (rv_load1 Try.underlying3 rfl e87 hc128) rfl hJ
          trivial) ?_
        refine ac rfl (by
          intro k _nm ρ σm hJ hoff hdep
          have e3 := look_off (N := 102) (hoff 3 rfl) rfl
          exact dp_v (v := (Sl a5 r2.1 c6)) wn (rv_move e3) rfl hJ) ?_
        refine ac rfl (by
          intro k _nm ρ σm hJ hoff hdep
          have e4 := look_off (N := 102) (hoff 4 rfl) rfl
          exact dp_v (v := (Sl a7 r2.2.1 c8)) wn (rv_move e4) rfl hJ) ?_
        refine all_cons (by
          refine ⟨?_, ?_⟩
          ·intro _nm ρ σm hJ hoff hdep
           have e89 : look 102 ρ 89 = (Sl a5 r2.1 c6) := hdep 3 rfl rfl 89 rfl
           have e90 : look 102 ρ 90 = (Sl a7 r2.2.1 c8) := hdep 4 rfl rfl 90 rfl
           obtain ⟨H, m⟩ := id hJ
           refine dp_cx wn (cx_call hc131 (ent_f hc131.fn (by show [look 102 ρ 89, look 102 ρ 90] = _; rw [e89, e90])) hn0 (show Hp S0 σ0 _ ([Ch.ro 0 (Sl a5 r2.1 c6) r2.1, Ch.ro 0 (Sl a7 r2.2.1 c8) r2.2.1] ++ [Ch.ro 0 (Sl a7 r2.2.1 c8) r2.2.1, Ch.ro 0 (Sl a5 r2.1 c6) r2.1, Ch.ro n0 (Sl a7 r2.2.1 c8) r2.2.1, Ch.ro n0 (Sl a5 r2.1 c6) r2.1, Ch.own 0 n0 (Sl a13 r10 c14) r10]) from (H.sel' [1, 0, 0, 1, 2, 3, 4] rfl rfl))) ?_
           rintro _ σq ⟨_, ⟨rfl, rfl⟩, H2, m2⟩
           exact ⟨_, (), rfl, rfl, ⟨H2.sel' [0, 1, 2, 3, 4] rfl rfl, m.comp0 (m2.mono (fun i h => by simp [cov, Ch.ro] at h))⟩, stab [0, 1, 2, 3, 4] (by kernel_rfl) ⟨rfl, rfl, rfl, rfl, rfl, trivial⟩⟩
          trivial) ?_
        refine ac rfl (by
          intro k _nm ρ σm hJ hoff hdep
          have e88 := hdep 2 rfl rfl 88 rfl
          have e91 := hdep 5 rfl rfl 91 rfl
          exact dp_v (v := (B (x123 == r129))) wn (rv_eql (a := x123) (b := r129) e88 e91) rfl hJ) ?_
        refine ac rfl (by
          intro k _nm ρ σm hJ hoff hdep
          have e92 := hdep 6 rfl rfl 92 rfl
          exact dp_v (v := (B (x123 == r129))) wn (rv_move e92) rfl hJ) ?_
        refine ac rfl (by
          intro k _nm ρ σm hJ hoff hdep
          have e6 := look_off (N := 102) (hoff 6 rfl) rfl
          have e93 := hdep 7 rfl rfl 93 rfl
          exact dp_v (v := (Sl a13 r10 c14)) (wanted_yes rfl (yv_of rfl (e93.trans (congrArg B hb132)))) (rv_move e6) rfl hJ) ?_
        refine ac rfl (by
          intro k _nm ρ σm hJ hoff hdep
          have e94 := hdep 8 rfl rfl 94 rfl
          have e93 := hdep 7 rfl rfl 93 rfl
          exact dp_v (v := (I (r10.length : Int))) (wanted_yes rfl (yv_of rfl (e93.trans (congrArg B hb132)))) (rv_len Try.underlying29 e94) rfl hJ) ?_
        refine ac rfl (by
          intro k _nm ρ σm hJ hoff hdep
          have e5 := look_off (N := 102) (hoff 5 rfl) rfl
          have e93 := hdep 7 rfl rfl 93 rfl
          exact dp_v (v := (I r2.2.2)) (wanted_yes rfl (yv_of rfl (e93.trans (congrArg B hb132)))) (rv_move e5) rfl hJ) ?_
        refine ac rfl (by
          intro k _nm ρ σm hJ hoff hdep
          have e3 := look_off (N := 102) (hoff 3 rfl) rfl
          have e93 := hdep 7 rfl rfl 93 rfl
          exact dp_v (v := (Sl a5 r2.1 c6)) (wanted_yes rfl (yv_of rfl (e93.trans (congrArg B hb132)))) (rv_move e3) rfl hJ) ?_
        refine ac rfl (by
          intro k _nm ρ σm hJ hoff hdep
          have e97 := hdep 11 rfl rfl 97 rfl
          have e93 := hdep 7 rfl rfl 93 rfl
          exact dp_v (v := (I (r2.1.length : Int))) (wanted_yes rfl (yv_of rfl (e93.trans (congrArg B hb132)))) (rv_len Try.underlying23 e97) rfl hJ) ?_
        refine ac rfl (by
          intro k _nm ρ σm hJ hoff hdep
          have e96 := hdep 10 rfl rfl 96 rfl
          have e98 := hdep 12 rfl rfl 98 rfl
          have e93 := hdep 7 rfl rfl 93 rfl
          exact dp_v (v := (I (min r2.2.2 (r2.1.length : Int)))) (wanted_yes rfl (yv_of rfl (e93.trans (congrArg B hb132)))) (rv_min e96 e98) rfl hJ) ?_
        exact all_nil
       ·intro _nm ρ σ133 hJ hoff hrel
        have e93 := hrel 7 rfl 93 rfl
        have e95 := hrel 9 rfl 95 rfl
        have e99 := hrel 13 rfl 99 rfl
        obtain ⟨H, -⟩ := (show Hp S0 σ0 σ133 [Ch.ro 0 (Sl a7 r2.2.1 c8) r2.2.1, Ch.ro 0 (Sl a5 r2.1 c6) r2.1, Ch.ro n0 (Sl a7 r2.2.1 c8) r2.2.1, Ch.ro n0 (Sl a5 r2.1 c6) r2.1, Ch.own 0 n0 (Sl a13 r10 c14) r10] ∧ Md (cov []) σ121 σ133 from hJ)
        clear hJ Hs
        rw [fr_lookL (L := [(93, (B (x123 == r129))), (95, (I (r10.length : Int))), (99, (I (min r2.2.2 (r2.1.length : Int))))]) ⟨e93, e95, e99, trivial⟩]
        clear hoff hrel e93 e95 e99
        refine st_g (v := (B ((r10.length : Int) == (min r2.2.2 (r2.1.length : Int))))) (congrArg some hb132) (rv_eql (a := (r10.length : Int)) (b := (min r2.2.2 (r2.1.length : Int))) rfl rfl) ?_
        refine st (v := (B ((r10.length : Int) == (min r2.2.2 (r2.1.length : Int))))) (rv_pick_t (congrArg B hb132) rfl) ?_
        refine st (v := (B ((r10.length : Int) == (min r2.2.2 (r2.1.length : Int))))) (rv_assign rfl) ?_
        refine w_end ?_
        refine q_then ?_
        refine c_ret ?_
        obtain rfl := Option.some.inj h
        exact fin_ret (v := (B ((r10.length : Int) == (min r2.2.2 (r2.1.length : Int))))) (results_ok Try.results7 (res_tmp (v := (B ((r10.length : Int) == (min r2.2.2 (r2.1.length : Int))))) rfl res_nil) rfl) ⟨rfl, rfl⟩ (H.sel' [] rfl rfl)
      ·replace h := bif_f hb132 h
       have Hs := H
       refine rg2 (σ := σ121) (Nm := Unit) 14 [5] [[false], [true]] [[(0, 0), (1, 1)], [(0, 0), (1, 1)], [(0, 0), (1, 1)], [(0, 0)], [(0, 0)], [(0, 1)], [(1, 1)], [(1, 1)], [(1, 1)], [(1, 1)], [(1, 1)], [(1, 1)], [(1, 1)], [(1, 1)]] 1 [fun _ => fun σm => Hp S0 σ0 σm [Ch.ro 0 (Sl a7 r2.2.1 c8) r2.2.1, Ch.ro 0 (Sl a5 r2.1 c6) r2.1, Ch.ro n0 (Sl a7 r2.2.1 c8) r2.2.1, Ch.ro n0 (Sl a5 r2.1 c6) r2.1, Ch.own 0 n0 (Sl a13 r10 c14) r10] ∧ Md (cov []) σ121 σm, fun _ => fun σm => Hp S0 σ0 σm [Ch.ro 0 (Sl a7 r2.2.1 c8) r2.2.1, Ch.ro 0 (Sl a5 r2.1 c6) r2.1, Ch.ro n0 (Sl a7 r2.2.1 c8) r2.2.1, Ch.ro n0 (Sl a5 r2.1 c6) r2.1, Ch.own 0 n0 (Sl a13 r10 c14) r10] ∧ Md (cov []) σ121 σm] [fun _ => (Sl a13 r10 c14), fun _ => (pt b126 o127), fun _ => (I x123), fun _ => (Sl a5 r2.1 c6), fun _ => (Sl a7 r2.2.1 c8), fun _ => (I r129), fun _ => (B (x123 == r129)), fun _ => (B (x123 == r129)), fun _ => undef, fun _ => undef, fun _ => undef, fun _ => undef, fun _ => undef, fun _ => undef] () (by kernel_rfl) (by kernel_rfl) ?_ ?_ ?_
       ·intro σm m0
        exact ⟨H.grow (m0.mono fun _ h => h.elim), m0⟩
       ·refine ac rfl (by
          intro k _nm ρ σm hJ hoff hdep
          have e6 := look_off (N := 102) (hoff 6 rfl) rfl
          exact dp_v (v := (Sl a13 r10 c14)) wn (rv_move e6) rfl hJ) ?_
        refine ac rfl (by
          intro k _nm ρ σm hJ hoff hdep
          have e86 := hdep 0 rfl rfl 86 rfl
          exact dp_v (v := (pt b126 o127)) wn (rv_ix Try.underlying29 ti3 e86 rfl hi125) rfl hJ) ?_
        refine all_cons (by
          refine ⟨?_, ?_⟩
          ·intro _nm ρ σm hJ hoff hdep
           have e87 := hdep 1 rfl rfl 87 rfl
           obtain ⟨H, m⟩ := id hJ
           have hc128 := ((H.own 4 rfl).at hx124 hi125).int
           exact dp_v (v := (I x123)) wn (rv_load1 Try.underlying3 rfl e87 hc128) rfl hJ
          refine ⟨?_, ?_⟩
          ·intro _nm ρ σm hJ hoff hdep
           have e87 := hdep 1 rfl rfl 87 rfl
           obtain ⟨H, m⟩ := id hJ
           have hc128 := ((H.own 4 rfl).at hx124 hi125).int
           exact dp_v (v := (I x123)) wn (rv_load1 Try.underlying3 rfl e87 hc128) rfl hJ
          trivial) ?_
        refine ac rfl (by
          intro k _nm ρ σm hJ hoff hdep
          have e3 := look_off (N := 102) (hoff 3 rfl) rfl
          exact dp_v (v := (Sl a5 r2.1 c6)) wn (rv_move e3) rfl hJ) ?_
        refine ac rfl (by
          intro k _nm ρ σm hJ hoff hdep
          have e4 := look_off (N := 102) (hoff 4 rfl) rfl
          exact dp_v (v := (Sl a7 r2.2.1 c8)) wn (rv_move e4) rfl hJ) ?_
        refine all_cons (by
          refine ⟨?_, ?_⟩
          ·intro _nm ρ σm hJ hoff hdep
           have e89 : look 102 ρ 89 = (Sl a5 r2.1 c6) := hdep 3 rfl rfl 89 rfl
           have e90 : look 102 ρ 90 = (Sl a7 r2.2.1 c8) := hdep 4 rfl rfl 90 rfl
           obtain ⟨H, m⟩ := id hJ
           refine dp_cx wn (cx_call hc131 (ent_f hc131.fn (by show [look 102 ρ 89, look 102 ρ 90] = _; rw [e89, e90])) hn0 (show Hp S0 σ0 _ ([Ch.ro 0 (Sl a5 r2.1 c6) r2.1, Ch.ro 0 (Sl a7 r2.2.1 c8) r2.2.1] ++ [Ch.ro 0 (Sl a7 r2.2.1 c8) r2.2.1, Ch.ro 0 (Sl a5 r2.1 c6) r2.1, Ch.ro n0 (Sl a7 r2.2.1 c8) r2.2.1, Ch.ro n0 (Sl a5 r2.1 c6) r2.1, Ch.own 0 n0 (Sl a13 r10 c14) r10]) from (H.sel' [1, 0, 0, 1, 2, 3, 4] rfl rfl))) ?_
           rintro _ σq ⟨_, ⟨rfl, rfl⟩, H2, m2⟩
           exact ⟨_, (), rfl, rfl, ⟨H2.sel' [0, 1, 2, 3, 4] rfl rfl, m.comp0 (m2.mono (fun i h => by simp [cov, Ch.ro] at h))⟩, stab [0, 1, 2, 3, 4] (by kernel_rfl) ⟨rfl, rfl, rfl, rfl, rfl, trivial⟩⟩
          trivial) ?_
        refine ac rfl (by
          intro k _nm ρ σm hJ hoff hdep
          have e88 := hdep 2 rfl rfl 88 rfl
          have e91 := hdep 5 rfl rfl 91 rfl
          exact dp_v (v := (B (x123 == r129))) wn (rv_eql (a := x123) (b := r129) e88 e91) rfl hJ) ?_
        refine ac rfl (by
          intro k _nm ρ σm hJ hoff hdep
          have e92 := hdep 6 rfl rfl 92 rfl
          exact dp_v (v := (B (x123 == r129))) wn (rv_move e92) rfl hJ) ?_
        refine ac rfl (by
          intro k _nm ρ σm hJ hoff hdep
          have e93 := hdep 7 rfl rfl 93 rfl
          exact dp_skip (wanted_no rfl (yv_of rfl (e93.trans (congrArg B hb132)))) rfl hJ) ?_
        refine ac rfl (by
          intro k _nm ρ σm hJ hoff hdep
          have e93 := hdep 7 rfl rfl 93 rfl
          exact dp_skip (wanted_no rfl (yv_of rfl (e93.trans (congrArg B hb132)))) rfl hJ) ?_
        refine ac rfl (by
          intro k _nm ρ σm hJ hoff hdep
          have e93 := hdep 7 rfl rfl 93 rfl
          exact dp_skip (wanted_no rfl (yv_of rfl (e93.trans (congrArg B hb132)))) rfl hJ) ?_
        refine ac rfl (by
          intro k _nm ρ σm hJ hoff hdep
          have e93 := hdep 7 rfl rfl 93 rfl
          exact dp_skip (wanted_no rfl (yv_of rfl (e93.trans (congrArg B hb132)))) rfl hJ) ?_
        refine ac rfl (by
          intro k _nm ρ σm hJ hoff hdep
          have e93 := hdep 7 rfl rfl 93 rfl
          exact dp_skip (wanted_no rfl (yv_of rfl (e93.trans (congrArg B hb132)))) rfl hJ) ?_
        refine ac rfl (by
          intro k _nm ρ σm hJ hoff hdep
          have e93 := hdep 7 rfl rfl 93 rfl
          exact dp_skip (wanted_no rfl (yv_of rfl (e93.trans (congrArg B hb132)))) rfl hJ) ?_
        exact all_nil
       ·intro _nm ρ σ134 hJ hoff hrel
        have e93 := hrel 7 rfl 93 rfl
        have e95 := hrel 9 rfl 95 rfl
        have e99 := hrel 13 rfl 99 rfl
        obtain ⟨H, -⟩ := (show Hp S0 σ0 σ134 [Ch.ro 0 (Sl a7 r2.2.1 c8) r2.2.1, Ch.ro 0 (Sl a5 r2.1 c6) r2.1, Ch.ro n0 (Sl a7 r2.2.1 c8) r2.2.1, Ch.ro n0 (Sl a5 r2.1 c6) r2.1, Ch.own 0 n0 (Sl a13 r10 c14) r10] ∧ Md (cov []) σ121 σ134 from hJ)
        clear hJ Hs
        rw [fr_lookL (L := [(93, (B (x123 == r129))), (95, undef), (99, undef)]) ⟨e93, e95, e99, trivial⟩]
        clear hoff hrel e93 e95 e99
        refine st_skip (congrArg some hb132) ?_
        refine st (v := (B false)) (rv_pick_f (congrArg B hb132) rfl) ?_
        refine st (v := (B false)) (rv_assign rfl) ?_
        refine w_end ?_
        refine q_then ?_
        refine c_ret ?_
        obtain rfl := Option.some.inj h
        exact fin_ret (v := (B false)) (results_ok Try.results7 (res_tmp (v := (B false)) rfl res_nil) rfl) ⟨rfl, rfl⟩ (H.sel' [] rfl rfl)
     ·replace h := selim_r h
      refine q_then_r ?_
      obtain rfl := Option.some.inj h
      exact fin_ret (v := (B t135)) (results_ok Try.results7 (res_tmp (v := (B t135)) rfl res_nil) rfl) ⟨rfl, rfl⟩ (H.sel' [] rfl rfl)

end Go.Vs
