/- The functions compute what their models say. -/
import Derived.Test.YtgokepoinohioaaKMoveToC1
set_option linter.unusedVariables false
set_option linter.unusedSimpArgs false
set_option maxRecDepth 20000
namespace Go.Vs
open Go Go.Proofs
attribute [local irreducible] Code.wp Code.wpIn wpList wpListIn wpQuiet Calls CallsIn

theorem c_laws_FnMoveTo {code_0 : List UInt8} {acode_0 : Option Addr} {ccode_0 : Nat} {r : Bool} (h : M.laws_FnMoveTo code_0 = some r) :
    Cal2 Try.prog 11 [(Sl acode_0 code_0 ccode_0)] [Ch.ro 0 (Sl acode_0 code_0 ccode_0) code_0] (fun n0 v L => v = (B r) ∧ L = []) := by
 refine cal2 (n := 87) Try.func11 rfl rfl rfl rfl ?_
 intro S0 σ0 n0 hn0 H
 unfold M.laws_FnMoveTo at h
 refine c_seq ?_
 refine rg ?_
 refine st (v := (B false)) (rv_assign rfl) ?_
 refine w_end ?_
 refine q_then ?_
 refine c_seq ?_
 refine c_seq ?_
 refine rg ?_
 refine st (v := (Sl acode_0 code_0 ccode_0)) (rv_move rfl) ?_
 refine st (v := (I (code_0.length : Int))) (rv_len Try.underlying22 rfl) ?_
 refine st (v := (B (decide (1048576 < (code_0.length : Int))))) (rv_gtr (a := (code_0.length : Int)) (b := 1048576) rfl rfl) ?_
 refine w_end ?_
 refine q_then ?_
 refine cd_cond (decide (1048576 < (code_0.length : Int))) rfl (fun hb1 => ?_) (fun hb1 => ?_)
 ·replace h := bif_t hb1 h
  refine c_seq ?_
  refine rg ?_
  refine st (v := (B true)) (rv_assign rfl) ?_
  refine w_end ?_
  refine q_then ?_
  refine c_ret ?_
  refine q_then_r ?_
  obtain rfl := Option.some.inj h
  exact fin_ret (v := (B true)) (results_ok Try.results11 (res_tmp (v := (B true)) rfl res_nil) rfl) ⟨rfl, rfl⟩ (H.sel' [] rfl rfl)
 ·replace h := bif_f hb1 h
  refine c_skip ?_
  refine q_then ?_
  refine c_seq ?_
  refine rg ?_
  refine st (v := (Sl acode_0 code_0 ccode_0)) (rv_move rfl) ?_
  obtain ⟨r2, hx3, h'⟩ := bind_some h
  clear h
  have h := h'; clear h'
  have hc4 := c_spec_DrawMoveTo (acode_0 := acode_0) (ccode_0 := ccode_0) hx3
  refine st_call (cx_call hc4 (ent_f hc4.fn rfl) hn0 (show Hp S0 σ0 _ ([Ch.ro 0 (Sl acode_0 code_0 ccode_0) code_0] ++ [Ch.ro 0 (Sl acode_0 code_0 ccode_0) code_0]) from (H.sel' [0, 0] rfl rfl))) wn ?_
  rintro _ σ9 ⟨_, ⟨a5, c6, a7, c8, rfl, rfl⟩, H, -⟩
  replace H : Hp S0 σ0 σ9 [Ch.own n0 n0 (Sl a5 r2.1 c6) r2.1, Ch.own n0 n0 (Sl a7 r2.2.1 c8) r2.2.1, Ch.ro 0 (Sl acode_0 code_0 ccode_0) code_0] := H
  refine st (v := (.tuple #[(Sl a5 r2.1 c6), (Sl a7 r2.2.1 c8), (I r2.2.2)])) (rv_move rfl) ?_
  refine st (v := (Sl a5 r2.1 c6)) (rv_extract rfl rfl) ?_
  refine st (v := (Sl a7 r2.2.1 c8)) (rv_extract rfl rfl) ?_
  refine st (v := (I r2.2.2)) (rv_extract rfl rfl) ?_
  refine st (v := (Sl a5 r2.1 c6)) (rv_assign rfl) ?_
  refine st (v := (Sl a7 r2.2.1 c8)) (rv_assign rfl) ?_
  refine st (v := (I r2.2.2)) (rv_assign rfl) ?_
  refine w_end ?_
  refine q_then ?_
  refine c_seq ?_
  refine rg ?_
  refine st (v := (Sl a5 r2.1 c6)) (rv_move rfl) ?_
  refine st (v := (Sl a7 r2.2.1 c8)) (rv_move rfl) ?_
  refine st (v := (I r2.2.2)) (rv_move rfl) ?_
  obtain ⟨r10, hx11, h'⟩ := bind_some h
  clear h
  have h := h'; clear h'
  have hc12 := c_impl_MoveTo (aa_0 := a5) (ca_0 := c6) (ab_1 := a7) (cb_1 := c8) hx11
  have hle := Nat.le_trans hn0 H.size
  refine st_call (cx_lend (Loan.lend (Loan.lend Loan.nil)) hc12 (ent_f hc12.fn rfl) (show Hp S0 σ0 _ ([Ch.own n0 n0 (Sl a5 r2.1 c6) r2.1, Ch.own n0 n0 (Sl a7 r2.2.1 c8) r2.2.1] ++ ([] ++ [Ch.ro 0 (Sl acode_0 code_0 ccode_0) code_0])) from (H.sel' [0, 1, 2] rfl rfl)) (by rintro _ _ _ ⟨_, _, rfl, rfl, _⟩; exact ⟨Ab.ownSc, trivial⟩)) wn ?_
  rintro _ σ16 ⟨_, ⟨a13, c14, rfl, rfl, ht15⟩, H, -, -⟩
  replace H : Hp S0 σ0 σ16 [Ch.own σ9.size σ9.size (Sl a13 r10 c14) r10, Ch.own n0 n0 (Sl a5 r2.1 c6) r2.1, Ch.own n0 n0 (Sl a7 r2.2.1 c8) r2.2.1, Ch.ro 0 (Sl acode_0 code_0 ccode_0) code_0] := H
  replace H := H.ownLow 0 n0 n0 rfl hle hle
  clear hle
  replace H : Hp S0 σ0 σ16 [Ch.own n0 n0 (Sl a13 r10 c14) r10, Ch.own n0 n0 (Sl a5 r2.1 c6) r2.1, Ch.own n0 n0 (Sl a7 r2.2.1 c8) r2.2.1, Ch.ro 0 (Sl acode_0 code_0 ccode_0) code_0] := H
  refine st (v := (Sl a13 r10 c14)) (rv_assign rfl) ?_
  refine w_end ?_
  refine q_then ?_
  refine c_seq ?_
  refine c_seq ?_
  obtain ⟨o17, hj, h'⟩ := bind_some h
  clear h
  refine c_cut (fun e a w => e = .normal ∧ ∃ (ρ : Nat → Value) (σ : St), a = fr 87 (updL ρ [(3, (Sl a5 r2.1 c6)), (4, (Sl a7 r2.2.1 c8)), (5, (I r2.2.2)), (6, (Sl a13 r10 c14)), (32, (B o17))]) ∧ w = σ.w ∧ Hp S0 σ0 σ [Ch.own n0 n0 (Sl a5 r2.1 c6) r2.1, Ch.own n0 n0 (Sl a7 r2.2.1 c8) r2.2.1, Ch.own n0 n0 (Sl a13 r10 c14) r10]) ?_ ?_
  ·clear h'
   rename _ = some o17 => h
   refine rg ?_
   refine st (v := (Sl a13 r10 c14)) (rv_move rfl) ?_
   refine st (v := (Sl a5 r2.1 c6)) (rv_move rfl) ?_
   refine st (v := (Sl a7 r2.2.1 c8)) (rv_move rfl) ?_
   refine st (v := (I r2.2.2)) (rv_move rfl) ?_
   obtain ⟨r18, hx19, h'⟩ := bind_some h
   clear h
   have h := h'; clear h'
   have hc20 := c_spec_MoveTo (aa_0 := a5) (ca_0 := c6) (ab_1 := a7) (cb_1 := c8) hx19
   have hle := Nat.le_trans hn0 H.size
   refine st_call (cx_lend (Loan.lend (Loan.lend Loan.nil)) hc20 (ent_f hc20.fn rfl) (show Hp S0 σ0 _ ([Ch.own n0 n0 (Sl a5 r2.1 c6) r2.1, Ch.own n0 n0 (Sl a7 r2.2.1 c8) r2.2.1] ++ ([] ++ [Ch.own n0 n0 (Sl a13 r10 c14) r10, Ch.ro 0 (Sl acode_0 code_0 ccode_0) code_0])) from (H.sel' [1, 2, 0, 3] rfl rfl)) (by rintro _ _ _ ⟨_, _, rfl, rfl⟩; exact ⟨Ab.ownSc, trivial⟩)) wn ?_
   rintro _ σ23 ⟨_, ⟨a21, c22, rfl, rfl⟩, H, -, -⟩
   replace H : Hp S0 σ0 σ23 [Ch.own σ16.size σ16.size (Sl a21 r18 c22) r18, Ch.own n0 n0 (Sl a5 r2.1 c6) r2.1, Ch.own n0 n0 (Sl a7 r2.2.1 c8) r2.2.1, Ch.own n0 n0 (Sl a13 r10 c14) r10, Ch.ro 0 (Sl acode_0 code_0 ccode_0) code_0] := H
   replace H := H.ownLow 0 n0 n0 rfl hle hle
   clear hle
   replace H : Hp S0 σ0 σ23 [Ch.own n0 n0 (Sl a21 r18 c22) r18, Ch.own n0 n0 (Sl a5 r2.1 c6) r2.1, Ch.own n0 n0 (Sl a7 r2.2.1 c8) r2.2.1, Ch.own n0 n0 (Sl a13 r10 c14) r10, Ch.ro 0 (Sl acode_0 code_0 ccode_0) code_0] := H
   obtain ⟨σ24, hw25, H, -⟩ := H.pub 0 rfl (Nat.le_refl _)
   rw [← hw25]; clear hw25
   replace H := H.roLow 0 0 rfl (Nat.zero_le _)
   obtain ⟨r26, hx27, h'⟩ := bind_some h
   clear h
   have h := h'; clear h'
   have hc28 := c_laws_equalInts (aa_0 := a13) (ca_0 := c14) (ab_1 := a21) (cb_1 := c22) hx27
   have hle := Nat.le_trans hn0 H.size
   refine st_call (cx_lend (Loan.lend (Loan.same Loan.nil)) hc28 (ent_f hc28.fn rfl) (show Hp S0 σ0 _ ([Ch.own n0 n0 (Sl a13 r10 c14) r10] ++ ([Ch.ro 0 (Sl a21 r18 c22) r18] ++ [Ch.ro 0 (Sl a21 r18 c22) r18, Ch.ro n0 (Sl a21 r18 c22) r18, Ch.own n0 n0 (Sl a5 r2.1 c6) r2.1, Ch.own n0 n0 (Sl a7 r2.2.1 c8) r2.2.1, Ch.ro 0 (Sl acode_0 code_0 ccode_0) code_0])) from (H.sel' [4, 0, 0, 1, 2, 3, 5] rfl rfl)) (by rintro _ _ _ ⟨rfl, rfl⟩; exact trivial)) wn ?_
   rintro _ σ29 ⟨_, ⟨rfl, rfl⟩, H, -, -⟩
   replace H : Hp S0 σ0 σ29 [Ch.own n0 n0 (Sl a13 r10 c14) r10, Ch.ro 0 (Sl a21 r18 c22) r18, Ch.ro n0 (Sl a21 r18 c22) r18, Ch.own n0 n0 (Sl a5 r2.1 c6) r2.1, Ch.own n0 n0 (Sl a7 r2.2.1 c8) r2.2.1, Ch.ro 0 (Sl acode_0 code_0 ccode_0) code_0] := H
   clear hle
   replace H : Hp S0 σ0 σ29 [Ch.own n0 n0 (Sl a13 r10 c14) r10, Ch.ro 0 (Sl a21 r18 c22) r18, Ch.ro n0 (Sl a21 r18 c22) r18, Ch.own n0 n0 (Sl a5 r2.1 c6) r2.1, Ch.own n0 n0 (Sl a7 r2.2.1 c8) r2.2.1, Ch.ro 0 (Sl acode_0 code_0 ccode_0) code_0] := H
   refine st (v := (B (!r26))) (rv_not rfl) ?_
   refine st (v := (B (!r26))) (rv_move rfl) ?_
   rcases Bool.eq_false_or_eq_true (!r26) with hb30 | hb30
   ·replace h := bif_t hb30 h
    refine st_skip (congrArg some hb30) ?_
    refine st_skip (congrArg some hb30) ?_
    refine st_skip (congrArg some hb30) ?_
    refine st (v := (B true)) (rv_pick_t (congrArg B hb30) rfl) ?_
    refine w_end ?_
    obtain rfl := Option.some.inj h
    exact ⟨rfl, _, σ29, fr_join ⟨rfl, rfl, rfl, rfl, rfl, trivial⟩, rfl, H.sel' [3, 4, 0] rfl rfl⟩
   ·replace h := bif_f hb30 h
    refine st_g (v := (Sl a13 r10 c14)) (congrArg some hb30) (rv_move rfl) ?_
    refine st_g (v := (I (r10.length : Int))) (congrArg some hb30) (rv_len Try.underlying23 rfl) ?_
    refine st_g (v := (B ((r10.length : Int) == 0))) (congrArg some hb30) (rv_eql (a := (r10.length : Int)) (b := 0) rfl rfl) ?_
    refine st (v := (B ((r10.length : Int) == 0))) (rv_pick_f (congrArg B hb30) rfl) ?_
    refine w_end ?_
    obtain rfl := Option.some.inj h
    exact ⟨rfl, _, σ29, fr_join ⟨rfl, rfl, rfl, rfl, rfl, trivial⟩, rfl, H.sel' [3, 4, 0] rfl rfl⟩
  ·clear hj
   have h := h'
   clear h' H
   rintro e a w ⟨rfl, ρ, σ31, rfl, rfl, H⟩
   refine q_then ?_
   refine cd_cond o17 rfl (fun hb32 => ?_) (fun hb32 => ?_)
   ·replace h := bif_t hb32 h
    refine c_seq ?_
    refine rg ?_
    refine st (v := (Sl a13 r10 c14)) (rv_move rfl) ?_
    refine st (v := (Sl a5 r2.1 c6)) (rv_move rfl) ?_
    refine st (v := (Sl a7 r2.2.1 c8)) (rv_move rfl) ?_
    refine st (v := (I r2.2.2)) (rv_move rfl) ?_
    obtain ⟨σ33, hw34, H, -⟩ := H.pub 0 rfl (Nat.le_refl _)
    rw [← hw34]; clear hw34
    obtain ⟨σ35, hw36, H, -⟩ := H.pub 1 rfl (Nat.le_refl _)
    rw [← hw36]; clear hw36
    replace H := H.roLow 1 0 rfl (Nat.zero_le _)
    replace H := H.roLow 1 0 rfl (Nat.zero_le _)
    obtain ⟨r37, hx38, h'⟩ := bind_some h
    clear h
    have h := h'; clear h'
    have hc39 := c_spec_MoveTo (aa_0 := a5) (ca_0 := c6) (ab_1 := a7) (cb_1 := c8) hx38
    refine st_call (cx_call hc39 (ent_f hc39.fn rfl) hn0 (show Hp S0 σ0 _ ([Ch.ro 0 (Sl a5 r2.1 c6) r2.1, Ch.ro 0 (Sl a7 r2.2.1 c8) r2.2.1] ++ [Ch.ro 0 (Sl a7 r2.2.1 c8) r2.2.1, Ch.ro 0 (Sl a5 r2.1 c6) r2.1, Ch.ro n0 (Sl a7 r2.2.1 c8) r2.2.1, Ch.ro n0 (Sl a5 r2.1 c6) r2.1, Ch.own n0 n0 (Sl a13 r10 c14) r10]) from (H.sel' [1, 0, 0, 1, 2, 3, 4] rfl rfl))) wn ?_
    rintro _ σ42 ⟨_, ⟨a40, c41, rfl, rfl⟩, H, -⟩
    replace H : Hp S0 σ0 σ42 [Ch.own n0 n0 (Sl a40 r37 c41) r37, Ch.ro 0 (Sl a7 r2.2.1 c8) r2.2.1, Ch.ro 0 (Sl a5 r2.1 c6) r2.1, Ch.ro n0 (Sl a7 r2.2.1 c8) r2.2.1, Ch.ro n0 (Sl a5 r2.1 c6) r2.1, Ch.own n0 n0 (Sl a13 r10 c14) r10] := H
    obtain ⟨σ43, hw44, H, -⟩ := H.pub 5 rfl (Nat.le_refl _)
    rw [← hw44]; clear hw44
    obtain ⟨σ45, hw46, H, -⟩ := H.pub 1 rfl (Nat.le_refl _)
    rw [← hw46]; clear hw46
    replace H := H.roLow 1 0 rfl (Nat.zero_le _)
    replace H := H.roLow 1 0 rfl (Nat.zero_le _)
    obtain ⟨r47, hx48, h'⟩ := bind_some h
    clear h
    have h := h'; clear h'
    have hc49 := c_laws_equalInts (aa_0 := a13) (ca_0 := c14) (ab_1 := a40) (cb_1 := c41) hx48
    refine st_call (cx_call hc49 (ent_f hc49.fn rfl) hn0 (show Hp S0 σ0 _ ([Ch.ro 0 (Sl a13 r10 c14) r10, Ch.ro 0 (Sl a40 r37 c41) r37] ++ [Ch.ro 0 (Sl a40 r37 c41) r37, Ch.ro 0 (Sl a13 r10 c14) r10, Ch.ro n0 (Sl a40 r37 c41) r37, Ch.ro n0 (Sl a13 r10 c14) r10, Ch.ro 0 (Sl a7 r2.2.1 c8) r2.2.1, Ch.ro 0 (Sl a5 r2.1 c6) r2.1, Ch.ro n0 (Sl a7 r2.2.1 c8) r2.2.1, Ch.ro n0 (Sl a5 r2.1 c6) r2.1]) from (H.sel' [1, 0, 0, 1, 2, 3, 4, 5, 6, 7] rfl rfl))) wn ?_
    rintro _ σ50 ⟨_, ⟨rfl, rfl⟩, H, -⟩
    replace H : Hp S0 σ0 σ50 [Ch.ro 0 (Sl a40 r37 c41) r37, Ch.ro 0 (Sl a13 r10 c14) r10, Ch.ro n0 (Sl a40 r37 c41) r37, Ch.ro n0 (Sl a13 r10 c14) r10, Ch.ro 0 (Sl a7 r2.2.1 c8) r2.2.1, Ch.ro 0 (Sl a5 r2.1 c6) r2.1, Ch.ro n0 (Sl a7 r2.2.1 c8) r2.2.1, Ch.ro n0 (Sl a5 r2.1 c6) r2.1] := H
    replace H : Hp S0 σ0 σ50 [] := H.sel' [] rfl rfl
    refine st (v := (B r47)) (rv_assign rfl) ?_
    refine w_end ?_
    refine q_then ?_
    refine c_ret ?_
    refine q_then_r ?_
    obtain rfl := Option.some.inj h
    exact fin_ret (v := (B r47)) (results_ok Try.results11 (res_tmp (v := (B r47)) rfl res_nil) rfl) ⟨rfl, rfl⟩ (H.sel' [] rfl rfl)
   ·replace h := bif_f hb32 h
    refine c_skip ?_
    refine q_then ?_
    refine c_seq ?_
    refine c_seq ?_
    refine rg ?_
    refine st (v := (I 0)) (rv_assign rfl) ?_
    refine w_end ?_
    refine q_then ?_
    obtain ⟨o51, hj, h'⟩ := bind_some h
    clear h
    refine c_cut (fun e a w => (∃ t, o51 = (.inl t) ∧ e = .normal ∧ ∃ (ρ : Nat → Value) (σ : St), a = fr 87 (updL ρ [(3, (Sl a5 r2.1 c6)), (4, (Sl a7 r2.2.1 c8))]) ∧ w = σ.w ∧ Hp S0 σ0 σ [Ch.own n0 n0 (Sl a5 r2.1 c6) r2.1, Ch.own n0 n0 (Sl a7 r2.2.1 c8) r2.2.1]) ∨ (∃ t, o51 = (.inr t) ∧ e = .ret ∧ ∃ (ρ : Nat → Value) (σ : St), a = fr 87 (updL ρ [(2, (B t))]) ∧ w = σ.w ∧ Hp S0 σ0 σ [])) ?_ ?_
    ·clear h'
     rename _ = some o51 => h
     refine c_blk ?_
     refine wp_loopM _ h (fun s52 a w => ∃ (ρ : Nat → Value) (σ : St), a = fr 87 (updL ρ [(3, (Sl a5 r2.1 c6)), (4, (Sl a7 r2.2.1 c8)), (6, (Sl a13 r10 c14)), (7, (I s52))]) ∧ w = σ.w ∧ Hp S0 σ0 σ [Ch.own n0 n0 (Sl a5 r2.1 c6) r2.1, Ch.own n0 n0 (Sl a7 r2.2.1 c8) r2.2.1, Ch.own n0 n0 (Sl a13 r10 c14) r10]) ⟨_, σ31, fr_join ⟨rfl, rfl, rfl, rfl, trivial⟩, rfl, H.sel' [0, 1, 2] rfl rfl⟩ ?_
     clear h H
     rintro s52 a w o ⟨ρ, σ53, rfl, rfl, H⟩ h hres
     refine c_seq ?_
     refine c_seq ?_
     refine rg ?_
     refine st (v := (I s52)) (rv_move rfl) ?_
     refine st (v := (Sl a13 r10 c14)) (rv_move rfl) ?_
     refine st (v := (I (r10.length : Int))) (rv_len Try.underlying23 rfl) ?_
     refine st (v := (B (decide (s52 < (r10.length : Int))))) (rv_lss (a := s52) (b := (r10.length : Int)) rfl rfl) ?_
     refine w_end ?_
     refine q_then ?_
     refine cd_cond (decide (s52 < (r10.length : Int))) rfl (fun hb54 => ?_) (fun hb54 => ?_)
     ·replace h := bif_t hb54 h
      refine c_skip ?_
      refine q_then ?_
      refine c_seq ?_
      refine c_blk ?_
      refine c_seq ?_
      obtain ⟨o55, hj, h'⟩ := bind_some h
      clear h
      refine c_cut (fun e a w => e = .normal ∧ ∃ (ρ : Nat → Value) (σ : St), a = fr 87 (updL ρ [(3, (Sl a5 r2.1 c6)), (4, (Sl a7 r2.2.1 c8)), (6, (Sl a13 r10 c14)), (7, (I s52)), (74, (B o55))]) ∧ w = σ.w ∧ Hp S0 σ0 σ [Ch.own n0 n0 (Sl a5 r2.1 c6) r2.1, Ch.own n0 n0 (Sl a7 r2.2.1 c8) r2.2.1, Ch.own n0 n0 (Sl a13 r10 c14) r10]) ?_ ?_
      ·clear h'
       rename _ = some o55 => h
       refine rgP (σ := σ53) 28 (by kernel_rfl) (by kernel_rfl) (by kernel_rfl) ?_
       refine sq (v := (Sl a13 r10 c14)) (rv_move rfl) ?_
       refine sq (v := (I s52)) (rv_move rfl) ?_
       obtain ⟨x56, hx57, h'⟩ := bind_some h
       clear h
       have h := h'; clear h'
       obtain ⟨b59, o60, hi58, -⟩ := (H.own 2 rfl).ix hx57
       refine sq (v := (pt b59 o60)) (rv_ix Try.underlying23 ti3 rfl rfl hi58) ?_
       have hc61 := ((H.own 2 rfl).at hx57 hi58).int
       refine sq (v := (I x56)) (rv_load1 Try.underlying3 rfl rfl hc61) ?_
       refine sq (v := (Sl a5 r2.1 c6)) (rv_move rfl) ?_
       refine sq (v := (I s52)) (rv_move rfl) ?_
       obtain ⟨x62, hx63, h'⟩ := bind_some h
       clear h
       have h := h'; clear h'
       obtain ⟨b65, o66, hi64, -⟩ := (H.own 0 rfl).ix hx63
       refine sq (v := (pt b65 o66)) (rv_ix Try.underlying23 ti3 rfl rfl hi64) ?_
       have hc67 := ((H.own 0 rfl).at hx63 hi64).int
       refine sq (v := (I x62)) (rv_load1 Try.underlying3 rfl rfl hc67) ?_
       refine sq (v := (Sl a7 r2.2.1 c8)) (rv_move rfl) ?_
       refine sq (v := (I s52)) (rv_move rfl) ?_
       obtain ⟨x68, hx69, h'⟩ := bind_some h
       clear h
       have h := h'; clear h'
       obtain ⟨b71, o72, hi70, -⟩ := (H.own 1 rfl).ix hx69
       refine sq (v := (pt b71 o72)) (rv_ix Try.underlying23 ti3 rfl rfl hi70) ?_
       have hc73 := ((H.own 1 rfl).at hx69 hi70).int
       refine sq (v := (I x68)) (rv_load1 Try.underlying3 rfl rfl hc73) ?_
       refine sq (v := (I (min x62 x68))) (rv_min rfl rfl) ?_
       refine sq (v := (B (decide (x56 < (min x62 x68))))) (rv_lss (a := x56) (b := (min x62 x68)) rfl rfl) ?_
       refine sq (v := (B (decide (x56 < (min x62 x68))))) (rv_move rfl) ?_
       rcases Bool.eq_false_or_eq_true (decide (x56 < (min x62 x68))) with hb74 | hb74
       ·replace h := bif_t hb74 h
        refine sq_skip (congrArg some hb74) ?_
        refine sq_skip (congrArg some hb74) ?_
        refine sq_skip (congrArg some hb74) ?_
        refine sq_skip (congrArg some hb74) ?_
        refine sq_skip (congrArg some hb74) ?_
        refine sq_skip (congrArg some hb74) ?_
        refine sq_skip (congrArg some hb74) ?_
        refine sq_skip (congrArg some hb74) ?_
        refine sq_skip (congrArg some hb74) ?_
        refine sq_skip (congrArg some hb74) ?_
        refine sq_skip (congrArg some hb74) ?_
        refine sq_skip (congrArg some hb74) ?_
        refine sq_skip (congrArg some hb74) ?_
        refine sq_end ?_
        intro σ75 hm76
        replace H := H.grow (hm76.mono fun _ h => h); clear hm76
        refine st_skip (congrArg some hb74) ?_
        refine st (v := (B true)) (rv_pick_t (congrArg B hb74) rfl) ?_
        refine w_end ?_
        obtain rfl := Option.some.inj h
        exact ⟨rfl, _, σ75, fr_join ⟨rfl, rfl, rfl, rfl, rfl, trivial⟩, rfl, H.sel' [0, 1, 2] rfl rfl⟩
       ·replace h := bif_f hb74 h
        refine sq_g (v := (Sl a13 r10 c14)) (congrArg some hb74) (rv_move rfl) ?_
        refine sq_g (v := (I s52)) (congrArg some hb74) (rv_move rfl) ?_
        obtain ⟨x77, hx78, h'⟩ := bind_some h
        clear h
        have h := h'; clear h'
        obtain ⟨b80, o81, hi79, -⟩ := (H.own 2 rfl).ix hx78
        refine sq_g (v := (pt b80 o81)) (congrArg some hb74) (rv_ix Try.underlying23 ti3 rfl rfl hi79) ?_
        have hc82 := ((H.own 2 rfl).at hx78 hi79).int
        refine sq_g (v := (I x77)) (congrArg some hb74) (rv_load1 Try.underlying3 rfl rfl hc82) ?_
        refine sq_g (v := (Sl a5 r2.1 c6)) (congrArg some hb74) (rv_move rfl) ?_
        refine sq_g (v := (I s52)) (congrArg some hb74) (rv_move rfl) ?_
        obtain ⟨x83, hx84, h'⟩ := bind_some h
        clear h
        have h := h'; clear h'
        obtain ⟨b86, o87, hi85, -⟩ := (H.own 0 rfl).ix hx84
        refine sq_g (v := (pt b86 o87)) (congrArg some hb74) (rv_ix Try.underlying23 ti3 rfl rfl hi85) ?_
        have hc88 := ((H.own 0 rfl).at hx84 hi85).int
        refine sq_g (v := (I x83)) (congrArg some hb74) (rv_load1 Try.underlying3 rfl rfl hc88) ?_
        refine sq_g (v := (Sl a7 r2.2.1 c8)) (congrArg some hb74) (rv_move rfl) ?_
        refine sq_g (v := (I s52)) (congrArg some hb74) (rv_move rfl) ?_
        obtain ⟨x89, hx90, h'⟩ := bind_some h
        clear h
        have h := h'; clear h'
        obtain ⟨b92, o93, hi91, -⟩ := (H.own 1 rfl).ix hx90
        refine sq_g (v := (pt b92 o93)) (congrArg some hb74) (rv_ix Try.underlying23 ti3 rfl rfl hi91) ?_
        have hc94 := ((H.own 1 rfl).at hx90 hi91).int
        refine sq_g (v := (I x89)) (congrArg some hb74) (rv_load1 Try.underlying3 rfl rfl hc94) ?_
        refine sq_g (v := (I (max x83 x89))) (congrArg some hb74) (rv_max rfl rfl) ?_
        refine sq_end ?_
        intro σ95 hm96
        replace H := H.grow (hm96.mono fun _ h => h); clear hm96
        refine st_g (v := (B (decide ((max x83 x89) < x77)))) (congrArg some hb74) (rv_gtr (a := x77) (b := (max x83 x89)) rfl rfl) ?_
        refine st (v := (B (decide ((max x83 x89) < x77)))) (rv_pick_f (congrArg B hb74) rfl) ?_
        refine w_end ?_
        obtain rfl := Option.some.inj h
        exact ⟨rfl, _, σ95, fr_join ⟨rfl, rfl, rfl, rfl, rfl, trivial⟩, rfl, H.sel' [0, 1, 2] rfl rfl⟩
      ·clear hj
       have h := h'
       clear h' H
       rintro e a w ⟨rfl, ρ, σ97, rfl, rfl, H⟩
       refine q_then ?_
       refine cd_cond o55 rfl (fun hb98 => ?_) (fun hb98 => ?_)
       ·replace h := bif_t hb98 h
        refine c_seq ?_
        refine rg ?_
        refine st (v := (B false)) (rv_assign rfl) ?_
        refine w_end ?_
        refine q_then ?_
        refine c_ret ?_
        refine q_blk_r ?_
        refine q_then_r ?_
        refine q_then_r ?_
        refine q_blk_r ?_
        obtain rfl := Option.some.inj h
        obtain rfl := hres _ rfl
        exact .inr (⟨_, rfl, rfl, _, σ97, fr_join ⟨rfl, trivial⟩, rfl, H.sel' [] rfl rfl⟩)
       ·replace h := bif_f hb98 h
        refine c_skip ?_
        refine q_blk ?_
        refine q_then ?_
        refine rg ?_
        refine st (v := (I s52)) (rv_move rfl) ?_
        refine st (v := (I (w64 (s52 + 1)))) (rv_add (a := s52) (b := 1) rfl rfl) ?_
        refine st (v := (I (w64 (s52 + 1)))) (rv_assign rfl) ?_
        refine w_end ?_
        refine q_then ?_
        obtain rfl := Option.some.inj h
        exact ⟨_, rfl, _, σ97, fr_join ⟨rfl, rfl, rfl, rfl, trivial⟩, rfl, H.sel' [0, 1, 2] rfl rfl⟩
     ·replace h := bif_f hb54 h
      refine c_exit ?_
      refine q_then_x ?_
      refine q_then_x ?_
      refine q_blk_hit ?_
      obtain rfl := Option.some.inj h
      obtain rfl := hres _ rfl
      exact .inl ⟨_, rfl, rfl, _, σ53, fr_join ⟨rfl, rfl, trivial⟩, rfl, H.sel' [0, 1] rfl rfl⟩
    ·clear hj
     have h := h'
     clear h' H
     rintro e a w (⟨t99, rfl, rfl, ρ, σ100, rfl, rfl, H⟩ | ⟨t132, rfl, rfl, ρ, σ133, rfl, rfl, H⟩)
     ·replace h := selim_l h
      refine q_then ?_
      refine c_seq ?_
      refine rg ?_
      refine st (v := (Sl a5 r2.1 c6)) (rv_move rfl) ?_
      refine st (v := (Sl a7 r2.2.1 c8)) (rv_move rfl) ?_
      obtain ⟨r101, hx102, h'⟩ := bind_some h
      clear h
      have h := h'; clear h'
      have hc103 := c_impl_MoveTo (aa_0 := a5) (ca_0 := c6) (ab_1 := a7) (cb_1 := c8) hx102
      have hle := Nat.le_trans hn0 H.size
      refine st_call (cx_lend (Loan.lend (Loan.lend Loan.nil)) hc103 (ent_f hc103.fn rfl) (show Hp S0 σ0 _ ([Ch.own n0 n0 (Sl a5 r2.1 c6) r2.1, Ch.own n0 n0 (Sl a7 r2.2.1 c8) r2.2.1] ++ ([] ++ [])) from (H.sel' [0, 1] rfl rfl)) (by rintro _ _ _ ⟨_, _, rfl, rfl, _⟩; exact ⟨Ab.ownSc, trivial⟩)) wn ?_
      rintro _ σ107 ⟨_, ⟨a104, c105, rfl, rfl, ht106⟩, H, -, -⟩
      replace H : Hp S0 σ0 σ107 [Ch.own σ100.size σ100.size (Sl a104 r101 c105) r101, Ch.own n0 n0 (Sl a5 r2.1 c6) r2.1, Ch.own n0 n0 (Sl a7 r2.2.1 c8) r2.2.1] := H
      replace H := H.ownLow 0 n0 n0 rfl hle hle
      clear hle
      replace H : Hp S0 σ0 σ107 [Ch.own n0 n0 (Sl a104 r101 c105) r101, Ch.own n0 n0 (Sl a5 r2.1 c6) r2.1, Ch.own n0 n0 (Sl a7 r2.2.1 c8) r2.2.1] := H
      refine st (v := (Sl a5 r2.1 c6)) (rv_move rfl) ?_
      obtain ⟨σ108, hw109, H, -⟩ := H.pub 0 rfl (Nat.le_refl _)
      rw [← hw109]; clear hw109
      replace H := H.roLow 0 0 rfl (Nat.zero_le _)
      obtain ⟨r110, hx111, h'⟩ := bind_some h
      clear h
      have h := h'; clear h'
      have hc112 := c_laws_equalInts (aa_0 := a104) (ca_0 := c105) (ab_1 := a5) (cb_1 := c6) hx111
      have hle := Nat.le_trans hn0 H.size
      refine st_call (cx_lend (Loan.same (Loan.lend Loan.nil)) hc112 (ent_f hc112.fn rfl) (show Hp S0 σ0 _ ([Ch.own n0 n0 (Sl a5 r2.1 c6) r2.1] ++ ([Ch.ro 0 (Sl a104 r101 c105) r101] ++ [Ch.ro 0 (Sl a104 r101 c105) r101, Ch.ro n0 (Sl a104 r101 c105) r101, Ch.own n0 n0 (Sl a7 r2.2.1 c8) r2.2.1])) from (H.sel' [2, 0, 0, 1, 3] rfl rfl)) (by rintro _ _ _ ⟨rfl, rfl⟩; exact trivial)) wn ?_
      rintro _ σ113 ⟨_, ⟨rfl, rfl⟩, H, -, -⟩
      replace H : Hp S0 σ0 σ113 [Ch.own n0 n0 (Sl a5 r2.1 c6) r2.1, Ch.ro 0 (Sl a104 r101 c105) r101, Ch.ro n0 (Sl a104 r101 c105) r101, Ch.own n0 n0 (Sl a7 r2.2.1 c8) r2.2.1] := H
      clear hle
      replace H : Hp S0 σ0 σ113 [Ch.own n0 n0 (Sl a5 r2.1 c6) r2.1, Ch.ro 0 (Sl a104 r101 c105) r101, Ch.ro n0 (Sl a104 r101 c105) r101, Ch.own n0 n0 (Sl a7 r2.2.1 c8) r2.2.1] := H
      refine st (v := (B r110)) (rv_move rfl) ?_
      rcases Bool.eq_false_or_eq_true r110 with hb114 | hb114
      ·replace h := bif_t hb114 h
       refine st_g (v := (Sl a5 r2.1 c6)) (congrArg some hb114) (rv_move rfl) ?_
       refine st_g (v := (Sl a7 r2.2.1 c8)) (congrArg some hb114) (rv_move rfl) ?_
       obtain ⟨σ115, hw116, H, -⟩ := H.pub 0 rfl (Nat.le_refl _)
       rw [← hw116]; clear hw116
       replace H := H.roLow 0 0 rfl (Nat.zero_le _)
       obtain ⟨r117, hx118, h'⟩ := bind_some h
       clear h
       have h := h'; clear h'
       have hc119 := c_impl_MoveTo (aa_0 := a5) (ca_0 := c6) (ab_1 := a7) (cb_1 := c8) hx118
       have hle := Nat.le_trans hn0 H.size
       refine st_call (cx_lend (Loan.same (Loan.lend Loan.nil)) hc119 (ent_f hc119.fn rfl) (show Hp S0 σ0 _ ([Ch.own n0 n0 (Sl a7 r2.2.1 c8) r2.2.1] ++ ([Ch.ro 0 (Sl a5 r2.1 c6) r2.1] ++ [Ch.ro 0 (Sl a5 r2.1 c6) r2.1, Ch.ro n0 (Sl a5 r2.1 c6) r2.1, Ch.ro 0 (Sl a104 r101 c105) r101, Ch.ro n0 (Sl a104 r101 c105) r101])) from (H.sel' [4, 0, 0, 1, 2, 3] rfl rfl)) (by rintro _ _ _ ⟨_, _, rfl, rfl, _⟩; exact ⟨Ab.ownSc, trivial⟩)) (wanted_yes rfl (by exact (congrArg some hb114))) ?_
       rintro _ σ123 ⟨_, ⟨a120, c121, rfl, rfl, ht122⟩, H, -, -⟩
       replace H : Hp S0 σ0 σ123 [Ch.own σ115.size σ115.size (Sl a120 r117 c121) r117, Ch.own n0 n0 (Sl a7 r2.2.1 c8) r2.2.1, Ch.ro 0 (Sl a5 r2.1 c6) r2.1, Ch.ro n0 (Sl a5 r2.1 c6) r2.1, Ch.ro 0 (Sl a104 r101 c105) r101, Ch.ro n0 (Sl a104 r101 c105) r101] := H
       replace H := H.ownLow 0 n0 n0 rfl hle hle
       clear hle
       replace H : Hp S0 σ0 σ123 [Ch.own n0 n0 (Sl a120 r117 c121) r117, Ch.own n0 n0 (Sl a7 r2.2.1 c8) r2.2.1, Ch.ro 0 (Sl a5 r2.1 c6) r2.1, Ch.ro n0 (Sl a5 r2.1 c6) r2.1, Ch.ro 0 (Sl a104 r101 c105) r101, Ch.ro n0 (Sl a104 r101 c105) r101] := H
       refine st_g (v := (Sl a7 r2.2.1 c8)) (congrArg some hb114) (rv_move rfl) ?_
       obtain ⟨σ124, hw125, H, -⟩ := H.pub 0 rfl (Nat.le_refl _)
       rw [← hw125]; clear hw125
       obtain ⟨σ126, hw127, H, -⟩ := H.pub 1 rfl (Nat.le_refl _)
       rw [← hw127]; clear hw127
       replace H := H.roLow 1 0 rfl (Nat.zero_le _)
       replace H := H.roLow 1 0 rfl (Nat.zero_le _)
       obtain ⟨r128, hx129, h'⟩ := bind_some h
       clear h
       have h := h'; clear h'
       have hc130 := c_laws_equalInts (aa_0 := a120) (ca_0 := c121) (ab_1 := a7) (cb_1 := c8) hx129
       refine st_call (cx_call hc130 (ent_f hc130.fn rfl) hn0 (show Hp S0 σ0 _ ([Ch.ro 0 (Sl a120 r117 c121) r117, Ch.ro 0 (Sl a7 r2.2.1 c8) r2.2.1] ++ [Ch.ro 0 (Sl a7 r2.2.1 c8) r2.2.1, Ch.ro 0 (Sl a120 r117 c121) r117, Ch.ro n0 (Sl a7 r2.2.1 c8) r2.2.1, Ch.ro n0 (Sl a120 r117 c121) r117, Ch.ro 0 (Sl a5 r2.1 c6) r2.1, Ch.ro n0 (Sl a5 r2.1 c6) r2.1, Ch.ro 0 (Sl a104 r101 c105) r101, Ch.ro n0 (Sl a104 r101 c105) r101]) from (H.sel' [1, 0, 0, 1, 2, 3, 4, 5, 6, 7] rfl rfl))) (wanted_yes rfl (by exact (congrArg some hb114))) ?_
       rintro _ σ131 ⟨_, ⟨rfl, rfl⟩, H, -⟩
       replace H : Hp S0 σ0 σ131 [Ch.ro 0 (Sl a7 r2.2.1 c8) r2.2.1, Ch.ro 0 (Sl a120 r117 c121) r117, Ch.ro n0 (Sl a7 r2.2.1 c8) r2.2.1, Ch.ro n0 (Sl a120 r117 c121) r117, Ch.ro 0 (Sl a5 r2.1 c6) r2.1, Ch.ro n0 (Sl a5 r2.1 c6) r2.1, Ch.ro 0 (Sl a104 r101 c105) r101, Ch.ro n0 (Sl a104 r101 c105) r101] := H
       replace H : Hp S0 σ0 σ131 [] := H.sel' [] rfl rfl
       refine st (v := (B r128)) (rv_pick_t (congrArg B hb114) rfl) ?_
       refine st (v := (B r128)) (rv_assign rfl) ?_
       refine w_end ?_
       refine q_then ?_
       refine c_ret ?_
       obtain rfl := Option.some.inj h
       exact fin_ret (v := (B r128)) (results_ok Try.results11 (res_tmp (v := (B r128)) rfl res_nil) rfl) ⟨rfl, rfl⟩ (H.sel' [] rfl rfl)
      ·replace h := bif_f hb114 h
       refine st_skip (congrArg some hb114) ?_
       refine st_skip (congrArg some hb114) ?_
       refine st_skip (congrArg some hb114) ?_
       refine st_skip (congrArg some hb114) ?_
       refine st_skip (congrArg some hb114) ?_
       refine st (v := (B false)) (rv_pick_f (congrArg B hb114) rfl) ?_
       refine st (v := (B false)) (rv_assign rfl) ?_
       refine w_end ?_
       refine q_then ?_
       refine c_ret ?_
       obtain rfl := Option.some.inj h
       exact fin_ret (v := (B false)) (results_ok Try.results11 (res_tmp (v := (B false)) rfl res_nil) rfl) ⟨rfl, rfl⟩ (H.sel' [] rfl rfl)
     ·replace h := selim_r h
      refine q_then_r ?_
      obtain rfl := Option.some.inj h
      exact fin_ret (v := (B t132)) (results_ok Try.results11 (res_tmp (v := (B t132)) rfl res_nil) rfl) ⟨rfl, rfl⟩ (H.sel' [] rfl rfl)

end Go.Vs
