/- The functions compute what their models say. -/
import Derived.Test.YtgokepoinohioabKBoundsOfTightC2
set_option linter.unusedVariables false
set_option linter.unusedSimpArgs false
set_option maxRecDepth 20000
namespace Go.Vs
open Go Go.Proofs
attribute [local irreducible] Code.wp Code.wpIn wpList wpListIn wpQuiet Calls CallsIn

theorem c_laws_FnBoundsOfTight {code_0 : List UInt8} {acode_0 : Option Addr} {ccode_0 : Nat} {r : Bool} (h : M.laws_FnBoundsOfTight code_0 = some r) :
    Cal2 Try.prog 7 [(Sl acode_0 code_0 ccode_0)] [Ch.ro 0 (Sl acode_0 code_0 ccode_0) code_0] (fun n0 v L => v = (B r) ∧ L = []) := by
 refine cal2 (n := 111) Try.func7 rfl rfl rfl rfl ?_
 intro S0 σ0 n0 hn0 H
 unfold M.laws_FnBoundsOfTight at h
 refine c_seq ?_
 refine rg ?_
 refine st (v := (B false)) (rv_assign rfl) ?_
 refine w_end ?_
 refine q_then ?_
 refine c_seq ?_
 refine c_seq ?_
 refine rg ?_
 refine st (v := (Sl acode_0 code_0 ccode_0)) (rv_move rfl) ?_
 refine st (v := (I (code_0.length : Int))) (rv_len Try.underlying22 rfl) ?_
 refine st (v := (B (decide (1048576 < (code_0.length : Int))))) (rv_gtr (a := (code_0.length : Int)) (b := 1048576) rfl rfl) ?_
 refine w_end ?_
 refine q_then ?_
 refine cd_cond (decide (1048576 < (code_0.length : Int))) rfl (fun hb1 => ?_) (fun hb1 => ?_)
 ·replace h := bif_t hb1 h
  refine c_seq ?_
  refine rg ?_
  refine st (v := (B true)) (rv_assign rfl) ?_
  refine w_end ?_
  refine q_then ?_
  refine c_ret ?_
  refine q_then_r ?_
  obtain rfl := Option.some.inj h
  exact fin_ret (v := (B true)) (results_ok Try.results7 (res_tmp (v := (B true)) rfl res_nil) rfl) ⟨rfl, rfl⟩ (H.sel' [] rfl rfl)
 ·replace h := bif_f hb1 h
  refine c_skip ?_
  refine q_then ?_
  refine c_seq ?_
  refine rg ?_
  refine st (v := (Sl acode_0 code_0 ccode_0)) (rv_move rfl) ?_
  obtain ⟨r2, hx3, h'⟩ := bind_some h
  clear h
  have h := h'; clear h'
  have hc4 := c_spec_DrawBoundsOf (acode_0 := acode_0) (ccode_0 := ccode_0) hx3
  refine st_call (cx_call hc4 (ent_f hc4.fn rfl) hn0 (show Hp S0 σ0 _ ([Ch.ro 0 (Sl acode_0 code_0 ccode_0) code_0] ++ [Ch.ro 0 (Sl acode_0 code_0 ccode_0) code_0]) from (H.sel' [0, 0] rfl rfl))) wn ?_
  rintro _ σ7 ⟨_, ⟨a5, c6, rfl, rfl⟩, H, -⟩
  replace H : Hp S0 σ0 σ7 [Ch.own n0 n0 (Sl a5 r2 c6) r2, Ch.ro 0 (Sl acode_0 code_0 ccode_0) code_0] := H
  refine st (v := (Sl a5 r2 c6)) (rv_assign rfl) ?_
  refine w_end ?_
  refine q_then ?_
  refine c_seq ?_
  refine rg ?_
  refine st (v := (Sl a5 r2 c6)) (rv_move rfl) ?_
  obtain ⟨r8, hx9, h'⟩ := bind_some h
  clear h
  have h := h'; clear h'
  have hc10 := c_impl_BoundsOf (alist_0 := a5) (clist_0 := c6) hx9
  have hle := Nat.le_trans hn0 H.size
  refine st_call (cx_lend (Loan.lend Loan.nil) hc10 (ent_f hc10.fn rfl) (show Hp S0 σ0 _ ([Ch.own n0 n0 (Sl a5 r2 c6) r2] ++ ([] ++ [Ch.ro 0 (Sl acode_0 code_0 ccode_0) code_0])) from (H.sel' [0, 1] rfl rfl)) (by rintro _ _ _ ⟨_, _, _, _, rfl, rfl, _, _⟩; exact ⟨Ab.ownSc, Ab.ownSc, trivial⟩)) wn ?_
  rintro _ σ17 ⟨_, ⟨a11, c12, a14, c15, rfl, rfl, ht13, ht16⟩, H, -, -⟩
  replace H : Hp S0 σ0 σ17 [Ch.own σ7.size σ7.size (Sl a11 r8.1 c12) r8.1, Ch.own σ7.size σ7.size (Sl a14 r8.2.1 c15) r8.2.1, Ch.own n0 n0 (Sl a5 r2 c6) r2, Ch.ro 0 (Sl acode_0 code_0 ccode_0) code_0] := H
  replace H := H.ownLow 0 n0 n0 rfl hle hle
  replace H := H.ownLow 1 n0 n0 rfl hle hle
  clear hle
  replace H : Hp S0 σ0 σ17 [Ch.own n0 n0 (Sl a14 r8.2.1 c15) r8.2.1, Ch.own n0 n0 (Sl a11 r8.1 c12) r8.1, Ch.own n0 n0 (Sl a5 r2 c6) r2, Ch.ro 0 (Sl acode_0 code_0 ccode_0) code_0] := H
  refine st (v := (.tuple #[(Sl a11 r8.1 c12), (Sl a14 r8.2.1 c15), (B r8.2.2)])) (rv_move rfl) ?_
  refine st (v := (Sl a11 r8.1 c12)) (rv_extract rfl rfl) ?_
  refine st (v := (Sl a14 r8.2.1 c15)) (rv_extract rfl rfl) ?_
  refine st (v := (B r8.2.2)) (rv_extract rfl rfl) ?_
  refine st (v := (Sl a11 r8.1 c12)) (rv_assign rfl) ?_
  refine st (v := (Sl a14 r8.2.1 c15)) (rv_assign rfl) ?_
  refine st (v := (B r8.2.2)) (rv_assign rfl) ?_
  refine w_end ?_
  refine q_then ?_
  refine c_seq ?_
  refine rg ?_
  refine st (v := (Sl a5 r2 c6)) (rv_move rfl) ?_
  obtain ⟨r18, hx19, h'⟩ := bind_some h
  clear h
  have h := h'; clear h'
  have hc20 := c_spec_BoundsOf (alist_0 := a5) (clist_0 := c6) hx19
  have hle := Nat.le_trans hn0 H.size
  refine st_call (cx_lend (Loan.lend Loan.nil) hc20 (ent_f hc20.fn rfl) (show Hp S0 σ0 _ ([Ch.own n0 n0 (Sl a5 r2 c6) r2] ++ ([] ++ [Ch.own n0 n0 (Sl a14 r8.2.1 c15) r8.2.1, Ch.own n0 n0 (Sl a11 r8.1 c12) r8.1, Ch.ro 0 (Sl acode_0 code_0 ccode_0) code_0])) from (H.sel' [2, 0, 1, 3] rfl rfl)) (by rintro _ _ _ ⟨_, _, _, _, rfl, rfl⟩; exact ⟨Ab.ownSc, Ab.ownSc, trivial⟩)) wn ?_
  rintro _ σ25 ⟨_, ⟨a21, c22, a23, c24, rfl, rfl⟩, H, -, -⟩
  replace H : Hp S0 σ0 σ25 [Ch.own σ17.size σ17.size (Sl a21 r18.1 c22) r18.1, Ch.own σ17.size σ17.size (Sl a23 r18.2.1 c24) r18.2.1, Ch.own n0 n0 (Sl a5 r2 c6) r2, Ch.own n0 n0 (Sl a14 r8.2.1 c15) r8.2.1, Ch.own n0 n0 (Sl a11 r8.1 c12) r8.1, Ch.ro 0 (Sl acode_0 code_0 ccode_0) code_0] := H
  replace H := H.ownLow 0 n0 n0 rfl hle hle
  replace H := H.ownLow 1 n0 n0 rfl hle hle
  clear hle
  replace H : Hp S0 σ0 σ25 [Ch.own n0 n0 (Sl a23 r18.2.1 c24) r18.2.1, Ch.own n0 n0 (Sl a21 r18.1 c22) r18.1, Ch.own n0 n0 (Sl a5 r2 c6) r2, Ch.own n0 n0 (Sl a14 r8.2.1 c15) r8.2.1, Ch.own n0 n0 (Sl a11 r8.1 c12) r8.1, Ch.ro 0 (Sl acode_0 code_0 ccode_0) code_0] := H
  refine st (v := (.tuple #[(Sl a21 r18.1 c22), (Sl a23 r18.2.1 c24), (B r18.2.2)])) (rv_move rfl) ?_
  refine st (v := (Sl a21 r18.1 c22)) (rv_extract rfl rfl) ?_
  refine st (v := (Sl a23 r18.2.1 c24)) (rv_extract rfl rfl) ?_
  refine st (v := (B r18.2.2)) (rv_extract rfl rfl) ?_
  refine st (v := (Sl a21 r18.1 c22)) (rv_assign rfl) ?_
  refine st (v := (Sl a23 r18.2.1 c24)) (rv_assign rfl) ?_
  refine st (v := (B r18.2.2)) (rv_assign rfl) ?_
  refine w_end ?_
  refine q_then ?_
  refine c_seq ?_
  refine c_seq ?_
  obtain ⟨o26, hj, h'⟩ := bind_some h
  clear h
  refine c_cut (fun e a w => e = .normal ∧ ∃ (ρ : Nat → Value) (σ : St), a = fr 111 (updL ρ [(3, (Sl a5 r2 c6)), (4, (Sl a11 r8.1 c12)), (5, (Sl a14 r8.2.1 c15)), (6, (B r8.2.2)), (7, (Sl a21 r18.1 c22)), (8, (Sl a23 r18.2.1 c24)), (9, (B r18.2.2)), (49, (B o26))]) ∧ w = σ.w ∧ Hp S0 σ0 σ [Ch.own n0 n0 (Sl a5 r2 c6) r2, Ch.own n0 n0 (Sl a11 r8.1 c12) r8.1, Ch.own n0 n0 (Sl a14 r8.2.1 c15) r8.2.1, Ch.own n0 n0 (Sl a21 r18.1 c22) r18.1, Ch.own n0 n0 (Sl a23 r18.2.1 c24) r18.2.1]) ?_ ?_
  ·clear h'
   rename _ = some o26 => h
   refine rg ?_
   refine st (v := (Sl a11 r8.1 c12)) (rv_move rfl) ?_
   refine st (v := (Sl a21 r18.1 c22)) (rv_move rfl) ?_
   obtain ⟨r27, hx28, h'⟩ := bind_some h
   clear h
   have h := h'; clear h'
   have hc29 := c_laws_equalInts (aa_0 := a11) (ca_0 := c12) (ab_1 := a21) (cb_1 := c22) hx28
   have hle := Nat.le_trans hn0 H.size
   refine st_call (cx_lend (Loan.lend (Loan.lend Loan.nil)) hc29 (ent_f hc29.fn rfl) (show Hp S0 σ0 _ ([Ch.own n0 n0 (Sl a11 r8.1 c12) r8.1, Ch.own n0 n0 (Sl a21 r18.1 c22) r18.1] ++ ([] ++ [Ch.own n0 n0 (Sl a23 r18.2.1 c24) r18.2.1, Ch.own n0 n0 (Sl a5 r2 c6) r2, Ch.own n0 n0 (Sl a14 r8.2.1 c15) r8.2.1, Ch.ro 0 (Sl acode_0 code_0 ccode_0) code_0])) from (H.sel' [4, 1, 0, 2, 3, 5] rfl rfl)) (by rintro _ _ _ ⟨rfl, rfl⟩; exact trivial)) wn ?_
   rintro _ σ30 ⟨_, ⟨rfl, rfl⟩, H, -, -⟩
   replace H : Hp S0 σ0 σ30 [Ch.own n0 n0 (Sl a11 r8.1 c12) r8.1, Ch.own n0 n0 (Sl a21 r18.1 c22) r18.1, Ch.own n0 n0 (Sl a23 r18.2.1 c24) r18.2.1, Ch.own n0 n0 (Sl a5 r2 c6) r2, Ch.own n0 n0 (Sl a14 r8.2.1 c15) r8.2.1, Ch.ro 0 (Sl acode_0 code_0 ccode_0) code_0] := H
   clear hle
   replace H : Hp S0 σ0 σ30 [Ch.own n0 n0 (Sl a11 r8.1 c12) r8.1, Ch.own n0 n0 (Sl a21 r18.1 c22) r18.1, Ch.own n0 n0 (Sl a23 r18.2.1 c24) r18.2.1, Ch.own n0 n0 (Sl a5 r2 c6) r2, Ch.own n0 n0 (Sl a14 r8.2.1 c15) r8.2.1, Ch.ro 0 (Sl acode_0 code_0 ccode_0) code_0] := H
   refine st (v := (B (!r27))) (rv_not rfl) ?_
   refine st (v := (B (!r27))) (rv_move rfl) ?_
   rcases Bool.eq_false_or_eq_true (!r27) with hb31 | hb31
   ·replace h := bif_t hb31 h
    refine st_skip (congrArg some hb31) ?_
    refine st_skip (congrArg some hb31) ?_
    refine st_skip (congrArg some hb31) ?_
    refine st_skip (congrArg some hb31) ?_
    refine st (v := (B true)) (rv_pick_t (congrArg B hb31) rfl) ?_
    refine st (v := (B true)) (rv_move rfl) ?_
    refine st_skip rfl ?_
    refine st_skip rfl ?_
    refine st_skip rfl ?_
    refine st (v := (B true)) (rv_pick_t rfl rfl) ?_
    refine st (v := (B true)) (rv_move rfl) ?_
    refine st_skip rfl ?_
    refine st_skip rfl ?_
    refine st (v := (B true)) (rv_pick_t rfl rfl) ?_
    refine w_end ?_
    obtain rfl := Option.some.inj h
    exact ⟨rfl, _, σ30, fr_join ⟨rfl, rfl, rfl, rfl, rfl, rfl, rfl, rfl, trivial⟩, rfl, H.sel' [3, 0, 4, 1, 2] rfl rfl⟩
   ·replace h := bif_f hb31 h
    refine st_g (v := (Sl a14 r8.2.1 c15)) (congrArg some hb31) (rv_move rfl) ?_
    refine st_g (v := (Sl a23 r18.2.1 c24)) (congrArg some hb31) (rv_move rfl) ?_
    obtain ⟨r32, hx33, h'⟩ := bind_some h
    clear h
    have h := h'; clear h'
    have hc34 := c_laws_equalInts (aa_0 := a14) (ca_0 := c15) (ab_1 := a23) (cb_1 := c24) hx33
    have hle := Nat.le_trans hn0 H.size
    refine st_call (cx_lend (Loan.lend (Loan.lend Loan.nil)) hc34 (ent_f hc34.fn rfl) (show Hp S0 σ0 _ ([Ch.own n0 n0 (Sl a14 r8.2.1 c15) r8.2.1, Ch.own n0 n0 (Sl a23 r18.2.1 c24) r18.2.1] ++ ([] ++ [Ch.own n0 n0 (Sl a11 r8.1 c12) r8.1, Ch.own n0 n0 (Sl a21 r18.1 c22) r18.1, Ch.own n0 n0 (Sl a5 r2 c6) r2, Ch.ro 0 (Sl acode_0 code_0 ccode_0) code_0])) from (H.sel' [4, 2, 0, 1, 3, 5] rfl rfl)) (by rintro _ _ _ ⟨rfl, rfl⟩; exact trivial)) (wanted_yes rfl (by exact (congrArg some hb31))) ?_
    rintro _ σ35 ⟨_, ⟨rfl, rfl⟩, H, -, -⟩
    replace H : Hp S0 σ0 σ35 [Ch.own n0 n0 (Sl a14 r8.2.1 c15) r8.2.1, Ch.own n0 n0 (Sl a23 r18.2.1 c24) r18.2.1, Ch.own n0 n0 (Sl a11 r8.1 c12) r8.1, Ch.own n0 n0 (Sl a21 r18.1 c22) r18.1, Ch.own n0 n0 (Sl a5 r2 c6) r2, Ch.ro 0 (Sl acode_0 code_0 ccode_0) code_0] := H
    clear hle
    replace H : Hp S0 σ0 σ35 [Ch.own n0 n0 (Sl a14 r8.2.1 c15) r8.2.1, Ch.own n0 n0 (Sl a23 r18.2.1 c24) r18.2.1, Ch.own n0 n0 (Sl a11 r8.1 c12) r8.1, Ch.own n0 n0 (Sl a21 r18.1 c22) r18.1, Ch.own n0 n0 (Sl a5 r2 c6) r2, Ch.ro 0 (Sl acode_0 code_0 ccode_0) code_0] := H
    refine st_g (v := (B (!r32))) (congrArg some hb31) (rv_not rfl) ?_
    refine st (v := (B (!r32))) (rv_pick_f (congrArg B hb31) rfl) ?_
    refine st (v := (B (!r32))) (rv_move rfl) ?_
    rcases Bool.eq_false_or_eq_true (!r32) with hb36 | hb36
    ·replace h := bif_t hb36 h
     refine st_skip (congrArg some hb36) ?_
     refine st_skip (congrArg some hb36) ?_
     refine st_skip (congrArg some hb36) ?_
     refine st (v := (B true)) (rv_pick_t (congrArg B hb36) rfl) ?_
     refine st (v := (B true)) (rv_move rfl) ?_
     refine st_skip rfl ?_
     refine st_skip rfl ?_
     refine st (v := (B true)) (rv_pick_t rfl rfl) ?_
     refine w_end ?_
     obtain rfl := Option.some.inj h
     exact ⟨rfl, _, σ35, fr_join ⟨rfl, rfl, rfl, rfl, rfl, rfl, rfl, rfl, trivial⟩, rfl, H.sel' [4, 2, 0, 3, 1] rfl rfl⟩
    ·replace h := bif_f hb36 h
     refine st_g (v := (B r8.2.2)) (congrArg some hb36) (rv_move rfl) ?_
     refine st_g (v := (B r18.2.2)) (congrArg some hb36) (rv_move rfl) ?_
     refine st_g (v := (B (r8.2.2 != r18.2.2))) (congrArg some hb36) (rv_bneq Try.underlying4 rfl rfl) ?_
     refine st (v := (B (r8.2.2 != r18.2.2))) (rv_pick_f (congrArg B hb36) rfl) ?_
     refine st (v := (B (r8.2.2 != r18.2.2))) (rv_move rfl) ?_
     rcases Bool.eq_false_or_eq_true (r8.2.2 != r18.2.2) with hb37 | hb37
     ·replace h := bif_t hb37 h
      refine st_skip (congrArg some hb37) ?_
      refine st_skip (congrArg some hb37) ?_
      refine st (v := (B true)) (rv_pick_t (congrArg B hb37) rfl) ?_
      refine w_end ?_
      obtain rfl := Option.some.inj h
      exact ⟨rfl, _, σ35, fr_join ⟨rfl, rfl, rfl, rfl, rfl, rfl, rfl, rfl, trivial⟩, rfl, H.sel' [4, 2, 0, 3, 1] rfl rfl⟩
     ·replace h := bif_f hb37 h
      refine st_g (v := (B r8.2.2)) (congrArg some hb37) (rv_move rfl) ?_
      refine st_g (v := (B (!r8.2.2))) (congrArg some hb37) (rv_not rfl) ?_
      refine st (v := (B (!r8.2.2))) (rv_pick_f (congrArg B hb37) rfl) ?_
      refine w_end ?_
      obtain rfl := Option.some.inj h
      exact ⟨rfl, _, σ35, fr_join ⟨rfl, rfl, rfl, rfl, rfl, rfl, rfl, rfl, trivial⟩, rfl, H.sel' [4, 2, 0, 3, 1] rfl rfl⟩
  ·clear hj
   have h := h'
   clear h' H
   rintro e a w ⟨rfl, ρ, σ38, rfl, rfl, H⟩
   refine q_then ?_
   refine cd_cond o26 rfl (fun hb39 => ?_) (fun hb39 => ?_)
   ·replace h := bif_t hb39 h
    refine c_seq ?_
    refine rg ?_
    refine st (v := (Sl a11 r8.1 c12)) (rv_move rfl) ?_
    refine st (v := (Sl a21 r18.1 c22)) (rv_move rfl) ?_
    obtain ⟨σ40, hw41, H, -⟩ := H.pub 1 rfl (Nat.le_refl _)
    rw [← hw41]; clear hw41
    obtain ⟨σ42, hw43, H, -⟩ := H.pub 3 rfl (Nat.le_refl _)
    rw [← hw43]; clear hw43
    replace H := H.roLow 1 0 rfl (Nat.zero_le _)
    replace H := H.roLow 1 0 rfl (Nat.zero_le _)
    obtain ⟨r44, hx45, h'⟩ := bind_some h
    clear h
    have h := h'; clear h'
    have hc46 := c_laws_equalInts (aa_0 := a11) (ca_0 := c12) (ab_1 := a21) (cb_1 := c22) hx45
    refine st_call (cx_call hc46 (ent_f hc46.fn rfl) hn0 (show Hp S0 σ0 _ ([Ch.ro 0 (Sl a11 r8.1 c12) r8.1, Ch.ro 0 (Sl a21 r18.1 c22) r18.1] ++ [Ch.ro 0 (Sl a21 r18.1 c22) r18.1, Ch.ro 0 (Sl a11 r8.1 c12) r8.1, Ch.ro n0 (Sl a21 r18.1 c22) r18.1, Ch.ro n0 (Sl a11 r8.1 c12) r8.1, Ch.own n0 n0 (Sl a5 r2 c6) r2, Ch.own n0 n0 (Sl a14 r8.2.1 c15) r8.2.1, Ch.own n0 n0 (Sl a23 r18.2.1 c24) r18.2.1]) from (H.sel' [1, 0, 0, 1, 2, 3, 4, 5, 6] rfl rfl))) wn ?_
    rintro _ σ47 ⟨_, ⟨rfl, rfl⟩, H, -⟩
    replace H : Hp S0 σ0 σ47 [Ch.ro 0 (Sl a21 r18.1 c22) r18.1, Ch.ro 0 (Sl a11 r8.1 c12) r8.1, Ch.ro n0 (Sl a21 r18.1 c22) r18.1, Ch.ro n0 (Sl a11 r8.1 c12) r8.1, Ch.own n0 n0 (Sl a5 r2 c6) r2, Ch.own n0 n0 (Sl a14 r8.2.1 c15) r8.2.1, Ch.own n0 n0 (Sl a23 r18.2.1 c24) r18.2.1] := H
    refine st (v := (B r44)) (rv_move rfl) ?_
    rcases Bool.eq_false_or_eq_true r44 with hb48 | hb48
    ·replace h := bif_t hb48 h
     refine st_g (v := (Sl a14 r8.2.1 c15)) (congrArg some hb48) (rv_move rfl) ?_
     refine st_g (v := (Sl a23 r18.2.1 c24)) (congrArg some hb48) (rv_move rfl) ?_
     obtain ⟨σ49, hw50, H, -⟩ := H.pub 5 rfl (Nat.le_refl _)
     rw [← hw50]; clear hw50
     obtain ⟨σ51, hw52, H, -⟩ := H.pub 6 rfl (Nat.le_refl _)
     rw [← hw52]; clear hw52
     replace H := H.roLow 1 0 rfl (Nat.zero_le _)
     replace H := H.roLow 1 0 rfl (Nat.zero_le _)
     obtain ⟨r53, hx54, h'⟩ := bind_some h
     clear h
     have h := h'; clear h'
     have hc55 := c_laws_equalInts (aa_0 := a14) (ca_0 := c15) (ab_1 := a23) (cb_1 := c24) hx54
     refine st_call (cx_call hc55 (ent_f hc55.fn rfl) hn0 (show Hp S0 σ0 _ ([Ch.ro 0 (Sl a14 r8.2.1 c15) r8.2.1, Ch.ro 0 (Sl a23 r18.2.1 c24) r18.2.1] ++ [Ch.ro 0 (Sl a23 r18.2.1 c24) r18.2.1, Ch.ro 0 (Sl a14 r8.2.1 c15) r8.2.1, Ch.ro n0 (Sl a23 r18.2.1 c24) r18.2.1, Ch.ro n0 (Sl a14 r8.2.1 c15) r8.2.1, Ch.ro 0 (Sl a21 r18.1 c22) r18.1, Ch.ro 0 (Sl a11 r8.1 c12) r8.1, Ch.ro n0 (Sl a21 r18.1 c22) r18.1, Ch.ro n0 (Sl a11 r8.1 c12) r8.1, Ch.own n0 n0 (Sl a5 r2 c6) r2]) from (H.sel' [1, 0, 0, 1, 2, 3, 4, 5, 6, 7, 8] rfl rfl))) (wanted_yes rfl (by exact (congrArg some hb48))) ?_
     rintro _ σ56 ⟨_, ⟨rfl, rfl⟩, H, -⟩
     replace H : Hp S0 σ0 σ56 [Ch.ro 0 (Sl a23 r18.2.1 c24) r18.2.1, Ch.ro 0 (Sl a14 r8.2.1 c15) r8.2.1, Ch.ro n0 (Sl a23 r18.2.1 c24) r18.2.1, Ch.ro n0 (Sl a14 r8.2.1 c15) r8.2.1, Ch.ro 0 (Sl a21 r18.1 c22) r18.1, Ch.ro 0 (Sl a11 r8.1 c12) r8.1, Ch.ro n0 (Sl a21 r18.1 c22) r18.1, Ch.ro n0 (Sl a11 r8.1 c12) r8.1, Ch.own n0 n0 (Sl a5 r2 c6) r2] := H
     replace H : Hp S0 σ0 σ56 [] := H.sel' [] rfl rfl
     refine st (v := (B r53)) (rv_pick_t (congrArg B hb48) rfl) ?_
     refine st (v := (B r53)) (rv_move rfl) ?_
     rcases Bool.eq_false_or_eq_true r53 with hb57 | hb57
     ·replace h := bif_t hb57 h
      refine st_g (v := (B r8.2.2)) (congrArg some hb57) (rv_move rfl) ?_
      refine st_g (v := (B r18.2.2)) (congrArg some hb57) (rv_move rfl) ?_
      refine st_g (v := (B (r8.2.2 == r18.2.2))) (congrArg some hb57) (rv_beql Try.underlying4 rfl rfl) ?_
      refine st (v := (B (r8.2.2 == r18.2.2))) (rv_pick_t (congrArg B hb57) rfl) ?_
      refine st (v := (B (r8.2.2 == r18.2.2))) (rv_assign rfl) ?_
      refine w_end ?_
      refine q_then ?_
      refine c_ret ?_
      refine q_then_r ?_
      obtain rfl := Option.some.inj h
      exact fin_ret (v := (B (r8.2.2 == r18.2.2))) (results_ok Try.results7 (res_tmp (v := (B (r8.2.2 == r18.2.2))) rfl res_nil) rfl) ⟨rfl, rfl⟩ (H.sel' [] rfl rfl)
     ·replace h := bif_f hb57 h
      refine st_skip (congrArg some hb57) ?_
      refine st_skip (congrArg some hb57) ?_
      refine st_skip (congrArg some hb57) ?_
      refine st (v := (B false)) (rv_pick_f (congrArg B hb57) rfl) ?_
      refine st (v := (B false)) (rv_assign rfl) ?_
      refine w_end ?_
      refine q_then ?_
      refine c_ret ?_
      refine q_then_r ?_
      obtain rfl := Option.some.inj h
      exact fin_ret (v := (B false)) (results_ok Try.results7 (res_tmp (v := (B false)) rfl res_nil) rfl) ⟨rfl, rfl⟩ (H.sel' [] rfl rfl)
    ·replace h := bif_f hb48 h
     refine st_skip (congrArg some hb48) ?_
     refine st_skip (congrArg some hb48) ?_
     refine st_skip (congrArg some hb48) ?_
     refine st (v := (B false)) (rv_pick_f (congrArg B hb48) rfl) ?_
     refine st (v := (B false)) (rv_move rfl) ?_
     refine st_skip rfl ?_
     refine st_skip rfl ?_
     refine st_skip rfl ?_
     refine st (v := (B false)) (rv_pick_f rfl rfl) ?_
     refine st (v := (B false)) (rv_assign rfl) ?_
     refine w_end ?_
     refine q_then ?_
     refine c_ret ?_
     refine q_then_r ?_
     obtain rfl := Option.some.inj h
     exact fin_ret (v := (B false)) (results_ok Try.results7 (res_tmp (v := (B false)) rfl res_nil) rfl) ⟨rfl, rfl⟩ (H.sel' [] rfl rfl)
   ·replace h := bif_f hb39 h
    refine c_skip ?_
    refine q_then ?_
    refine c_seq ?_
    refine c_seq ?_
    refine rg ?_
    refine st (v := (I 0)) (rv_assign rfl) ?_
    refine w_end ?_
    refine q_then ?_
    obtain ⟨o58, hj, h'⟩ := bind_some h
    clear h
    refine c_cut (fun e a w => (∃ t, o58 = (.inl t) ∧ e = .normal ∧ ∃ (ρ : Nat → Value) (σ : St), a = fr 111 (updL ρ []) ∧ w = σ.w ∧ Hp S0 σ0 σ []) ∨ (∃ t, o58 = (.inr t) ∧ e = .ret ∧ ∃ (ρ : Nat → Value) (σ : St), a = fr 111 (updL ρ [(2, (B t))]) ∧ w = σ.w ∧ Hp S0 σ0 σ [])) ?_ ?_
    ·clear h'
     rename _ = some o58 => h
     refine c_blk ?_
     refine wp_loopM _ h (fun s59 a w => ∃ (ρ : Nat → Value) (σ : St), a = fr 111 (updL ρ [(3, (Sl a5 r2 c6)), (4, (Sl a11 r8.1 c12)), (5, (Sl a14 r8.2.1 c15)), (10, (I s59))]) ∧ w = σ.w ∧ Hp S0 σ0 σ [Ch.own n0 n0 (Sl a5 r2 c6) r2, Ch.own n0 n0 (Sl a11 r8.1 c12) r8.1, Ch.own n0 n0 (Sl a14 r8.2.1 c15) r8.2.1]) ⟨_, σ38, fr_join ⟨rfl, rfl, rfl, rfl, trivial⟩, rfl, H.sel' [0, 1, 2] rfl rfl⟩ ?_
     clear h H
     rintro s59 a w o ⟨ρ, σ60, rfl, rfl, H⟩ h hres
     refine c_seq ?_
     refine c_seq ?_
     refine rg ?_
     refine st (v := (I s59)) (rv_move rfl) ?_
     refine st (v := (B (decide (s59 < 4)))) (rv_lss (a := s59) (b := 4) rfl rfl) ?_
     refine w_end ?_
     refine q_then ?_
     refine cd_cond (decide (s59 < 4)) rfl (fun hb61 => ?_) (fun hb61 => ?_)
     ·replace h := bif_t hb61 h
      refine c_skip ?_
      refine q_then ?_
      refine c_seq ?_
      refine c_blk ?_
      refine c_seq ?_
      refine rg ?_
      refine st (v := (B false)) (rv_assign rfl) ?_
      refine w_end ?_
      refine q_then ?_
      refine c_seq ?_
      refine rg ?_
      refine st (v := (B false)) (rv_assign rfl) ?_
      refine w_end ?_
      refine q_then ?_
      refine c_seq ?_
      refine c_seq ?_
      refine rg ?_
      refine st (v := (I 0)) (rv_assign rfl) ?_
      refine w_end ?_
      refine q_then ?_
      obtain ⟨o62, hj, h'⟩ := bind_some h
      clear h
      refine c_cut (fun e a w => e = .normal ∧ ∃ (ρ : Nat → Value) (σ : St), a = fr 111 (updL ρ [(3, (Sl a5 r2 c6)), (4, (Sl a11 r8.1 c12)), (5, (Sl a14 r8.2.1 c15)), (10, (I s59)), (11, (B o62.1)), (12, (B o62.2))]) ∧ w = σ.w ∧ Hp S0 σ0 σ [Ch.own n0 n0 (Sl a5 r2 c6) r2, Ch.own n0 n0 (Sl a11 r8.1 c12) r8.1, Ch.own n0 n0 (Sl a14 r8.2.1 c15) r8.2.1]) ?_ ?_
      ·clear h'
       rename _ = some o62 => h
       refine c_blk ?_
       refine wp_loopM _ h (fun s63 a w => ∃ (ρ : Nat → Value) (σ : St), a = fr 111 (updL ρ [(3, (Sl a5 r2 c6)), (4, (Sl a11 r8.1 c12)), (5, (Sl a14 r8.2.1 c15)), (10, (I s59)), (11, (B s63.1)), (12, (B s63.2.1)), (13, (I s63.2.2))]) ∧ w = σ.w ∧ Hp S0 σ0 σ [Ch.own n0 n0 (Sl a5 r2 c6) r2, Ch.own n0 n0 (Sl a11 r8.1 c12) r8.1, Ch.own n0 n0 (Sl a14 r8.2.1 c15) r8.2.1]) ⟨_, σ60, fr_join ⟨rfl, rfl, rfl, rfl, rfl, rfl, rfl, trivial⟩, rfl, H.sel' [0, 1, 2] rfl rfl⟩ ?_
       clear h H
       rintro s63 a w o ⟨ρ, σ64, rfl, rfl, H⟩ h hres
       refine c_seq ?_
       refine c_seq ?_
       refine rg ?_
       refine st (v := (I s63.2.2)) (rv_move rfl) ?_
       refine st (v := (Sl a5 r2 c6)) (rv_move rfl) ?_
       refine st (v := (I (r2.length : Int))) (rv_len Try.underlying23 rfl) ?_
       refine st (v := (B (decide (s63.2.2 < (r2.length : Int))))) (rv_lss (a := s63.2.2) (b := (r2.length : Int)) rfl rfl) ?_
       refine w_end ?_
       refine q_then ?_
       refine cd_cond (decide (s63.2.2 < (r2.length : Int))) rfl (fun hb65 => ?_) (fun hb65 => ?_)
       ·replace h := bif_t hb65 h
        refine c_skip ?_
        refine q_then ?_
        refine c_seq ?_
        refine c_blk ?_
        refine c_seq ?_
        obtain ⟨o66, hj, h'⟩ := bind_some h
        clear h
        refine c_cut (fun e a w => e = .normal ∧ ∃ (ρ : Nat → Value) (σ : St), a = fr 111 (updL ρ [(3, (Sl a5 r2 c6)), (4, (Sl a11 r8.1 c12)), (5, (Sl a14 r8.2.1 c15)), (10, (I s59)), (11, (B o66)), (12, (B s63.2.1)), (13, (I s63.2.2))]) ∧ w = σ.w ∧ Hp S0 σ0 σ [Ch.own n0 n0 (Sl a5 r2 c6) r2, Ch.own n0 n0 (Sl a11 r8.1 c12) r8.1, Ch.own n0 n0 (Sl a14 r8.2.1 c15) r8.2.1]) ?_ ?_
        ·clear h'
         rename _ = some o66 => h
         refine rgP (σ := σ64) 14 (by kernel_rfl) (by kernel_rfl) (by kernel_rfl) ?_
         refine sq (v := (B s63.1)) (rv_move rfl) ?_
         refine sq (v := (B s63.1)) (rv_move rfl) ?_
         rcases Bool.eq_false_or_eq_true s63.1 with hb67 | hb67
         ·replace h := bif_t hb67 h
          refine sq_skip (congrArg some hb67) ?_
          refine sq_skip (congrArg some hb67) ?_
          refine sq_skip (congrArg some hb67) ?_
          refine sq_skip (congrArg some hb67) ?_
          refine sq_skip (congrArg some hb67) ?_
          refine sq_skip (congrArg some hb67) ?_
          refine sq_skip (congrArg some hb67) ?_
          refine sq_skip (congrArg some hb67) ?_
          refine sq_skip (congrArg some hb67) ?_
          refine sq_skip (congrArg some hb67) ?_
          refine sq_skip (congrArg some hb67) ?_
          refine sq_skip (congrArg some hb67) ?_
          refine sq_end ?_
          intro σ68 hm69
          replace H := H.grow (hm69.mono fun _ h => h); clear hm69
          refine st_skip (congrArg some hb67) ?_
          refine st (v := (B true)) (rv_pick_t (congrArg B hb67) rfl) ?_
          refine st (v := (B true)) (rv_assign rfl) ?_
          refine w_end ?_
          obtain rfl := Option.some.inj h
          exact ⟨rfl, _, σ68, fr_join ⟨rfl, rfl, rfl, rfl, rfl, rfl, rfl, trivial⟩, rfl, H.sel' [0, 1, 2] rfl rfl⟩
         ·replace h := bif_f hb67 h
          refine sq_g (v := (Sl a5 r2 c6)) (congrArg some hb67) (rv_move rfl) ?_
          refine sq_g (v := (I s63.2.2)) (congrArg some hb67) (rv_move rfl) ?_
          obtain ⟨x70, hx71, h'⟩ := bind_some h
          clear h
          have h := h'; clear h'
          obtain ⟨b73, o74, hi72, -⟩ := (H.own 0 rfl).ix hx71
          refine sq_g (v := (pt b73 o74)) (congrArg some hb67) (rv_ix Try.underlying23 ti26 rfl rfl hi72) ?_
          refine sq_g (v := (pt b73 (o74 + 1))) (congrArg some hb67) (rv_fieldAddr (off := 1) (ft := 24) Try.underlying26 rfl ti24 rfl rfl) ?_
          obtain ⟨v78, hc79, hR77⟩ := ((H.own 0 rfl).at hx71 hi72).snd.fst.slice
          obtain ⟨a75, c76, rfl⟩ := hR77.isSl
          replace H := H.add (d := Ch.ro n0 (Sl a75 x70.2.1 c76) x70.2.1) hR77 (fun _ h => h)
          clear hR77
          refine sq_g (v := (Sl a75 x70.2.1 c76)) (congrArg some hb67) (rv_load1 Try.underlying24 rfl rfl hc79) ?_
          refine sq_g (v := (I s59)) (congrArg some hb67) (rv_move rfl) ?_
          obtain ⟨x80, hx81, h'⟩ := bind_some h
          clear h
          have h := h'; clear h'
          obtain ⟨b83, o84, hi82, -⟩ := (H.ro 0 rfl).ix hx81
          refine sq_g (v := (pt b83 o84)) (congrArg some hb67) (rv_ix Try.underlying24 ti3 rfl rfl hi82) ?_
          have hc85 := ((H.ro 0 rfl).at hx81 hi82).int
          refine sq_g (v := (I x80)) (congrArg some hb67) (rv_load1 Try.underlying3 rfl rfl hc85) ?_
          refine sq_g (v := (Sl a11 r8.1 c12)) (congrArg some hb67) (rv_move rfl) ?_
          refine sq_g (v := (I s59)) (congrArg some hb67) (rv_move rfl) ?_
          obtain ⟨x86, hx87, h'⟩ := bind_some h
          clear h
          have h := h'; clear h'
          obtain ⟨b89, o90, hi88, -⟩ := (H.own 2 rfl).ix hx87
          refine sq_g (v := (pt b89 o90)) (congrArg some hb67) (rv_ix Try.underlying24 ti3 rfl rfl hi88) ?_
          have hc91 := ((H.own 2 rfl).at hx87 hi88).int
          refine sq_g (v := (I x86)) (congrArg some hb67) (rv_load1 Try.underlying3 rfl rfl hc91) ?_
          refine sq_end ?_
          intro σ92 hm93
          replace H := H.grow (hm93.mono fun _ h => h); clear hm93
          refine st_g (v := (B (x80 == x86))) (congrArg some hb67) (rv_eql (a := x80) (b := x86) rfl rfl) ?_
          refine st (v := (B (x80 == x86))) (rv_pick_f (congrArg B hb67) rfl) ?_
          refine st (v := (B (x80 == x86))) (rv_assign rfl) ?_
          refine w_end ?_
          obtain rfl := Option.some.inj h
          exact ⟨rfl, _, σ92, fr_join ⟨rfl, rfl, rfl, rfl, rfl, rfl, rfl, trivial⟩, rfl, H.sel' [1, 2, 3] rfl rfl⟩
        ·clear hj
         have h := h'
         clear h' H
         rintro e a w ⟨rfl, ρ, σ94, rfl, rfl, H⟩
         refine q_then ?_
         obtain ⟨o95, hj, h'⟩ := bind_some h
         clear h
         refine c_cut (fun e a w => e = .normal ∧ ∃ (ρ : Nat → Value) (σ : St), a = fr 111 (updL ρ [(3, (Sl a5 r2 c6)), (4, (Sl a11 r8.1 c12)), (5, (Sl a14 r8.2.1 c15)), (10, (I s59)), (11, (B o66)), (12, (B o95)), (13, (I s63.2.2))]) ∧ w = σ.w ∧ Hp S0 σ0 σ [Ch.own n0 n0 (Sl a5 r2 c6) r2, Ch.own n0 n0 (Sl a11 r8.1 c12) r8.1, Ch.own n0 n0 (Sl a14 r8.2.1 c15) r8.2.1]) ?_ ?_
         ·clear h'
          rename _ = some o95 => h
          refine rgP (σ := σ94) 14 (by kernel_rfl) (by kernel_rfl) (by kernel_rfl) ?_
          refine sq (v := (B s63.2.1)) (rv_move rfl) ?_
          refine sq (v := (B s63.2.1)) (rv_move rfl) ?_
          rcases Bool.eq_false_or_eq_true s63.2.1 with hb96 | hb96
          ·replace h := bif_t hb96 h
           refine sq_skip (congrArg some hb96) ?_
           refine sq_skip (congrArg some hb96) ?_
           refine sq_skip (congrArg some hb96) ?_
           refine sq_skip (congrArg some hb96) ?_
           refine sq_skip (congrArg some hb96) ?_
           refine sq_skip (congrArg some hb96) ?_
           refine sq_skip (congrArg some hb96) ?_
           refine sq_skip (congrArg some hb96) ?_
           refine sq_skip (congrArg some hb96) ?_
           refine sq_skip (congrArg some hb96) ?_
           refine sq_skip (congrArg some hb96) ?_
           refine sq_skip (congrArg some hb96) ?_
           refine sq_end ?_
           intro σ97 hm98
           replace H := H.grow (hm98.mono fun _ h => h); clear hm98
           refine st_skip (congrArg some hb96) ?_
           refine st (v := (B true)) (rv_pick_t (congrArg B hb96) rfl) ?_
           refine st (v := (B true)) (rv_assign rfl) ?_
           refine w_end ?_
           obtain rfl := Option.some.inj h
           exact ⟨rfl, _, σ97, fr_join ⟨rfl, rfl, rfl, rfl, rfl, rfl, rfl, trivial⟩, rfl, H.sel' [0, 1, 2] rfl rfl⟩
          ·replace h := bif_f hb96 h
           refine sq_g (v := (Sl a5 r2 c6)) (congrArg some hb96) (rv_move rfl) ?_
           refine sq_g (v := (I s63.2.2)) (congrArg some hb96) (rv_move rfl) ?_
           obtain ⟨x99, hx100, h'⟩ := bind_some h
           clear h
           have h := h'; clear h'
           obtain ⟨b102, o103, hi101, -⟩ := (H.own 0 rfl).ix hx100
           refine sq_g (v := (pt b102 o103)) (congrArg some hb96) (rv_ix Try.underlying23 ti26 rfl rfl hi101) ?_
           refine sq_g (v := (pt b102 (o103 + 1))) (congrArg some hb96) (rv_fieldAddr (off := 1) (ft := 24) Try.underlying26 rfl ti24 rfl rfl) ?_
           obtain ⟨v107, hc108, hR106⟩ := ((H.own 0 rfl).at hx100 hi101).snd.fst.slice
           obtain ⟨a104, c105, rfl⟩ := hR106.isSl
           replace H := H.add (d := Ch.ro n0 (Sl a104 x99.2.1 c105) x99.2.1) hR106 (fun _ h => h)
           clear hR106
           refine sq_g (v := (Sl a104 x99.2.1 c105)) (congrArg some hb96) (rv_load1 Try.underlying24 rfl rfl hc108) ?_
           refine sq_g (v := (I s59)) (congrArg some hb96) (rv_move rfl) ?_
           obtain ⟨x109, hx110, h'⟩ := bind_some h
           clear h
           have h := h'; clear h'
           obtain ⟨b112, o113, hi111, -⟩ := (H.ro 0 rfl).ix hx110
           refine sq_g (v := (pt b112 o113)) (congrArg some hb96) (rv_ix Try.underlying24 ti3 rfl rfl hi111) ?_
           have hc114 := ((H.ro 0 rfl).at hx110 hi111).int
           refine sq_g (v := (I x109)) (congrArg some hb96) (rv_load1 Try.underlying3 rfl rfl hc114) ?_
           refine sq_g (v := (Sl a14 r8.2.1 c15)) (congrArg some hb96) (rv_move rfl) ?_
           refine sq_g (v := (I s59)) (congrArg some hb96) (rv_move rfl) ?_
           obtain ⟨x115, hx116, h'⟩ := bind_some h
           clear h
           have h := h'; clear h'
           obtain ⟨b118, o119, hi117, -⟩ := (H.own 3 rfl).ix hx116
           refine sq_g (v := (pt b118 o119)) (congrArg some hb96) (rv_ix Try.underlying24 ti3 rfl rfl hi117) ?_
           have hc120 := ((H.own 3 rfl).at hx116 hi117).int
           refine sq_g (v := (I x115)) (congrArg some hb96) (rv_load1 Try.underlying3 rfl rfl hc120) ?_
           refine sq_end ?_
           intro σ121 hm122
           replace H := H.grow (hm122.mono fun _ h => h); clear hm122
           refine st_g (v := (B (x109 == x115))) (congrArg some hb96) (rv_eql (a := x109) (b := x115) rfl rfl) ?_
           refine st (v := (B (x109 == x115))) (rv_pick_f (congrArg B hb96) rfl) ?_
           refine st (v := (B (x109 == x115))) (rv_assign rfl) ?_
           refine w_end ?_
           obtain rfl := Option.some.inj h
           exact ⟨rfl, _, σ121, fr_join ⟨rfl, rfl, rfl, rfl, rfl, rfl, rfl, trivial⟩, rfl, H.sel' [1, 2, 3] rfl rfl⟩
         ·clear hj
          have h := h'
          clear h' H
          rintro e a w ⟨rfl, ρ, σ123, rfl, rfl, H⟩
          refine q_blk ?_
          refine q_then ?_
          refine rg ?_
          refine st (v := (I s63.2.2)) (rv_move rfl) ?_
          refine st (v := (I (w64 (s63.2.2 + 1)))) (rv_add (a := s63.2.2) (b := 1) rfl rfl) ?_
          refine st (v := (I (w64 (s63.2.2 + 1)))) (rv_assign rfl) ?_
          refine w_end ?_
          refine q_then ?_
          obtain rfl := Option.some.inj h
          exact ⟨_, rfl, _, σ123, fr_join ⟨rfl, rfl, rfl, rfl, rfl, rfl, rfl, trivial⟩, rfl, H.sel' [0, 1, 2] rfl rfl⟩
       ·replace h := bif_f hb65 h
        refine c_exit ?_
        refine q_then_x ?_
        refine q_then_x ?_
        refine q_blk_hit ?_
        obtain rfl := Option.some.inj h
        obtain rfl := hres _ rfl
        exact ⟨rfl, _, σ64, fr_join ⟨rfl, rfl, rfl, rfl, rfl, rfl, trivial⟩, rfl, H.sel' [0, 1, 2] rfl rfl⟩
      ·clear hj
       have h := h'
       clear h' H
       rintro e a w ⟨rfl, ρ, σ124, rfl, rfl, H⟩
       refine q_then ?_
       refine c_seq ?_
       obtain ⟨o125, hj, h'⟩ := bind_some h
       clear h
       refine c_cut (fun e a w => e = .normal ∧ ∃ (ρ : Nat → Value) (σ : St), a = fr 111 (updL ρ [(3, (Sl a5 r2 c6)), (4, (Sl a11 r8.1 c12)), (5, (Sl a14 r8.2.1 c15)), (10, (I s59)), (110, (B o125))]) ∧ w = σ.w ∧ Hp S0 σ0 σ [Ch.own n0 n0 (Sl a5 r2 c6) r2, Ch.own n0 n0 (Sl a11 r8.1 c12) r8.1, Ch.own n0 n0 (Sl a14 r8.2.1 c15) r8.2.1]) ?_ ?_
       ·clear h'
        rename _ = some o125 => h
        refine rg ?_
        refine st (v := (B o62.1)) (rv_move rfl) ?_
        refine st (v := (B (!o62.1))) (rv_not rfl) ?_
        refine st (v := (B (!o62.1))) (rv_move rfl) ?_
        rcases Bool.eq_false_or_eq_true (!o62.1) with hb126 | hb126
        ·replace h := bif_t hb126 h
         refine st_skip (congrArg some hb126) ?_
         refine st_skip (congrArg some hb126) ?_
         refine st (v := (B true)) (rv_pick_t (congrArg B hb126) rfl) ?_
         refine w_end ?_
         obtain rfl := Option.some.inj h
         exact ⟨rfl, _, σ124, fr_join ⟨rfl, rfl, rfl, rfl, rfl, trivial⟩, rfl, H.sel' [0, 1, 2] rfl rfl⟩
        ·replace h := bif_f hb126 h
         refine st_g (v := (B o62.2)) (congrArg some hb126) (rv_move rfl) ?_
         refine st_g (v := (B (!o62.2))) (congrArg some hb126) (rv_not rfl) ?_
         refine st (v := (B (!o62.2))) (rv_pick_f (congrArg B hb126) rfl) ?_
         refine w_end ?_
         obtain rfl := Option.some.inj h
         exact ⟨rfl, _, σ124, fr_join ⟨rfl, rfl, rfl, rfl, rfl, trivial⟩, rfl, H.sel' [0, 1, 2] rfl rfl⟩
       ·clear hj
        have h := h'
        clear h' H
        rintro e a w ⟨rfl, ρ, σ127, rfl, rfl, H⟩
        refine q_then ?_
        refine cd_cond o125 rfl (fun hb128 => ?_) (fun hb128 => ?_)
        ·replace h := bif_t hb128 h
         refine c_seq ?_
         refine rg ?_
         refine st (v := (B false)) (rv_assign rfl) ?_
         refine w_end ?_
         refine q_then ?_
         refine c_ret ?_
         refine q_blk_r ?_
         refine q_then_r ?_
         refine q_then_r ?_
         refine q_blk_r ?_
         obtain rfl := Option.some.inj h
         obtain rfl := hres _ rfl
         exact .inr (⟨_, rfl, rfl, _, σ127, fr_join ⟨rfl, trivial⟩, rfl, H.sel' [] rfl rfl⟩)
        ·replace h := bif_f hb128 h
         refine c_skip ?_
         refine q_blk ?_
         refine q_then ?_
         refine rg ?_
         refine st (v := (I s59)) (rv_move rfl) ?_
         refine st (v := (I (w64 (s59 + 1)))) (rv_add (a := s59) (b := 1) rfl rfl) ?_
         refine st (v := (I (w64 (s59 + 1)))) (rv_assign rfl) ?_
         refine w_end ?_
         refine q_then ?_
         obtain rfl := Option.some.inj h
         exact ⟨_, rfl, _, σ127, fr_join ⟨rfl, rfl, rfl, rfl, trivial⟩, rfl, H.sel' [0, 1, 2] rfl rfl⟩
     ·replace h := bif_f hb61 h
      refine c_exit ?_
      refine q_then_x ?_
      refine q_then_x ?_
      refine q_blk_hit ?_
      obtain rfl := Option.some.inj h
      obtain rfl := hres _ rfl
      exact .inl ⟨_, rfl, rfl, _, σ60, fr_join trivial, rfl, H.sel' [] rfl rfl⟩
    ·clear hj
     have h := h'
     clear h' H
     rintro e a w (⟨t129, rfl, rfl, ρ, σ130, rfl, rfl, H⟩ | ⟨t131, rfl, rfl, ρ, σ132, rfl, rfl, H⟩)
     ·replace h := selim_l h
      refine q_then ?_
      refine c_seq ?_
      refine rg ?_
      refine st (v := (B true)) (rv_assign rfl) ?_
      refine w_end ?_
      refine q_then ?_
      refine c_ret ?_
      obtain rfl := Option.some.inj h
      exact fin_ret (v := (B true)) (results_ok Try.results7 (res_tmp (v := (B true)) rfl res_nil) rfl) ⟨rfl, rfl⟩ (H.sel' [] rfl rfl)
     ·replace h := selim_r h
      refine q_then_r ?_
      obtain rfl := Option.some.inj h
      exact fin_ret (v := (B t131)) (results_ok Try.results7 (res_tmp (v := (B t131)) rfl res_nil) rfl) ⟨rfl, rfl⟩ (H.sel' [] rfl rfl)

end Go.Vs
