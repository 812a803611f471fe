/- The functions compute what their models say. -/
import Derived.Test.YtfcemgcmpcmgcaaKRollBackC6
set_option linter.unusedVariables false
set_option linter.unusedSimpArgs false
set_option maxRecDepth 20000
namespace Go.Vs
open Go Go.Proofs
attribute [local irreducible] Code.wp Code.wpIn wpList wpListIn wpQuiet Calls CallsIn

theorem c_laws_FnRollBack {code_0 : List UInt8} {acode_0 : Option Addr} {ccode_0 : Nat} {r : Bool} (h : M.laws_FnRollBack code_0 = some r) :
    Cal2 Try.prog 8 [(Sl acode_0 code_0 ccode_0)] [Ch.ro 0 (Sl acode_0 code_0 ccode_0) code_0] (fun n0 v L => v = (B r) ∧ L = []) := by
 refine cal2 (n := 80) Try.func8 rfl rfl rfl rfl ?_
 intro S0 σ0 n0 hn0 H
 unfold M.laws_FnRollBack at h
 refine c_seq ?_
 refine rg ?_
 refine st (v := (B false)) (rv_assign rfl) ?_
 refine w_end ?_
 refine q_then ?_
 refine c_seq ?_
 refine c_seq ?_
 refine rg ?_
 refine st (v := (Sl acode_0 code_0 ccode_0)) (rv_move rfl) ?_
 refine st (v := (I (code_0.length : Int))) (rv_len Try.underlying22 rfl) ?_
 refine st (v := (B (decide (1048576 < (code_0.length : Int))))) (rv_gtr (a := (code_0.length : Int)) (b := 1048576) rfl rfl) ?_
 refine w_end ?_
 refine q_then ?_
 refine cd_cond (decide (1048576 < (code_0.length : Int))) rfl (fun hb1 => ?_) (fun hb1 => ?_)
 ·replace h := bif_t hb1 h
  refine c_seq ?_
  refine rg ?_
  refine st (v := (B true)) (rv_assign rfl) ?_
  refine w_end ?_
  refine q_then ?_
  refine c_ret ?_
  refine q_then_r ?_
  obtain rfl := Option.some.inj h
  exact fin_ret (v := (B true)) (results_ok Try.results8 (res_tmp (v := (B true)) rfl res_nil) rfl) ⟨rfl, rfl⟩ (H.sel' [] rfl rfl)
 ·replace h := bif_f hb1 h
  refine c_skip ?_
  refine q_then ?_
  refine c_seq ?_
  refine rg ?_
  refine st (v := (Sl acode_0 code_0 ccode_0)) (rv_move rfl) ?_
  obtain ⟨r2, hx3, h'⟩ := bind_some h
  clear h
  have h := h'; clear h'
  have hc4 := c_spec_DrawRollBack (acode_0 := acode_0) (ccode_0 := ccode_0) hx3
  refine st_call (cx_call hc4 (ent_f hc4.fn rfl) hn0 (show Hp S0 σ0 _ ([Ch.ro 0 (Sl acode_0 code_0 ccode_0) code_0] ++ [Ch.ro 0 (Sl acode_0 code_0 ccode_0) code_0]) from (H.sel' [0, 0] rfl rfl))) wn ?_
  rintro _ σ9 ⟨_, ⟨a5, c6, a7, c8, rfl, rfl⟩, H, -⟩
  replace H : Hp S0 σ0 σ9 [Ch.ro n0 (Sl a5 r2.1.1 c6) r2.1.1, Ch.ro n0 (Sl a7 r2.1.2 c8) r2.1.2, Ch.ro 0 (Sl acode_0 code_0 ccode_0) code_0] := H
  refine st (v := (.tuple #[(.agg #[(Sl a5 r2.1.1 c6), (Sl a7 r2.1.2 c8)]), (I r2.2)])) (rv_move rfl) ?_
  refine st (v := (.agg #[(Sl a5 r2.1.1 c6), (Sl a7 r2.1.2 c8)])) (rv_extract rfl rfl) ?_
  refine st (v := (I r2.2)) (rv_extract rfl rfl) ?_
  refine st_ex (ex_alloc (cs := [(.slice none 0 0), (.slice none 0 0)]) H hn0 ti26 rfl) wn ?_
  rintro _ σ11 ⟨b10, rfl, H, -⟩
  refine st_exS (ex_store_box (k := 0) (cs := [(.slice none 0 0), (.slice none 0 0)]) (vs := [(Sl a5 r2.1.1 c6), (Sl a7 r2.1.2 c8)]) (cs' := [(Sl a5 r2.1.1 c6), (Sl a7 r2.1.2 c8)]) H (i := 0) rfl ti26 rfl rfl rfl rfl rfl (Nat.le_of_ble_eq_true rfl) (by simp [plain]) rfl) wn ?_
  rintro σ12 ⟨H, -⟩
  refine st (v := (I r2.2)) (rv_assign rfl) ?_
  refine w_end ?_
  refine q_then ?_
  refine c_seq ?_
  refine rg ?_
  have hc13 := H.cells 0 rfl
  refine st (v := (.agg #[(Sl a5 r2.1.1 c6), (Sl a7 r2.1.2 c8)])) (rv_load (cs := [(Sl a5 r2.1.1 c6), (Sl a7 r2.1.2 c8)]) Try.underlying26 rfl ti26 rfl rfl hc13) ?_
  refine st (v := (I r2.2)) (rv_move rfl) ?_
  replace H := H.roLow 1 0 rfl (Nat.zero_le _)
  replace H := H.roLow 3 0 rfl (Nat.zero_le _)
  obtain ⟨r14, hx15, h'⟩ := bind_some h
  clear h
  have h := h'; clear h'
  have hc16 := c_impl_RollBack (ah_0_0 := a5) (ch_0_0 := c6) (ah_0_1 := a7) (ch_0_1 := c8) hx15
  refine st_call (cx_call hc16 (ent_f hc16.fn rfl) hn0 (show Hp S0 σ0 _ ([Ch.ro 0 (Sl a5 r2.1.1 c6) r2.1.1, Ch.ro 0 (Sl a7 r2.1.2 c8) r2.1.2] ++ [Ch.ro 0 (Sl a7 r2.1.2 c8) r2.1.2, Ch.ro 0 (Sl a5 r2.1.1 c6) r2.1.1, Ch.bx n0 b10 0 [(Sl a5 r2.1.1 c6), (Sl a7 r2.1.2 c8)] [] [], Ch.ro n0 (Sl a5 r2.1.1 c6) r2.1.1, Ch.ro n0 (Sl a7 r2.1.2 c8) r2.1.2, Ch.ro 0 (Sl acode_0 code_0 ccode_0) code_0]) from (H.sel' [1, 0, 0, 1, 2, 3, 4, 5] rfl rfl))) wn ?_
  rintro _ σ22 ⟨_, ⟨a17, c18, a20, c21, rfl, rfl, ht19⟩, H, -⟩
  replace H : Hp S0 σ0 σ22 [Ch.own n0 n0 (Sl a17 r14.1.1 c18) r14.1.1, Ch.own n0 n0 (Sl a20 r14.1.2 c21) r14.1.2, Ch.ro 0 (Sl a7 r2.1.2 c8) r2.1.2, Ch.ro 0 (Sl a5 r2.1.1 c6) r2.1.1, Ch.bx n0 b10 0 [(Sl a5 r2.1.1 c6), (Sl a7 r2.1.2 c8)] [] [], Ch.ro n0 (Sl a5 r2.1.1 c6) r2.1.1, Ch.ro n0 (Sl a7 r2.1.2 c8) r2.1.2, Ch.ro 0 (Sl acode_0 code_0 ccode_0) code_0] := H
  replace H : Hp S0 σ0 σ22 [Ch.own n0 n0 (Sl a17 r14.1.1 c18) r14.1.1, Ch.own n0 n0 (Sl a20 r14.1.2 c21) r14.1.2, Ch.bx n0 b10 0 [(Sl a5 r2.1.1 c6), (Sl a7 r2.1.2 c8)] [] [], Ch.ro n0 (Sl a5 r2.1.1 c6) r2.1.1, Ch.ro n0 (Sl a7 r2.1.2 c8) r2.1.2] := H.sel' [0, 1, 4, 5, 6] rfl rfl
  refine st (v := (.tuple #[(.agg #[(Sl a17 r14.1.1 c18), (Sl a20 r14.1.2 c21)]), (B r14.2)])) (rv_move rfl) ?_
  refine st (v := (.agg #[(Sl a17 r14.1.1 c18), (Sl a20 r14.1.2 c21)])) (rv_extract rfl rfl) ?_
  refine st (v := (B r14.2)) (rv_extract rfl rfl) ?_
  refine st_ex (ex_alloc (cs := [(.slice none 0 0), (.slice none 0 0)]) H hn0 ti26 rfl) wn ?_
  rintro _ σ24 ⟨b23, rfl, H, -⟩
  refine st_exS (ex_store_box (k := 0) (cs := [(.slice none 0 0), (.slice none 0 0)]) (vs := [(Sl a17 r14.1.1 c18), (Sl a20 r14.1.2 c21)]) (cs' := [(Sl a17 r14.1.1 c18), (Sl a20 r14.1.2 c21)]) H (i := 0) rfl ti26 rfl rfl rfl rfl rfl (Nat.le_of_ble_eq_true rfl) (by simp [plain]) rfl) wn ?_
  rintro σ25 ⟨H, -⟩
  refine st (v := (B r14.2)) (rv_assign rfl) ?_
  refine w_end ?_
  refine q_then ?_
  refine c_seq ?_
  refine rg ?_
  have hc26 := H.cells 3 rfl
  refine st (v := (.agg #[(Sl a5 r2.1.1 c6), (Sl a7 r2.1.2 c8)])) (rv_load (cs := [(Sl a5 r2.1.1 c6), (Sl a7 r2.1.2 c8)]) Try.underlying26 rfl ti26 rfl rfl hc26) ?_
  refine st (v := (I r2.2)) (rv_move rfl) ?_
  replace H := H.roLow 4 0 rfl (Nat.zero_le _)
  replace H := H.roLow 6 0 rfl (Nat.zero_le _)
  obtain ⟨r27, hx28, h'⟩ := bind_some h
  clear h
  have h := h'; clear h'
  have hc29 := c_spec_RollBack (ah_0_0 := a5) (ch_0_0 := c6) (ah_0_1 := a7) (ch_0_1 := c8) hx28
  refine st_call (cx_call hc29 (ent_f hc29.fn rfl) hn0 (show Hp S0 σ0 _ ([Ch.ro 0 (Sl a5 r2.1.1 c6) r2.1.1, Ch.ro 0 (Sl a7 r2.1.2 c8) r2.1.2] ++ [Ch.ro 0 (Sl a7 r2.1.2 c8) r2.1.2, Ch.ro 0 (Sl a5 r2.1.1 c6) r2.1.1, Ch.bx n0 b23 0 [(Sl a17 r14.1.1 c18), (Sl a20 r14.1.2 c21)] [] [], Ch.own n0 n0 (Sl a17 r14.1.1 c18) r14.1.1, Ch.own n0 n0 (Sl a20 r14.1.2 c21) r14.1.2, Ch.bx n0 b10 0 [(Sl a5 r2.1.1 c6), (Sl a7 r2.1.2 c8)] [] [], Ch.ro n0 (Sl a5 r2.1.1 c6) r2.1.1, Ch.ro n0 (Sl a7 r2.1.2 c8) r2.1.2]) from (H.sel' [1, 0, 0, 1, 2, 3, 4, 5, 6, 7] rfl rfl))) wn ?_
  rintro _ σ34 ⟨_, ⟨a30, c31, a32, c33, rfl, rfl⟩, H, -⟩
  replace H : Hp S0 σ0 σ34 [Ch.own n0 n0 (Sl a30 r27.1.1 c31) r27.1.1, Ch.own n0 n0 (Sl a32 r27.1.2 c33) r27.1.2, Ch.ro 0 (Sl a7 r2.1.2 c8) r2.1.2, Ch.ro 0 (Sl a5 r2.1.1 c6) r2.1.1, Ch.bx n0 b23 0 [(Sl a17 r14.1.1 c18), (Sl a20 r14.1.2 c21)] [] [], Ch.own n0 n0 (Sl a17 r14.1.1 c18) r14.1.1, Ch.own n0 n0 (Sl a20 r14.1.2 c21) r14.1.2, Ch.bx n0 b10 0 [(Sl a5 r2.1.1 c6), (Sl a7 r2.1.2 c8)] [] [], Ch.ro n0 (Sl a5 r2.1.1 c6) r2.1.1, Ch.ro n0 (Sl a7 r2.1.2 c8) r2.1.2] := H
  replace H : Hp S0 σ0 σ34 [Ch.own n0 n0 (Sl a30 r27.1.1 c31) r27.1.1, Ch.own n0 n0 (Sl a32 r27.1.2 c33) r27.1.2, Ch.bx n0 b23 0 [(Sl a17 r14.1.1 c18), (Sl a20 r14.1.2 c21)] [] [], Ch.own n0 n0 (Sl a17 r14.1.1 c18) r14.1.1, Ch.own n0 n0 (Sl a20 r14.1.2 c21) r14.1.2, Ch.bx n0 b10 0 [(Sl a5 r2.1.1 c6), (Sl a7 r2.1.2 c8)] [] [], Ch.ro n0 (Sl a5 r2.1.1 c6) r2.1.1, Ch.ro n0 (Sl a7 r2.1.2 c8) r2.1.2] := H.sel' [0, 1, 4, 5, 6, 7, 8, 9] rfl rfl
  refine st (v := (.tuple #[(.agg #[(Sl a30 r27.1.1 c31), (Sl a32 r27.1.2 c33)]), (B r27.2)])) (rv_move rfl) ?_
  refine st (v := (.agg #[(Sl a30 r27.1.1 c31), (Sl a32 r27.1.2 c33)])) (rv_extract rfl rfl) ?_
  refine st (v := (B r27.2)) (rv_extract rfl rfl) ?_
  refine st_ex (ex_alloc (cs := [(.slice none 0 0), (.slice none 0 0)]) H hn0 ti26 rfl) wn ?_
  rintro _ σ36 ⟨b35, rfl, H, -⟩
  refine st_exS (ex_store_box (k := 0) (cs := [(.slice none 0 0), (.slice none 0 0)]) (vs := [(Sl a30 r27.1.1 c31), (Sl a32 r27.1.2 c33)]) (cs' := [(Sl a30 r27.1.1 c31), (Sl a32 r27.1.2 c33)]) H (i := 0) rfl ti26 rfl rfl rfl rfl rfl (Nat.le_of_ble_eq_true rfl) (by simp [plain]) rfl) wn ?_
  rintro σ37 ⟨H, -⟩
  refine st (v := (B r27.2)) (rv_assign rfl) ?_
  refine w_end ?_
  refine q_then ?_
  refine c_seq ?_
  refine c_seq ?_
  obtain ⟨o38, hj, h'⟩ := bind_some h
  clear h
  refine c_cut (fun e a w => e = .normal ∧ ∃ (ρ : Nat → Value) (σ : St), a = fr 80 (updL ρ [(3, (pt b10 0)), (4, (I r2.2)), (5, (pt b23 0)), (6, (B r14.2)), (7, (pt b35 0)), (8, (B r27.2)), (42, (B o38))]) ∧ w = σ.w ∧ Hp S0 σ0 σ [Ch.ro n0 (Sl a5 r2.1.1 c6) r2.1.1, Ch.ro n0 (Sl a7 r2.1.2 c8) r2.1.2, Ch.bx n0 b10 0 [(Sl a5 r2.1.1 c6), (Sl a7 r2.1.2 c8)] [] [], Ch.own n0 n0 (Sl a17 r14.1.1 c18) r14.1.1, Ch.own n0 n0 (Sl a20 r14.1.2 c21) r14.1.2, Ch.bx n0 b23 0 [(Sl a17 r14.1.1 c18), (Sl a20 r14.1.2 c21)] [] [], Ch.own n0 n0 (Sl a30 r27.1.1 c31) r27.1.1, Ch.own n0 n0 (Sl a32 r27.1.2 c33) r27.1.2, Ch.bx n0 b35 0 [(Sl a30 r27.1.1 c31), (Sl a32 r27.1.2 c33)] [] []]) ?_ ?_
  ·clear h'
   rename _ = some o38 => h
   refine rg ?_
   have hc39 := H.cells 3 rfl
   refine st (v := (.agg #[(Sl a17 r14.1.1 c18), (Sl a20 r14.1.2 c21)])) (rv_load (cs := [(Sl a17 r14.1.1 c18), (Sl a20 r14.1.2 c21)]) Try.underlying26 rfl ti26 rfl rfl hc39) ?_
   have hc40 := H.cells 0 rfl
   refine st (v := (.agg #[(Sl a30 r27.1.1 c31), (Sl a32 r27.1.2 c33)])) (rv_load (cs := [(Sl a30 r27.1.1 c31), (Sl a32 r27.1.2 c33)]) Try.underlying26 rfl ti26 rfl rfl hc40) ?_
   obtain ⟨r41, hx42, h'⟩ := bind_some h
   clear h
   have h := h'; clear h'
   have hc43 := c_laws_equalHistory (aa_0_0 := a17) (ca_0_0 := c18) (aa_0_1 := a20) (ca_0_1 := c21) (ab_1_0 := a30) (cb_1_0 := c31) (ab_1_1 := a32) (cb_1_1 := c33) hx42
   have hle := Nat.le_trans hn0 H.size
   refine st_call (cx_lend (Loan.lend (Loan.lend (Loan.lend (Loan.lend Loan.nil)))) hc43 (ent_f hc43.fn rfl) (show Hp S0 σ0 _ ([Ch.own n0 n0 (Sl a17 r14.1.1 c18) r14.1.1, Ch.own n0 n0 (Sl a20 r14.1.2 c21) r14.1.2, Ch.own n0 n0 (Sl a30 r27.1.1 c31) r27.1.1, Ch.own n0 n0 (Sl a32 r27.1.2 c33) r27.1.2] ++ ([] ++ [Ch.bx n0 b35 0 [(Sl a30 r27.1.1 c31), (Sl a32 r27.1.2 c33)] [] [], Ch.bx n0 b23 0 [(Sl a17 r14.1.1 c18), (Sl a20 r14.1.2 c21)] [] [], Ch.bx n0 b10 0 [(Sl a5 r2.1.1 c6), (Sl a7 r2.1.2 c8)] [] [], Ch.ro n0 (Sl a5 r2.1.1 c6) r2.1.1, Ch.ro n0 (Sl a7 r2.1.2 c8) r2.1.2])) from (H.sel' [4, 5, 1, 2, 0, 3, 6, 7, 8] rfl rfl)) (by rintro _ _ _ ⟨rfl, rfl⟩; exact trivial)) wn ?_
   rintro _ σ44 ⟨_, ⟨rfl, rfl⟩, H, -, -⟩
   replace H : Hp S0 σ0 σ44 [Ch.own n0 n0 (Sl a17 r14.1.1 c18) r14.1.1, Ch.own n0 n0 (Sl a20 r14.1.2 c21) r14.1.2, Ch.own n0 n0 (Sl a30 r27.1.1 c31) r27.1.1, Ch.own n0 n0 (Sl a32 r27.1.2 c33) r27.1.2, Ch.bx n0 b35 0 [(Sl a30 r27.1.1 c31), (Sl a32 r27.1.2 c33)] [] [], Ch.bx n0 b23 0 [(Sl a17 r14.1.1 c18), (Sl a20 r14.1.2 c21)] [] [], Ch.bx n0 b10 0 [(Sl a5 r2.1.1 c6), (Sl a7 r2.1.2 c8)] [] [], Ch.ro n0 (Sl a5 r2.1.1 c6) r2.1.1, Ch.ro n0 (Sl a7 r2.1.2 c8) r2.1.2] := H
   clear hle
   replace H : Hp S0 σ0 σ44 [Ch.own n0 n0 (Sl a17 r14.1.1 c18) r14.1.1, Ch.own n0 n0 (Sl a20 r14.1.2 c21) r14.1.2, Ch.own n0 n0 (Sl a30 r27.1.1 c31) r27.1.1, Ch.own n0 n0 (Sl a32 r27.1.2 c33) r27.1.2, Ch.bx n0 b35 0 [(Sl a30 r27.1.1 c31), (Sl a32 r27.1.2 c33)] [] [], Ch.bx n0 b23 0 [(Sl a17 r14.1.1 c18), (Sl a20 r14.1.2 c21)] [] [], Ch.bx n0 b10 0 [(Sl a5 r2.1.1 c6), (Sl a7 r2.1.2 c8)] [] [], Ch.ro n0 (Sl a5 r2.1.1 c6) r2.1.1, Ch.ro n0 (Sl a7 r2.1.2 c8) r2.1.2] := H
   refine st (v := (B (!r41))) (rv_not rfl) ?_
   refine st (v := (B (!r41))) (rv_move rfl) ?_
   rcases Bool.eq_false_or_eq_true (!r41) with hb45 | hb45
   ·replace h := bif_t hb45 h
    refine st_skip (congrArg some hb45) ?_
    refine st_skip (congrArg some hb45) ?_
    refine st_skip (congrArg some hb45) ?_
    refine st (v := (B true)) (rv_pick_t (congrArg B hb45) rfl) ?_
    refine st (v := (B true)) (rv_move rfl) ?_
    refine st_skip rfl ?_
    refine st_skip rfl ?_
    refine st (v := (B true)) (rv_pick_t rfl rfl) ?_
    refine w_end ?_
    obtain rfl := Option.some.inj h
    exact ⟨rfl, _, σ44, fr_join ⟨rfl, rfl, rfl, rfl, rfl, rfl, rfl, trivial⟩, rfl, H.sel' [7, 8, 6, 0, 1, 5, 2, 3, 4] rfl rfl⟩
   ·replace h := bif_f hb45 h
    refine st_g (v := (B r14.2)) (congrArg some hb45) (rv_move rfl) ?_
    refine st_g (v := (B r27.2)) (congrArg some hb45) (rv_move rfl) ?_
    refine st_g (v := (B (r14.2 != r27.2))) (congrArg some hb45) (rv_bneq Try.underlying4 rfl rfl) ?_
    refine st (v := (B (r14.2 != r27.2))) (rv_pick_f (congrArg B hb45) rfl) ?_
    refine st (v := (B (r14.2 != r27.2))) (rv_move rfl) ?_
    rcases Bool.eq_false_or_eq_true (r14.2 != r27.2) with hb46 | hb46
    ·replace h := bif_t hb46 h
     refine st_skip (congrArg some hb46) ?_
     refine st_skip (congrArg some hb46) ?_
     refine st (v := (B true)) (rv_pick_t (congrArg B hb46) rfl) ?_
     refine w_end ?_
     obtain rfl := Option.some.inj h
     exact ⟨rfl, _, σ44, fr_join ⟨rfl, rfl, rfl, rfl, rfl, rfl, rfl, trivial⟩, rfl, H.sel' [7, 8, 6, 0, 1, 5, 2, 3, 4] rfl rfl⟩
    ·replace h := bif_f hb46 h
     refine st_g (v := (B r14.2)) (congrArg some hb46) (rv_move rfl) ?_
     refine st_g (v := (B (!r14.2))) (congrArg some hb46) (rv_not rfl) ?_
     refine st (v := (B (!r14.2))) (rv_pick_f (congrArg B hb46) rfl) ?_
     refine w_end ?_
     obtain rfl := Option.some.inj h
     exact ⟨rfl, _, σ44, fr_join ⟨rfl, rfl, rfl, rfl, rfl, rfl, rfl, trivial⟩, rfl, H.sel' [7, 8, 6, 0, 1, 5, 2, 3, 4] rfl rfl⟩
  ·clear hj
   have h := h'
   clear h' H
   rintro e a w ⟨rfl, ρ, σ47, rfl, rfl, H⟩
   refine q_then ?_
   refine cd_cond o38 rfl (fun hb48 => ?_) (fun hb48 => ?_)
   ·replace h := bif_t hb48 h
    refine c_seq ?_
    refine rg ?_
    have hc49 := H.cells 5 rfl
    refine st (v := (.agg #[(Sl a17 r14.1.1 c18), (Sl a20 r14.1.2 c21)])) (rv_load (cs := [(Sl a17 r14.1.1 c18), (Sl a20 r14.1.2 c21)]) Try.underlying26 rfl ti26 rfl rfl hc49) ?_
    have hc50 := H.cells 8 rfl
    refine st (v := (.agg #[(Sl a30 r27.1.1 c31), (Sl a32 r27.1.2 c33)])) (rv_load (cs := [(Sl a30 r27.1.1 c31), (Sl a32 r27.1.2 c33)]) Try.underlying26 rfl ti26 rfl rfl hc50) ?_
    obtain ⟨σ51, hw52, H, -⟩ := H.pub 3 rfl (Nat.le_refl _)
    rw [← hw52]; clear hw52
    obtain ⟨σ53, hw54, H, -⟩ := H.pub 4 rfl (Nat.le_refl _)
    rw [← hw54]; clear hw54
    obtain ⟨σ55, hw56, H, -⟩ := H.pub 6 rfl (Nat.le_refl _)
    rw [← hw56]; clear hw56
    obtain ⟨σ57, hw58, H, -⟩ := H.pub 7 rfl (Nat.le_refl _)
    rw [← hw58]; clear hw58
    replace H := H.roLow 3 0 rfl (Nat.zero_le _)
    replace H := H.roLow 3 0 rfl (Nat.zero_le _)
    replace H := H.roLow 3 0 rfl (Nat.zero_le _)
    replace H := H.roLow 3 0 rfl (Nat.zero_le _)
    obtain ⟨r59, hx60, h'⟩ := bind_some h
    clear h
    have h := h'; clear h'
    have hc61 := c_laws_equalHistory (aa_0_0 := a17) (ca_0_0 := c18) (aa_0_1 := a20) (ca_0_1 := c21) (ab_1_0 := a30) (cb_1_0 := c31) (ab_1_1 := a32) (cb_1_1 := c33) hx60
    refine st_call (cx_call hc61 (ent_f hc61.fn rfl) hn0 (show Hp S0 σ0 _ ([Ch.ro 0 (Sl a17 r14.1.1 c18) r14.1.1, Ch.ro 0 (Sl a20 r14.1.2 c21) r14.1.2, Ch.ro 0 (Sl a30 r27.1.1 c31) r27.1.1, Ch.ro 0 (Sl a32 r27.1.2 c33) r27.1.2] ++ [Ch.ro 0 (Sl a32 r27.1.2 c33) r27.1.2, Ch.ro 0 (Sl a30 r27.1.1 c31) r27.1.1, Ch.ro 0 (Sl a20 r14.1.2 c21) r14.1.2, Ch.ro 0 (Sl a17 r14.1.1 c18) r14.1.1, Ch.ro n0 (Sl a32 r27.1.2 c33) r27.1.2, Ch.ro n0 (Sl a30 r27.1.1 c31) r27.1.1, Ch.ro n0 (Sl a20 r14.1.2 c21) r14.1.2, Ch.ro n0 (Sl a17 r14.1.1 c18) r14.1.1, Ch.ro n0 (Sl a5 r2.1.1 c6) r2.1.1, Ch.ro n0 (Sl a7 r2.1.2 c8) r2.1.2, Ch.bx n0 b10 0 [(Sl a5 r2.1.1 c6), (Sl a7 r2.1.2 c8)] [] [], Ch.bx n0 b23 0 [(Sl a17 r14.1.1 c18), (Sl a20 r14.1.2 c21)] [] [], Ch.bx n0 b35 0 [(Sl a30 r27.1.1 c31), (Sl a32 r27.1.2 c33)] [] []]) from (H.sel' [3, 2, 1, 0, 0, 1, 2, 3, 4, 5, 6, 7, 8, 9, 10, 11, 12] rfl rfl))) wn ?_
    rintro _ σ62 ⟨_, ⟨rfl, rfl⟩, H, -⟩
    replace H : Hp S0 σ0 σ62 [Ch.ro 0 (Sl a32 r27.1.2 c33) r27.1.2, Ch.ro 0 (Sl a30 r27.1.1 c31) r27.1.1, Ch.ro 0 (Sl a20 r14.1.2 c21) r14.1.2, Ch.ro 0 (Sl a17 r14.1.1 c18) r14.1.1, Ch.ro n0 (Sl a32 r27.1.2 c33) r27.1.2, Ch.ro n0 (Sl a30 r27.1.1 c31) r27.1.1, Ch.ro n0 (Sl a20 r14.1.2 c21) r14.1.2, Ch.ro n0 (Sl a17 r14.1.1 c18) r14.1.1, Ch.ro n0 (Sl a5 r2.1.1 c6) r2.1.1, Ch.ro n0 (Sl a7 r2.1.2 c8) r2.1.2, Ch.bx n0 b10 0 [(Sl a5 r2.1.1 c6), (Sl a7 r2.1.2 c8)] [] [], Ch.bx n0 b23 0 [(Sl a17 r14.1.1 c18), (Sl a20 r14.1.2 c21)] [] [], Ch.bx n0 b35 0 [(Sl a30 r27.1.1 c31), (Sl a32 r27.1.2 c33)] [] []] := H
    replace H : Hp S0 σ0 σ62 [] := H.sel' [] rfl rfl
    refine st (v := (B r59)) (rv_move rfl) ?_
    rcases Bool.eq_false_or_eq_true r59 with hb63 | hb63
    ·replace h := bif_t hb63 h
     refine st_g (v := (B r14.2)) (congrArg some hb63) (rv_move rfl) ?_
     refine st_g (v := (B r27.2)) (congrArg some hb63) (rv_move rfl) ?_
     refine st_g (v := (B (r14.2 == r27.2))) (congrArg some hb63) (rv_beql Try.underlying4 rfl rfl) ?_
     refine st (v := (B (r14.2 == r27.2))) (rv_pick_t (congrArg B hb63) rfl) ?_
     refine st (v := (B (r14.2 == r27.2))) (rv_assign rfl) ?_
     refine w_end ?_
     refine q_then ?_
     refine c_ret ?_
     refine q_then_r ?_
     obtain rfl := Option.some.inj h
     exact fin_ret (v := (B (r14.2 == r27.2))) (results_ok Try.results8 (res_tmp (v := (B (r14.2 == r27.2))) rfl res_nil) rfl) ⟨rfl, rfl⟩ (H.sel' [] rfl rfl)
    ·replace h := bif_f hb63 h
     refine st_skip (congrArg some hb63) ?_
     refine st_skip (congrArg some hb63) ?_
     refine st_skip (congrArg some hb63) ?_
     refine st (v := (B false)) (rv_pick_f (congrArg B hb63) rfl) ?_
     refine st (v := (B false)) (rv_assign rfl) ?_
     refine w_end ?_
     refine q_then ?_
     refine c_ret ?_
     refine q_then_r ?_
     obtain rfl := Option.some.inj h
     exact fin_ret (v := (B false)) (results_ok Try.results8 (res_tmp (v := (B false)) rfl res_nil) rfl) ⟨rfl, rfl⟩ (H.sel' [] rfl rfl)
   ·replace h := bif_f hb48 h
    refine c_skip ?_
    refine q_then ?_
    refine c_seq ?_
    refine rg ?_
    have hc64 := H.cells 2 rfl
    refine st (v := (.agg #[(Sl a5 r2.1.1 c6), (Sl a7 r2.1.2 c8)])) (rv_load (cs := [(Sl a5 r2.1.1 c6), (Sl a7 r2.1.2 c8)]) Try.underlying26 rfl ti26 rfl rfl hc64) ?_
    refine st (v := (I r2.2)) (rv_move rfl) ?_
    replace H := H.roLow 0 0 rfl (Nat.zero_le _)
    replace H := H.roLow 2 0 rfl (Nat.zero_le _)
    obtain ⟨r65, hx66, h'⟩ := bind_some h
    clear h
    have h := h'; clear h'
    have hc67 := c_impl_StoreAt (ah_0_0 := a5) (ch_0_0 := c6) (ah_0_1 := a7) (ch_0_1 := c8) hx66
    refine st_call (cx_call hc67 (ent_f hc67.fn rfl) hn0 (show Hp S0 σ0 _ ([Ch.ro 0 (Sl a5 r2.1.1 c6) r2.1.1, Ch.ro 0 (Sl a7 r2.1.2 c8) r2.1.2] ++ [Ch.ro 0 (Sl a7 r2.1.2 c8) r2.1.2, Ch.ro 0 (Sl a5 r2.1.1 c6) r2.1.1, Ch.ro n0 (Sl a5 r2.1.1 c6) r2.1.1, Ch.ro n0 (Sl a7 r2.1.2 c8) r2.1.2, Ch.bx n0 b10 0 [(Sl a5 r2.1.1 c6), (Sl a7 r2.1.2 c8)] [] [], Ch.own n0 n0 (Sl a17 r14.1.1 c18) r14.1.1, Ch.own n0 n0 (Sl a20 r14.1.2 c21) r14.1.2, Ch.bx n0 b23 0 [(Sl a17 r14.1.1 c18), (Sl a20 r14.1.2 c21)] [] [], Ch.own n0 n0 (Sl a30 r27.1.1 c31) r27.1.1, Ch.own n0 n0 (Sl a32 r27.1.2 c33) r27.1.2, Ch.bx n0 b35 0 [(Sl a30 r27.1.1 c31), (Sl a32 r27.1.2 c33)] [] []]) from (H.sel' [1, 0, 0, 1, 2, 3, 4, 5, 6, 7, 8, 9, 10] rfl rfl))) wn ?_
    rintro _ σ70 ⟨_, ⟨a68, c69, rfl, rfl⟩, H, -⟩
    replace H : Hp S0 σ0 σ70 [Ch.own 0 0 (Sl a68 r65 c69) r65, Ch.ro 0 (Sl a7 r2.1.2 c8) r2.1.2, Ch.ro 0 (Sl a5 r2.1.1 c6) r2.1.1, Ch.ro n0 (Sl a5 r2.1.1 c6) r2.1.1, Ch.ro n0 (Sl a7 r2.1.2 c8) r2.1.2, Ch.bx n0 b10 0 [(Sl a5 r2.1.1 c6), (Sl a7 r2.1.2 c8)] [] [], Ch.own n0 n0 (Sl a17 r14.1.1 c18) r14.1.1, Ch.own n0 n0 (Sl a20 r14.1.2 c21) r14.1.2, Ch.bx n0 b23 0 [(Sl a17 r14.1.1 c18), (Sl a20 r14.1.2 c21)] [] [], Ch.own n0 n0 (Sl a30 r27.1.1 c31) r27.1.1, Ch.own n0 n0 (Sl a32 r27.1.2 c33) r27.1.2, Ch.bx n0 b35 0 [(Sl a30 r27.1.1 c31), (Sl a32 r27.1.2 c33)] [] []] := H
    replace H : Hp S0 σ0 σ70 [Ch.own 0 0 (Sl a68 r65 c69) r65, Ch.ro n0 (Sl a5 r2.1.1 c6) r2.1.1, Ch.ro n0 (Sl a7 r2.1.2 c8) r2.1.2, Ch.bx n0 b10 0 [(Sl a5 r2.1.1 c6), (Sl a7 r2.1.2 c8)] [] [], Ch.own n0 n0 (Sl a17 r14.1.1 c18) r14.1.1, Ch.own n0 n0 (Sl a20 r14.1.2 c21) r14.1.2, Ch.bx n0 b23 0 [(Sl a17 r14.1.1 c18), (Sl a20 r14.1.2 c21)] [] []] := H.sel' [0, 3, 4, 5, 6, 7, 8] rfl rfl
    refine st (v := (Sl a68 r65 c69)) (rv_assign rfl) ?_
    refine w_end ?_
    refine q_then ?_
    refine c_seq ?_
    obtain ⟨σ71, hw72, H, -⟩ := H.pub 4 rfl (Nat.le_refl _)
    rw [← hw72]; clear hw72
    obtain ⟨σ73, hw74, H, -⟩ := H.pub 5 rfl (Nat.le_refl _)
    rw [← hw74]; clear hw74
    obtain ⟨σ75, hw76, H, -⟩ := H.pub 2 rfl (Nat.le_refl _)
    rw [← hw76]; clear hw76
    have hc77 := H.cells 6 rfl
    replace H := H.roLow 2 0 rfl (Nat.zero_le _)
    replace H := H.roLow 2 0 rfl (Nat.zero_le _)
    obtain ⟨r78, hx79, h'⟩ := bind_some h
    clear h
    have h := h'; clear h'
    have hc80 := c_impl_StoreAt (ah_0_0 := a17) (ch_0_0 := c18) (ah_0_1 := a20) (ch_0_1 := c21) hx79
    obtain ⟨r83, hx84, h'⟩ := bind_some h
    clear h
    have h := h'; clear h'
    have hc85 := fun (a81 : Option Addr) (c82 : Nat) => c_laws_equalItems (aa_0 := a81) (ca_0 := c82) (ab_1 := a68) (cb_1 := c69) hx84
    rcases Bool.eq_false_or_eq_true r83 with hb86 | hb86
    ·replace h := bif_t hb86 h
     have hc87 := H.cells 8 rfl
     replace H := H.roLow 4 0 rfl (Nat.zero_le _)
     replace H := H.roLow 4 0 rfl (Nat.zero_le _)
     obtain ⟨r88, hx89, h'⟩ := bind_some h
     clear h
     have h := h'; clear h'
     have hc90 := c_impl_StoreAt (ah_0_0 := a17) (ch_0_0 := c18) (ah_0_1 := a20) (ch_0_1 := c21) hx89
     obtain ⟨r93, hx94, h'⟩ := bind_some h
     clear h
     have h := h'; clear h'
     have hc95 := fun (a91 : Option Addr) (c92 : Nat) => c_laws_equalItems (aa_0 := a91) (ca_0 := c92) (ab_1 := a68) (cb_1 := c69) hx94
     rcases Bool.eq_false_or_eq_true r93 with hb96 | hb96
     ·replace h := bif_t hb96 h
      have hc97 := H.cells 10 rfl
      replace H := H.roLow 6 0 rfl (Nat.zero_le _)
      replace H := H.roLow 6 0 rfl (Nat.zero_le _)
      obtain ⟨r98, hx99, h'⟩ := bind_some h
      clear h
      have h := h'; clear h'
      have hc100 := c_impl_StoreAt (ah_0_0 := a17) (ch_0_0 := c18) (ah_0_1 := a20) (ch_0_1 := c21) hx99
      have hc103 := H.cells 11 rfl
      have Hs := H
      refine rg2 (σ := σ75) (Nm := (Option Addr) × (Nat) × (Option Addr) × (Nat) × (Option Addr) × (Nat)) 19 [2, 4, 7, 9, 15] [[false, false, false, false, false], [true, false, false, false, false], [true, true, false, false, false], [true, true, true, false, false], [true, true, true, true, false], [true, true, true, true, true]] [[(0, 0)], [(0, 0)], [(0, 1)], [(0, 0), (1, 1)], [(1, 2)], [(2, 2)], [(2, 2)], [(2, 3)], [(2, 2), (3, 3)], [(3, 4)], [(4, 4)], [(4, 4)], [(4, 4)], [(4, 4)], [(4, 4)], [(4, 5)], [(4, 4), (5, 5)], [(4, 4), (5, 5)], [(4, 4), (5, 5)]] 5 [fun ((a81, c82, a91, c92, a101, c102) : (Option Addr) × (Nat) × (Option Addr) × (Nat) × (Option Addr) × (Nat)) => fun σm => Hp S0 σ0 σm [Ch.ro 0 (Sl a20 r14.1.2 c21) r14.1.2, Ch.ro 0 (Sl a17 r14.1.1 c18) r14.1.1, Ch.ro 0 (Sl a20 r14.1.2 c21) r14.1.2, Ch.ro 0 (Sl a17 r14.1.1 c18) r14.1.1, Ch.ro 0 (Sl a20 r14.1.2 c21) r14.1.2, Ch.ro 0 (Sl a17 r14.1.1 c18) r14.1.1, Ch.ro 0 (Sl a68 r65 c69) r65, Ch.ro n0 (Sl a20 r14.1.2 c21) r14.1.2, Ch.ro n0 (Sl a17 r14.1.1 c18) r14.1.1, Ch.ro n0 (Sl a5 r2.1.1 c6) r2.1.1, Ch.ro n0 (Sl a7 r2.1.2 c8) r2.1.2, Ch.bx n0 b10 0 [(Sl a5 r2.1.1 c6), (Sl a7 r2.1.2 c8)] [] [], Ch.bx n0 b23 0 [(Sl a17 r14.1.1 c18), (Sl a20 r14.1.2 c21)] [] []] ∧ Md (cov []) σ75 σm, fun ((a81, c82, a91, c92, a101, c102) : (Option Addr) × (Nat) × (Option Addr) × (Nat) × (Option Addr) × (Nat)) => fun σm => Hp S0 σ0 σm [Ch.ro 0 (Sl a81 r78 c82) r78, Ch.ro 0 (Sl a20 r14.1.2 c21) r14.1.2, Ch.ro 0 (Sl a17 r14.1.1 c18) r14.1.1, Ch.ro 0 (Sl a20 r14.1.2 c21) r14.1.2, Ch.ro 0 (Sl a17 r14.1.1 c18) r14.1.1, Ch.ro 0 (Sl a20 r14.1.2 c21) r14.1.2, Ch.ro 0 (Sl a17 r14.1.1 c18) r14.1.1, Ch.ro 0 (Sl a68 r65 c69) r65, Ch.ro n0 (Sl a20 r14.1.2 c21) r14.1.2, Ch.ro n0 (Sl a17 r14.1.1 c18) r14.1.1, Ch.ro n0 (Sl a5 r2.1.1 c6) r2.1.1, Ch.ro n0 (Sl a7 r2.1.2 c8) r2.1.2, Ch.bx n0 b10 0 [(Sl a5 r2.1.1 c6), (Sl a7 r2.1.2 c8)] [] [], Ch.bx n0 b23 0 [(Sl a17 r14.1.1 c18), (Sl a20 r14.1.2 c21)] [] []] ∧ Md (fun i => (cov []) i ∨ (fun i => (cov [Ch.ro 0 (Sl a17 r14.1.1 c18) r14.1.1, Ch.ro 0 (Sl a20 r14.1.2 c21) r14.1.2]) i ∨ (fun b => blk (Sl a81 r78 c82) = some b) i) i) σ75 σm, fun ((a81, c82, a91, c92, a101, c102) : (Option Addr) × (Nat) × (Option Addr) × (Nat) × (Option Addr) × (Nat)) => fun σm => Hp S0 σ0 σm [Ch.ro 0 (Sl a81 r78 c82) r78, Ch.ro 0 (Sl a20 r14.1.2 c21) r14.1.2, Ch.ro 0 (Sl a17 r14.1.1 c18) r14.1.1, Ch.ro 0 (Sl a20 r14.1.2 c21) r14.1.2, Ch.ro 0 (Sl a17 r14.1.1 c18) r14.1.1, Ch.ro 0 (Sl a20 r14.1.2 c21) r14.1.2, Ch.ro 0 (Sl a17 r14.1.1 c18) r14.1.1, Ch.ro 0 (Sl a68 r65 c69) r65, Ch.ro n0 (Sl a20 r14.1.2 c21) r14.1.2, Ch.ro n0 (Sl a17 r14.1.1 c18) r14.1.1, Ch.ro n0 (Sl a5 r2.1.1 c6) r2.1.1, Ch.ro n0 (Sl a7 r2.1.2 c8) r2.1.2, Ch.bx n0 b10 0 [(Sl a5 r2.1.1 c6), (Sl a7 r2.1.2 c8)] [] [], Ch.bx n0 b23 0 [(Sl a17 r14.1.1 c18), (Sl a20 r14.1.2 c21)] [] []] ∧ Md (fun i => (cov []) i ∨ (fun i => (cov [Ch.ro 0 (Sl a17 r14.1.1 c18) r14.1.1, Ch.ro 0 (Sl a20 r14.1.2 c21) r14.1.2]) i ∨ (fun b => blk (Sl a81 r78 c82) = some b) i) i) σ75 σm, fun ((a81, c82, a91, c92, a101, c102) : (Option Addr) × (Nat) × (Option Addr) × (Nat) × (Option Addr) × (Nat)) => fun σm => Hp S0 σ0 σm [Ch.ro 0 (Sl a91 r88 c92) r88, Ch.ro 0 (Sl a81 r78 c82) r78, Ch.ro 0 (Sl a20 r14.1.2 c21) r14.1.2, Ch.ro 0 (Sl a17 r14.1.1 c18) r14.1.1, Ch.ro 0 (Sl a20 r14.1.2 c21) r14.1.2, Ch.ro 0 (Sl a17 r14.1.1 c18) r14.1.1, Ch.ro 0 (Sl a20 r14.1.2 c21) r14.1.2, Ch.ro 0 (Sl a17 r14.1.1 c18) r14.1.1, Ch.ro 0 (Sl a68 r65 c69) r65, Ch.ro n0 (Sl a20 r14.1.2 c21) r14.1.2, Ch.ro n0 (Sl a17 r14.1.1 c18) r14.1.1, Ch.ro n0 (Sl a5 r2.1.1 c6) r2.1.1, Ch.ro n0 (Sl a7 r2.1.2 c8) r2.1.2, Ch.bx n0 b10 0 [(Sl a5 r2.1.1 c6), (Sl a7 r2.1.2 c8)] [] [], Ch.bx n0 b23 0 [(Sl a17 r14.1.1 c18), (Sl a20 r14.1.2 c21)] [] []] ∧ Md (fun i => (fun i => (cov []) i ∨ (fun i => (cov [Ch.ro 0 (Sl a17 r14.1.1 c18) r14.1.1, Ch.ro 0 (Sl a20 r14.1.2 c21) r14.1.2]) i ∨ (fun b => blk (Sl a81 r78 c82) = some b) i) i) i ∨ (fun i => (cov [Ch.ro 0 (Sl a17 r14.1.1 c18) r14.1.1, Ch.ro 0 (Sl a20 r14.1.2 c21) r14.1.2]) i ∨ (fun b => blk (Sl a91 r88 c92) = some b) i) i) σ75 σm, fun ((a81, c82, a91, c92, a101, c102) : (Option Addr) × (Nat) × (Option Addr) × (Nat) × (Option Addr) × (Nat)) => fun σm => Hp S0 σ0 σm [Ch.ro 0 (Sl a91 r88 c92) r88, Ch.ro 0 (Sl a81 r78 c82) r78, Ch.ro 0 (Sl a20 r14.1.2 c21) r14.1.2, Ch.ro 0 (Sl a17 r14.1.1 c18) r14.1.1, Ch.ro 0 (Sl a20 r14.1.2 c21) r14.1.2, Ch.ro 0 (Sl a17 r14.1.1 c18) r14.1.1, Ch.ro 0 (Sl a20 r14.1.2 c21) r14.1.2, Ch.ro 0 (Sl a17 r14.1.1 c18) r14.1.1, Ch.ro 0 (Sl a68 r65 c69) r65, Ch.ro n0 (Sl a20 r14.1.2 c21) r14.1.2, Ch.ro n0 (Sl a17 r14.1.1 c18) r14.1.1, Ch.ro n0 (Sl a5 r2.1.1 c6) r2.1.1, Ch.ro n0 (Sl a7 r2.1.2 c8) r2.1.2, Ch.bx n0 b10 0 [(Sl a5 r2.1.1 c6), (Sl a7 r2.1.2 c8)] [] [], Ch.bx n0 b23 0 [(Sl a17 r14.1.1 c18), (Sl a20 r14.1.2 c21)] [] []] ∧ Md (fun i => (fun i => (cov []) i ∨ (fun i => (cov [Ch.ro 0 (Sl a17 r14.1.1 c18) r14.1.1, Ch.ro 0 (Sl a20 r14.1.2 c21) r14.1.2]) i ∨ (fun b => blk (Sl a81 r78 c82) = some b) i) i) i ∨ (fun i => (cov [Ch.ro 0 (Sl a17 r14.1.1 c18) r14.1.1, Ch.ro 0 (Sl a20 r14.1.2 c21) r14.1.2]) i ∨ (fun b => blk (Sl a91 r88 c92) = some b) i) i) σ75 σm, fun ((a81, c82, a91, c92, a101, c102) : (Option Addr) × (Nat) × (Option Addr) × (Nat) × (Option Addr) × (Nat)) => fun σm => Hp S0 σ0 σm [Ch.own 0 0 (Sl a101 r98 c102) r98, Ch.ro 0 (Sl a91 r88 c92) r88, Ch.ro 0 (Sl a81 r78 c82) r78, Ch.ro 0 (Sl a20 r14.1.2 c21) r14.1.2, Ch.ro 0 (Sl a17 r14.1.1 c18) r14.1.1, Ch.ro 0 (Sl a20 r14.1.2 c21) r14.1.2, Ch.ro 0 (Sl a17 r14.1.1 c18) r14.1.1, Ch.ro 0 (Sl a20 r14.1.2 c21) r14.1.2, Ch.ro 0 (Sl a17 r14.1.1 c18) r14.1.1, Ch.ro 0 (Sl a68 r65 c69) r65, Ch.ro n0 (Sl a20 r14.1.2 c21) r14.1.2, Ch.ro n0 (Sl a17 r14.1.1 c18) r14.1.1, Ch.ro n0 (Sl a5 r2.1.1 c6) r2.1.1, Ch.ro n0 (Sl a7 r2.1.2 c8) r2.1.2, Ch.bx n0 b10 0 [(Sl a5 r2.1.1 c6), (Sl a7 r2.1.2 c8)] [] [], Ch.bx n0 b23 0 [(Sl a17 r14.1.1 c18), (Sl a20 r14.1.2 c21)] [] []] ∧ Md (fun i => (fun i => (cov []) i ∨ (fun i => (cov [Ch.ro 0 (Sl a17 r14.1.1 c18) r14.1.1, Ch.ro 0 (Sl a20 r14.1.2 c21) r14.1.2]) i ∨ (fun b => blk (Sl a81 r78 c82) = some b) i) i) i ∨ (fun i => (cov [Ch.ro 0 (Sl a17 r14.1.1 c18) r14.1.1, Ch.ro 0 (Sl a20 r14.1.2 c21) r14.1.2]) i ∨ (fun b => blk (Sl a91 r88 c92) = some b) i) i) σ75 σm] [fun ((a81, c82, a91, c92, a101, c102) : (Option Addr) × (Nat) × (Option Addr) × (Nat) × (Option Addr) × (Nat)) => (.agg #[(Sl a17 r14.1.1 c18), (Sl a20 r14.1.2 c21)]), fun ((a81, c82, a91, c92, a101, c102) : (Option Addr) × (Nat) × (Option Addr) × (Nat) × (Option Addr) × (Nat)) => (I r2.2), fun ((a81, c82, a91, c92, a101, c102) : (Option Addr) × (Nat) × (Option Addr) × (Nat) × (Option Addr) × (Nat)) => (Sl a81 r78 c82), fun ((a81, c82, a91, c92, a101, c102) : (Option Addr) × (Nat) × (Option Addr) × (Nat) × (Option Addr) × (Nat)) => (Sl a68 r65 c69), fun ((a81, c82, a91, c92, a101, c102) : (Option Addr) × (Nat) × (Option Addr) × (Nat) × (Option Addr) × (Nat)) => (B r83), fun ((a81, c82, a91, c92, a101, c102) : (Option Addr) × (Nat) × (Option Addr) × (Nat) × (Option Addr) × (Nat)) => (B r83), fun ((a81, c82, a91, c92, a101, c102) : (Option Addr) × (Nat) × (Option Addr) × (Nat) × (Option Addr) × (Nat)) => (.agg #[(Sl a17 r14.1.1 c18), (Sl a20 r14.1.2 c21)]), fun ((a81, c82, a91, c92, a101, c102) : (Option Addr) × (Nat) × (Option Addr) × (Nat) × (Option Addr) × (Nat)) => (Sl a91 r88 c92), fun ((a81, c82, a91, c92, a101, c102) : (Option Addr) × (Nat) × (Option Addr) × (Nat) × (Option Addr) × (Nat)) => (Sl a68 r65 c69), fun ((a81, c82, a91, c92, a101, c102) : (Option Addr) × (Nat) × (Option Addr) × (Nat) × (Option Addr) × (Nat)) => (B r93), fun ((a81, c82, a91, c92, a101, c102) : (Option Addr) × (Nat) × (Option Addr) × (Nat) × (Option Addr) × (Nat)) => (B r93), fun ((a81, c82, a91, c92, a101, c102) : (Option Addr) × (Nat) × (Option Addr) × (Nat) × (Option Addr) × (Nat)) => (B r93), fun ((a81, c82, a91, c92, a101, c102) : (Option Addr) × (Nat) × (Option Addr) × (Nat) × (Option Addr) × (Nat)) => (.agg #[(Sl a17 r14.1.1 c18), (Sl a20 r14.1.2 c21)]), fun ((a81, c82, a91, c92, a101, c102) : (Option Addr) × (Nat) × (Option Addr) × (Nat) × (Option Addr) × (Nat)) => (I r2.2), fun ((a81, c82, a91, c92, a101, c102) : (Option Addr) × (Nat) × (Option Addr) × (Nat) × (Option Addr) × (Nat)) => (I (w64 (r2.2.tdiv 2))), fun ((a81, c82, a91, c92, a101, c102) : (Option Addr) × (Nat) × (Option Addr) × (Nat) × (Option Addr) × (Nat)) => (Sl a101 r98 c102), fun ((a81, c82, a91, c92, a101, c102) : (Option Addr) × (Nat) × (Option Addr) × (Nat) × (Option Addr) × (Nat)) => (.agg #[(Sl a5 r2.1.1 c6), (Sl a7 r2.1.2 c8)]), fun ((a81, c82, a91, c92, a101, c102) : (Option Addr) × (Nat) × (Option Addr) × (Nat) × (Option Addr) × (Nat)) => (I r2.2), fun ((a81, c82, a91, c92, a101, c102) : (Option Addr) × (Nat) × (Option Addr) × (Nat) × (Option Addr) × (Nat)) => (I (w64 (r2.2.tdiv 2)))] (none, 0, none, 0, none, 0) (by kernel_rfl) (by kernel_rfl) ?_ ?_ ?_
      ·intro σm m0
       exact ⟨H.grow (m0.mono fun _ h => h.elim), m0⟩
      ·refine all_cons (by
         refine ⟨?_, ?_⟩
         ·rintro ⟨a81, c82, a91, c92, a101, c102⟩ ρ σm hJ hoff hdep
          have e5 := look_off (N := 80) (hoff 5 rfl) rfl
          obtain ⟨H, m⟩ := id hJ
          have hc77 := H.cells 12 rfl
          exact dp_v (v := (.agg #[(Sl a17 r14.1.1 c18), (Sl a20 r14.1.2 c21)])) wn (rv_load (cs := [(Sl a17 r14.1.1 c18), (Sl a20 r14.1.2 c21)]) Try.underlying26 rfl ti26 e5 rfl hc77) rfl hJ
         trivial) ?_
       refine ac rfl (by
         intro k; rintro ⟨a81, c82, a91, c92, a101, c102⟩ ρ σm hJ hoff hdep
         have e4 := look_off (N := 80) (hoff 4 rfl) rfl
         exact dp_v (v := (I r2.2)) wn (rv_move e4) rfl hJ) ?_
       refine all_cons (by
         refine ⟨?_, ?_⟩
         ·rintro ⟨a81, c82, a91, c92, a101, c102⟩ ρ σm hJ hoff hdep
          have e54 : look 80 ρ 54 = (.agg #[(Sl a17 r14.1.1 c18), (Sl a20 r14.1.2 c21)]) := hdep 0 rfl rfl 54 rfl
          have e55 : look 80 ρ 55 = (I r2.2) := hdep 1 rfl rfl 55 rfl
          obtain ⟨H, m⟩ := id hJ
          refine dp_cx wn (cx_call hc80 (ent_f hc80.fn (by show [look 80 ρ 54, look 80 ρ 55] = _; rw [e54, e55])) hn0 (show Hp S0 σ0 _ ([Ch.ro 0 (Sl a17 r14.1.1 c18) r14.1.1, Ch.ro 0 (Sl a20 r14.1.2 c21) r14.1.2] ++ [Ch.ro 0 (Sl a20 r14.1.2 c21) r14.1.2, Ch.ro 0 (Sl a17 r14.1.1 c18) r14.1.1, Ch.ro 0 (Sl a20 r14.1.2 c21) r14.1.2, Ch.ro 0 (Sl a17 r14.1.1 c18) r14.1.1, Ch.ro 0 (Sl a20 r14.1.2 c21) r14.1.2, Ch.ro 0 (Sl a17 r14.1.1 c18) r14.1.1, Ch.ro 0 (Sl a68 r65 c69) r65, Ch.ro n0 (Sl a20 r14.1.2 c21) r14.1.2, Ch.ro n0 (Sl a17 r14.1.1 c18) r14.1.1, Ch.ro n0 (Sl a5 r2.1.1 c6) r2.1.1, Ch.ro n0 (Sl a7 r2.1.2 c8) r2.1.2, Ch.bx n0 b10 0 [(Sl a5 r2.1.1 c6), (Sl a7 r2.1.2 c8)] [] [], Ch.bx n0 b23 0 [(Sl a17 r14.1.1 c18), (Sl a20 r14.1.2 c21)] [] []]) from (H.sel' [5, 4, 0, 1, 2, 3, 4, 5, 6, 7, 8, 9, 10, 11, 12] rfl rfl))) ?_
          rintro _ σq ⟨_, ⟨a81x, c82x, rfl, rfl⟩, H2, m2⟩
          obtain ⟨σr0, hwr0, H2, mr0⟩ := H2.pub 0 rfl (Nat.le_refl _)
          exact ⟨_, (a81x, c82x, a91, c92, a101, c102), hwr0, rfl, ⟨H2.sel' [0, 1, 2, 3, 4, 5, 6, 7, 8, 9, 10, 11, 12, 13] rfl rfl, m.comp (m2.comp mr0)⟩, stab [0, 1, 3] (by kernel_rfl) ⟨rfl, rfl, rfl, trivial⟩⟩
         trivial) ?_
       refine ac rfl (by
         intro k; rintro ⟨a81, c82, a91, c92, a101, c102⟩ ρ σm hJ hoff hdep
         have e9 := look_off (N := 80) (hoff 9 rfl) rfl
         exact dp_v (v := (Sl a68 r65 c69)) wn (rv_move e9) rfl hJ) ?_
       refine all_cons (by
         refine ⟨?_, ?_⟩
         ·rintro ⟨a81, c82, a91, c92, a101, c102⟩ ρ σm hJ hoff hdep
          have e56 : look 80 ρ 56 = (Sl a81 r78 c82) := hdep 2 rfl rfl 56 rfl
          have e57 : look 80 ρ 57 = (Sl a68 r65 c69) := hdep 3 rfl rfl 57 rfl
          obtain ⟨H, m⟩ := id hJ
          refine dp_cx wn (cx_call (hc85 a81 c82) (ent_f (hc85 a81 c82).fn (by show [look 80 ρ 56, look 80 ρ 57] = _; rw [e56, e57])) hn0 (show Hp S0 σ0 _ ([Ch.ro 0 (Sl a81 r78 c82) r78, Ch.ro 0 (Sl a68 r65 c69) r65] ++ [Ch.ro 0 (Sl a81 r78 c82) r78, Ch.ro 0 (Sl a20 r14.1.2 c21) r14.1.2, Ch.ro 0 (Sl a17 r14.1.1 c18) r14.1.1, Ch.ro 0 (Sl a20 r14.1.2 c21) r14.1.2, Ch.ro 0 (Sl a17 r14.1.1 c18) r14.1.1, Ch.ro 0 (Sl a20 r14.1.2 c21) r14.1.2, Ch.ro 0 (Sl a17 r14.1.1 c18) r14.1.1, Ch.ro 0 (Sl a68 r65 c69) r65, Ch.ro n0 (Sl a20 r14.1.2 c21) r14.1.2, Ch.ro n0 (Sl a17 r14.1.1 c18) r14.1.1, Ch.ro n0 (Sl a5 r2.1.1 c6) r2.1.1, Ch.ro n0 (Sl a7 r2.1.2 c8) r2.1.2, Ch.bx n0 b10 0 [(Sl a5 r2.1.1 c6), (Sl a7 r2.1.2 c8)] [] [], Ch.bx n0 b23 0 [(Sl a17 r14.1.1 c18), (Sl a20 r14.1.2 c21)] [] []]) from (H.sel' [0, 7, 0, 1, 2, 3, 4, 5, 6, 7, 8, 9, 10, 11, 12, 13] rfl rfl))) ?_
          rintro _ σq ⟨_, ⟨rfl, rfl⟩, H2, m2⟩
          exact ⟨_, (a81, c82, a91, c92, a101, c102), rfl, rfl, ⟨H2.sel' [0, 1, 2, 3, 4, 5, 6, 7, 8, 9, 10, 11, 12, 13] rfl rfl, m.comp0 (m2.mono (fun i h => by simp [cov, Ch.ro] at h))⟩, stab [0, 1, 2, 3] (by kernel_rfl) ⟨rfl, rfl, rfl, rfl, trivial⟩⟩
         trivial) ?_
       refine ac rfl (by
         intro k; rintro ⟨a81, c82, a91, c92, a101, c102⟩ ρ σm hJ hoff hdep
         have e58 := hdep 4 rfl rfl 58 rfl
         exact dp_v (v := (B r83)) wn (rv_move e58) rfl hJ) ?_
       refine all_cons (by
         refine ⟨?_, ?_⟩
         ·rintro ⟨a81, c82, a91, c92, a101, c102⟩ ρ σm hJ hoff hdep
          have e5 := look_off (N := 80) (hoff 5 rfl) rfl
          have e59 := hdep 5 rfl rfl 59 rfl
          obtain ⟨H, m⟩ := id hJ
          have hc87 := H.cells 13 rfl
          exact dp_v (v := (.agg #[(Sl a17 r14.1.1 c18), (Sl a20 r14.1.2 c21)])) (wanted_yes rfl (yv_of rfl (e59.trans (congrArg B hb86)))) (rv_load (cs := [(Sl a17 r14.1.1 c18), (Sl a20 r14.1.2 c21)]) Try.underlying26 rfl ti26 e5 rfl hc87) rfl hJ
         trivial) ?_
       refine all_cons (by
         refine ⟨?_, ?_⟩
         ·rintro ⟨a81, c82, a91, c92, a101, c102⟩ ρ σm hJ hoff hdep
          have e60 : look 80 ρ 60 = (.agg #[(Sl a17 r14.1.1 c18), (Sl a20 r14.1.2 c21)]) := hdep 6 rfl rfl 60 rfl
          have e59 := hdep 5 rfl rfl 59 rfl
          obtain ⟨H, m⟩ := id hJ
          refine dp_cx (wanted_yes rfl (yv_of rfl (e59.trans (congrArg B hb86)))) (cx_call hc90 (ent_f hc90.fn (by show [look 80 ρ 60, (I 1000)] = _; rw [e60])) hn0 (show Hp S0 σ0 _ ([Ch.ro 0 (Sl a17 r14.1.1 c18) r14.1.1, Ch.ro 0 (Sl a20 r14.1.2 c21) r14.1.2] ++ [Ch.ro 0 (Sl a81 r78 c82) r78, Ch.ro 0 (Sl a20 r14.1.2 c21) r14.1.2, Ch.ro 0 (Sl a17 r14.1.1 c18) r14.1.1, Ch.ro 0 (Sl a20 r14.1.2 c21) r14.1.2, Ch.ro 0 (Sl a17 r14.1.1 c18) r14.1.1, Ch.ro 0 (Sl a20 r14.1.2 c21) r14.1.2, Ch.ro 0 (Sl a17 r14.1.1 c18) r14.1.1, Ch.ro 0 (Sl a68 r65 c69) r65, Ch.ro n0 (Sl a20 r14.1.2 c21) r14.1.2, Ch.ro n0 (Sl a17 r14.1.1 c18) r14.1.1, Ch.ro n0 (Sl a5 r2.1.1 c6) r2.1.1, Ch.ro n0 (Sl a7 r2.1.2 c8) r2.1.2, Ch.bx n0 b10 0 [(Sl a5 r2.1.1 c6), (Sl a7 r2.1.2 c8)] [] [], Ch.bx n0 b23 0 [(Sl a17 r14.1.1 c18), (Sl a20 r14.1.2 c21)] [] []]) from (H.sel' [4, 3, 0, 1, 2, 3, 4, 5, 6, 7, 8, 9, 10, 11, 12, 13] rfl rfl))) ?_
          rintro _ σq ⟨_, ⟨a91x, c92x, rfl, rfl⟩, H2, m2⟩
          obtain ⟨σr0, hwr0, H2, mr0⟩ := H2.pub 0 rfl (Nat.le_refl _)
          exact ⟨_, (a81, c82, a91x, c92x, a101, c102), hwr0, rfl, ⟨H2.sel' [0, 1, 2, 3, 4, 5, 6, 7, 8, 9, 10, 11, 12, 13, 14] rfl rfl, m.comp (m2.comp mr0)⟩, stab [0, 1, 2, 3, 4, 5, 6, 8] (by kernel_rfl) ⟨rfl, rfl, rfl, rfl, rfl, rfl, rfl, rfl, trivial⟩⟩
         trivial) ?_
       refine ac rfl (by
         intro k; rintro ⟨a81, c82, a91, c92, a101, c102⟩ ρ σm hJ hoff hdep
         have e9 := look_off (N := 80) (hoff 9 rfl) rfl
         have e59 := hdep 5 rfl rfl 59 rfl
         exact dp_v (v := (Sl a68 r65 c69)) (wanted_yes rfl (yv_of rfl (e59.trans (congrArg B hb86)))) (rv_move e9) rfl hJ) ?_
       refine all_cons (by
         refine ⟨?_, ?_⟩
         ·rintro ⟨a81, c82, a91, c92, a101, c102⟩ ρ σm hJ hoff hdep
          have e61 : look 80 ρ 61 = (Sl a91 r88 c92) := hdep 7 rfl rfl 61 rfl
          have e62 : look 80 ρ 62 = (Sl a68 r65 c69) := hdep 8 rfl rfl 62 rfl
          have e59 := hdep 5 rfl rfl 59 rfl
          obtain ⟨H, m⟩ := id hJ
          refine dp_cx (wanted_yes rfl (yv_of rfl (e59.trans (congrArg B hb86)))) (cx_call (hc95 a91 c92) (ent_f (hc95 a91 c92).fn (by show [look 80 ρ 61, look 80 ρ 62] = _; rw [e61, e62])) hn0 (show Hp S0 σ0 _ ([Ch.ro 0 (Sl a91 r88 c92) r88, Ch.ro 0 (Sl a68 r65 c69) r65] ++ [Ch.ro 0 (Sl a91 r88 c92) r88, Ch.ro 0 (Sl a81 r78 c82) r78, Ch.ro 0 (Sl a20 r14.1.2 c21) r14.1.2, Ch.ro 0 (Sl a17 r14.1.1 c18) r14.1.1, Ch.ro 0 (Sl a20 r14.1.2 c21) r14.1.2, Ch.ro 0 (Sl a17 r14.1.1 c18) r14.1.1, Ch.ro 0 (Sl a20 r14.1.2 c21) r14.1.2, Ch.ro 0 (Sl a17 r14.1.1 c18) r14.1.1, Ch.ro 0 (Sl a68 r65 c69) r65, Ch.ro n0 (Sl a20 r14.1.2 c21) r14.1.2, Ch.ro n0 (Sl a17 r14.1.1 c18) r14.1.1, Ch.ro n0 (Sl a5 r2.1.1 c6) r2.1.1, Ch.ro n0 (Sl a7 r2.1.2 c8) r2.1.2, Ch.bx n0 b10 0 [(Sl a5 r2.1.1 c6), (Sl a7 r2.1.2 c8)] [] [], Ch.bx n0 b23 0 [(Sl a17 r14.1.1 c18), (Sl a20 r14.1.2 c21)] [] []]) from (H.sel' [0, 8, 0, 1, 2, 3, 4, 5, 6, 7, 8, 9, 10, 11, 12, 13, 14] rfl rfl))) ?_
          rintro _ σq ⟨_, ⟨rfl, rfl⟩, H2, m2⟩
          exact ⟨_, (a81, c82, a91, c92, a101, c102), rfl, rfl, ⟨H2.sel' [0, 1, 2, 3, 4, 5, 6, 7, 8, 9, 10, 11, 12, 13, 14] rfl rfl, m.comp0 (m2.mono (fun i h => by simp [cov, Ch.ro] at h))⟩, stab [0, 1, 2, 3, 4, 5, 6, 7, 8] (by kernel_rfl) ⟨rfl, rfl, rfl, rfl, rfl, rfl, rfl, rfl, rfl, trivial⟩⟩
         trivial) ?_
       refine ac rfl (by
         intro k; rintro ⟨a81, c82, a91, c92, a101, c102⟩ ρ σm hJ hoff hdep
         have e59 := hdep 5 rfl rfl 59 rfl
         have e63 := hdep 9 rfl rfl 63 rfl
         exact dp_v (v := (B r93)) wn (rv_pick_t (e59.trans (congrArg B hb86)) e63) rfl hJ) ?_
       refine ac rfl (by
         intro k; rintro ⟨a81, c82, a91, c92, a101, c102⟩ ρ σm hJ hoff hdep
         have e64 := hdep 10 rfl rfl 64 rfl
         exact dp_v (v := (B r93)) wn (rv_move e64) rfl hJ) ?_
       refine all_cons (by
         refine ⟨?_, ?_⟩
         ·rintro ⟨a81, c82, a91, c92, a101, c102⟩ ρ σm hJ hoff hdep
          have e5 := look_off (N := 80) (hoff 5 rfl) rfl
          have e65 := hdep 11 rfl rfl 65 rfl
          obtain ⟨H, m⟩ := id hJ
          have hc97 := H.cells 14 rfl
          exact dp_v (v := (.agg #[(Sl a17 r14.1.1 c18), (Sl a20 r14.1.2 c21)])) (wanted_yes rfl (yv_of rfl (e65.trans (congrArg B hb96)))) (rv_load (cs := [(Sl a17 r14.1.1 c18), (Sl a20 r14.1.2 c21)]) Try.underlying26 rfl ti26 e5 rfl hc97) rfl hJ
         trivial) ?_
       refine ac rfl (by
         intro k; rintro ⟨a81, c82, a91, c92, a101, c102⟩ ρ σm hJ hoff hdep
         have e4 := look_off (N := 80) (hoff 4 rfl) rfl
         have e65 := hdep 11 rfl rfl 65 rfl
         exact dp_v (v := (I r2.2)) (wanted_yes rfl (yv_of rfl (e65.trans (congrArg B hb96)))) (rv_move e4) rfl hJ) ?_
       refine ac rfl (by
         intro k; rintro ⟨a81, c82, a91, c92, a101, c102⟩ ρ σm hJ hoff hdep
         have e67 := hdep 13 rfl rfl 67 rfl
         have e65 := hdep 11 rfl rfl 65 rfl
         exact dp_v (v := (I (w64 (r2.2.tdiv 2)))) (wanted_yes rfl (yv_of rfl (e65.trans (congrArg B hb96)))) (rv_quo (a := r2.2) (b := 2) e67 rfl (by decide)) rfl hJ) ?_
       refine all_cons (by
         refine ⟨?_, ?_⟩
         ·rintro ⟨a81, c82, a91, c92, a101, c102⟩ ρ σm hJ hoff hdep
          have e66 : look 80 ρ 66 = (.agg #[(Sl a17 r14.1.1 c18), (Sl a20 r14.1.2 c21)]) := hdep 12 rfl rfl 66 rfl
          have e68 : look 80 ρ 68 = (I (w64 (r2.2.tdiv 2))) := hdep 14 rfl rfl 68 rfl
          have e65 := hdep 11 rfl rfl 65 rfl
          obtain ⟨H, m⟩ := id hJ
          refine dp_cx (wanted_yes rfl (yv_of rfl (e65.trans (congrArg B hb96)))) (cx_call hc100 (ent_f hc100.fn (by show [look 80 ρ 66, look 80 ρ 68] = _; rw [e66, e68])) hn0 (show Hp S0 σ0 _ ([Ch.ro 0 (Sl a17 r14.1.1 c18) r14.1.1, Ch.ro 0 (Sl a20 r14.1.2 c21) r14.1.2] ++ [Ch.ro 0 (Sl a91 r88 c92) r88, Ch.ro 0 (Sl a81 r78 c82) r78, Ch.ro 0 (Sl a20 r14.1.2 c21) r14.1.2, Ch.ro 0 (Sl a17 r14.1.1 c18) r14.1.1, Ch.ro 0 (Sl a20 r14.1.2 c21) r14.1.2, Ch.ro 0 (Sl a17 r14.1.1 c18) r14.1.1, Ch.ro 0 (Sl a20 r14.1.2 c21) r14.1.2, Ch.ro 0 (Sl a17 r14.1.1 c18) r14.1.1, Ch.ro 0 (Sl a68 r65 c69) r65, Ch.ro n0 (Sl a20 r14.1.2 c21) r14.1.2, Ch.ro n0 (Sl a17 r14.1.1 c18) r14.1.1, Ch.ro n0 (Sl a5 r2.1.1 c6) r2.1.1, Ch.ro n0 (Sl a7 r2.1.2 c8) r2.1.2, Ch.bx n0 b10 0 [(Sl a5 r2.1.1 c6), (Sl a7 r2.1.2 c8)] [] [], Ch.bx n0 b23 0 [(Sl a17 r14.1.1 c18), (Sl a20 r14.1.2 c21)] [] []]) from (H.sel' [3, 2, 0, 1, 2, 3, 4, 5, 6, 7, 8, 9, 10, 11, 12, 13, 14] rfl rfl))) ?_
          rintro _ σq ⟨_, ⟨a101x, c102x, rfl, rfl⟩, H2, m2⟩
          exact ⟨_, (a81, c82, a91, c92, a101x, c102x), rfl, rfl, ⟨H2.sel' [0, 1, 2, 3, 4, 5, 6, 7, 8, 9, 10, 11, 12, 13, 14, 15] rfl rfl, m.comp0 (m2.mono (fun i h => by simp [cov, Ch.ro] at h))⟩, stab [0, 1, 2, 3, 4, 5, 6, 7, 8, 9, 10, 11, 12, 13, 14, 16, 17, 18] (by kernel_rfl) ⟨rfl, rfl, rfl, rfl, rfl, rfl, rfl, rfl, rfl, rfl, rfl, rfl, rfl, rfl, rfl, rfl, rfl, rfl, trivial⟩⟩
         trivial) ?_
       refine all_cons (by
         refine ⟨?_, ?_⟩
         ·rintro ⟨a81, c82, a91, c92, a101, c102⟩ ρ σm hJ hoff hdep
          have e3 := look_off (N := 80) (hoff 3 rfl) rfl
          have e65 := hdep 11 rfl rfl 65 rfl
          obtain ⟨H, m⟩ := id hJ
          have hc103 := H.cells 13 rfl
          exact dp_v (v := (.agg #[(Sl a5 r2.1.1 c6), (Sl a7 r2.1.2 c8)])) (wanted_yes rfl (yv_of rfl (e65.trans (congrArg B hb96)))) (rv_load (cs := [(Sl a5 r2.1.1 c6), (Sl a7 r2.1.2 c8)]) Try.underlying26 rfl ti26 e3 rfl hc103) rfl hJ
         refine ⟨?_, ?_⟩
         ·rintro ⟨a81, c82, a91, c92, a101, c102⟩ ρ σm hJ hoff hdep
          have e3 := look_off (N := 80) (hoff 3 rfl) rfl
          have e65 := hdep 11 rfl rfl 65 rfl
          obtain ⟨H, m⟩ := id hJ
          have hc103 := H.cells 14 rfl
          exact dp_v (v := (.agg #[(Sl a5 r2.1.1 c6), (Sl a7 r2.1.2 c8)])) (wanted_yes rfl (yv_of rfl (e65.trans (congrArg B hb96)))) (rv_load (cs := [(Sl a5 r2.1.1 c6), (Sl a7 r2.1.2 c8)]) Try.underlying26 rfl ti26 e3 rfl hc103) rfl hJ
         trivial) ?_
       refine ac rfl (by
         intro k; rintro ⟨a81, c82, a91, c92, a101, c102⟩ ρ σm hJ hoff hdep
         have e4 := look_off (N := 80) (hoff 4 rfl) rfl
         have e65 := hdep 11 rfl rfl 65 rfl
         exact dp_v (v := (I r2.2)) (wanted_yes rfl (yv_of rfl (e65.trans (congrArg B hb96)))) (rv_move e4) rfl hJ) ?_
       refine ac rfl (by
         intro k; rintro ⟨a81, c82, a91, c92, a101, c102⟩ ρ σm hJ hoff hdep
         have e71 := hdep 17 rfl rfl 71 rfl
         have e65 := hdep 11 rfl rfl 65 rfl
         exact dp_v (v := (I (w64 (r2.2.tdiv 2)))) (wanted_yes rfl (yv_of rfl (e65.trans (congrArg B hb96)))) (rv_quo (a := r2.2) (b := 2) e71 rfl (by decide)) rfl hJ) ?_
       exact all_nil
      ·rintro ⟨a81, c82, a91, c92, a101, c102⟩ ρ σ104 hJ hoff hrel
       have e5 := look_off (N := 80) (hoff 5 rfl) rfl
       have e65 := hrel 11 rfl 65 rfl
       have e69 := hrel 15 rfl 69 rfl
       have e70 := hrel 16 rfl 70 rfl
       have e72 := hrel 18 rfl 72 rfl
       obtain ⟨H, -⟩ := (show Hp S0 σ0 σ104 [Ch.own 0 0 (Sl a101 r98 c102) r98, Ch.ro 0 (Sl a91 r88 c92) r88, Ch.ro 0 (Sl a81 r78 c82) r78, Ch.ro 0 (Sl a20 r14.1.2 c21) r14.1.2, Ch.ro 0 (Sl a17 r14.1.1 c18) r14.1.1, Ch.ro 0 (Sl a20 r14.1.2 c21) r14.1.2, Ch.ro 0 (Sl a17 r14.1.1 c18) r14.1.1, Ch.ro 0 (Sl a20 r14.1.2 c21) r14.1.2, Ch.ro 0 (Sl a17 r14.1.1 c18) r14.1.1, Ch.ro 0 (Sl a68 r65 c69) r65, Ch.ro n0 (Sl a20 r14.1.2 c21) r14.1.2, Ch.ro n0 (Sl a17 r14.1.1 c18) r14.1.1, Ch.ro n0 (Sl a5 r2.1.1 c6) r2.1.1, Ch.ro n0 (Sl a7 r2.1.2 c8) r2.1.2, Ch.bx n0 b10 0 [(Sl a5 r2.1.1 c6), (Sl a7 r2.1.2 c8)] [] [], Ch.bx n0 b23 0 [(Sl a17 r14.1.1 c18), (Sl a20 r14.1.2 c21)] [] []] ∧ Md (fun i => (fun i => (cov []) i ∨ (fun i => (cov [Ch.ro 0 (Sl a17 r14.1.1 c18) r14.1.1, Ch.ro 0 (Sl a20 r14.1.2 c21) r14.1.2]) i ∨ (fun b => blk (Sl a81 r78 c82) = some b) i) i) i ∨ (fun i => (cov [Ch.ro 0 (Sl a17 r14.1.1 c18) r14.1.1, Ch.ro 0 (Sl a20 r14.1.2 c21) r14.1.2]) i ∨ (fun b => blk (Sl a91 r88 c92) = some b) i) i) σ75 σ104 from hJ)
       clear hJ Hs
       rw [fr_lookL (L := [(5, (pt b23 0)), (65, (B r93)), (69, (Sl a101 r98 c102)), (70, (.agg #[(Sl a5 r2.1.1 c6), (Sl a7 r2.1.2 c8)])), (72, (I (w64 (r2.2.tdiv 2))))]) ⟨e5, e65, e69, e70, e72, trivial⟩]
       clear hoff hrel e5 e65 e69 e70 e72
       replace H := H.roLow 12 0 rfl (Nat.zero_le _)
       replace H := H.roLow 14 0 rfl (Nat.zero_le _)
       obtain ⟨r105, hx106, h'⟩ := bind_some h
       clear h
       have h := h'; clear h'
       have hc107 := c_impl_StoreAt (ah_0_0 := a5) (ch_0_0 := c6) (ah_0_1 := a7) (ch_0_1 := c8) hx106
       refine st_call (cx_call hc107 (ent_f hc107.fn rfl) hn0 (show Hp S0 σ0 _ ([Ch.ro 0 (Sl a5 r2.1.1 c6) r2.1.1, Ch.ro 0 (Sl a7 r2.1.2 c8) r2.1.2] ++ [Ch.ro 0 (Sl a7 r2.1.2 c8) r2.1.2, Ch.ro 0 (Sl a5 r2.1.1 c6) r2.1.1, Ch.own 0 0 (Sl a101 r98 c102) r98, Ch.ro 0 (Sl a91 r88 c92) r88, Ch.ro 0 (Sl a81 r78 c82) r78, Ch.ro 0 (Sl a20 r14.1.2 c21) r14.1.2, Ch.ro 0 (Sl a17 r14.1.1 c18) r14.1.1, Ch.ro 0 (Sl a20 r14.1.2 c21) r14.1.2, Ch.ro 0 (Sl a17 r14.1.1 c18) r14.1.1, Ch.ro 0 (Sl a20 r14.1.2 c21) r14.1.2, Ch.ro 0 (Sl a17 r14.1.1 c18) r14.1.1, Ch.ro 0 (Sl a68 r65 c69) r65, Ch.ro n0 (Sl a20 r14.1.2 c21) r14.1.2, Ch.ro n0 (Sl a17 r14.1.1 c18) r14.1.1, Ch.ro n0 (Sl a5 r2.1.1 c6) r2.1.1, Ch.ro n0 (Sl a7 r2.1.2 c8) r2.1.2, Ch.bx n0 b10 0 [(Sl a5 r2.1.1 c6), (Sl a7 r2.1.2 c8)] [] [], Ch.bx n0 b23 0 [(Sl a17 r14.1.1 c18), (Sl a20 r14.1.2 c21)] [] []]) from (H.sel' [1, 0, 0, 1, 2, 3, 4, 5, 6, 7, 8, 9, 10, 11, 12, 13, 14, 15, 16, 17] rfl rfl))) (wanted_yes rfl (by exact (congrArg some hb96))) ?_
       rintro _ σ110 ⟨_, ⟨a108, c109, rfl, rfl⟩, H, -⟩
       replace H : Hp S0 σ0 σ110 [Ch.own 0 0 (Sl a108 r105 c109) r105, Ch.ro 0 (Sl a7 r2.1.2 c8) r2.1.2, Ch.ro 0 (Sl a5 r2.1.1 c6) r2.1.1, Ch.own 0 0 (Sl a101 r98 c102) r98, Ch.ro 0 (Sl a91 r88 c92) r88, Ch.ro 0 (Sl a81 r78 c82) r78, Ch.ro 0 (Sl a20 r14.1.2 c21) r14.1.2, Ch.ro 0 (Sl a17 r14.1.1 c18) r14.1.1, Ch.ro 0 (Sl a20 r14.1.2 c21) r14.1.2, Ch.ro 0 (Sl a17 r14.1.1 c18) r14.1.1, Ch.ro 0 (Sl a20 r14.1.2 c21) r14.1.2, Ch.ro 0 (Sl a17 r14.1.1 c18) r14.1.1, Ch.ro 0 (Sl a68 r65 c69) r65, Ch.ro n0 (Sl a20 r14.1.2 c21) r14.1.2, Ch.ro n0 (Sl a17 r14.1.1 c18) r14.1.1, Ch.ro n0 (Sl a5 r2.1.1 c6) r2.1.1, Ch.ro n0 (Sl a7 r2.1.2 c8) r2.1.2, Ch.bx n0 b10 0 [(Sl a5 r2.1.1 c6), (Sl a7 r2.1.2 c8)] [] [], Ch.bx n0 b23 0 [(Sl a17 r14.1.1 c18), (Sl a20 r14.1.2 c21)] [] []] := H
       replace H : Hp S0 σ0 σ110 [Ch.own 0 0 (Sl a108 r105 c109) r105, Ch.own 0 0 (Sl a101 r98 c102) r98, Ch.ro n0 (Sl a20 r14.1.2 c21) r14.1.2, Ch.ro n0 (Sl a17 r14.1.1 c18) r14.1.1, Ch.bx n0 b23 0 [(Sl a17 r14.1.1 c18), (Sl a20 r14.1.2 c21)] [] []] := H.sel' [0, 3, 13, 14, 18] rfl rfl
       obtain ⟨σ111, hw112, H, -⟩ := H.pub 1 rfl (Nat.le_refl _)
       rw [← hw112]; clear hw112
       obtain ⟨σ113, hw114, H, -⟩ := H.pub 1 rfl (Nat.le_refl _)
       rw [← hw114]; clear hw114
       obtain ⟨r115, hx116, h'⟩ := bind_some h
       clear h
       have h := h'; clear h'
       have hc117 := c_laws_equalItems (aa_0 := a101) (ca_0 := c102) (ab_1 := a108) (cb_1 := c109) hx116
       refine st_call (cx_call hc117 (ent_f hc117.fn rfl) hn0 (show Hp S0 σ0 _ ([Ch.ro 0 (Sl a101 r98 c102) r98, Ch.ro 0 (Sl a108 r105 c109) r105] ++ [Ch.ro 0 (Sl a108 r105 c109) r105, Ch.ro 0 (Sl a101 r98 c102) r98, Ch.ro n0 (Sl a20 r14.1.2 c21) r14.1.2, Ch.ro n0 (Sl a17 r14.1.1 c18) r14.1.1, Ch.bx n0 b23 0 [(Sl a17 r14.1.1 c18), (Sl a20 r14.1.2 c21)] [] []]) from (H.sel' [1, 0, 0, 1, 2, 3, 4] rfl rfl))) (wanted_yes rfl (by exact (congrArg some hb96))) ?_
       rintro _ σ118 ⟨_, ⟨rfl, rfl⟩, H, -⟩
       replace H : Hp S0 σ0 σ118 [Ch.ro 0 (Sl a108 r105 c109) r105, Ch.ro 0 (Sl a101 r98 c102) r98, Ch.ro n0 (Sl a20 r14.1.2 c21) r14.1.2, Ch.ro n0 (Sl a17 r14.1.1 c18) r14.1.1, Ch.bx n0 b23 0 [(Sl a17 r14.1.1 c18), (Sl a20 r14.1.2 c21)] [] []] := H
       refine st (v := (B r115)) (rv_pick_t (congrArg B hb96) rfl) ?_
       refine st (v := (B r115)) (rv_move rfl) ?_
       rcases Bool.eq_false_or_eq_true r115 with hb119 | hb119
       ·replace h := bif_t hb119 h
        have hc120 := H.cells 4 rfl
        refine st_g (v := (.agg #[(Sl a17 r14.1.1 c18), (Sl a20 r14.1.2 c21)])) (congrArg some hb119) (rv_load (cs := [(Sl a17 r14.1.1 c18), (Sl a20 r14.1.2 c21)]) Try.underlying26 rfl ti26 rfl rfl hc120) ?_
        replace H := H.roLow 3 0 rfl (Nat.zero_le _)
        replace H := H.roLow 3 0 rfl (Nat.zero_le _)
        obtain ⟨r121, hx122, h'⟩ := bind_some h
        clear h
        have h := h'; clear h'
        have hc123 := c_impl_ValidHistory (ah_0_0 := a17) (ch_0_0 := c18) (ah_0_1 := a20) (ch_0_1 := c21) hx122
        refine st_call (cx_call hc123 (ent_f hc123.fn rfl) hn0 (show Hp S0 σ0 _ ([Ch.ro 0 (Sl a17 r14.1.1 c18) r14.1.1, Ch.ro 0 (Sl a20 r14.1.2 c21) r14.1.2] ++ [Ch.ro 0 (Sl a20 r14.1.2 c21) r14.1.2, Ch.ro 0 (Sl a17 r14.1.1 c18) r14.1.1, Ch.ro 0 (Sl a108 r105 c109) r105, Ch.ro 0 (Sl a101 r98 c102) r98, Ch.ro n0 (Sl a20 r14.1.2 c21) r14.1.2, Ch.ro n0 (Sl a17 r14.1.1 c18) r14.1.1, Ch.bx n0 b23 0 [(Sl a17 r14.1.1 c18), (Sl a20 r14.1.2 c21)] [] []]) from (H.sel' [1, 0, 0, 1, 2, 3, 4, 5, 6] rfl rfl))) (wanted_yes rfl (by exact (congrArg some hb119))) ?_
        rintro _ σ124 ⟨_, ⟨rfl, rfl⟩, H, -⟩
        replace H : Hp S0 σ0 σ124 [Ch.ro 0 (Sl a20 r14.1.2 c21) r14.1.2, Ch.ro 0 (Sl a17 r14.1.1 c18) r14.1.1, Ch.ro 0 (Sl a108 r105 c109) r105, Ch.ro 0 (Sl a101 r98 c102) r98, Ch.ro n0 (Sl a20 r14.1.2 c21) r14.1.2, Ch.ro n0 (Sl a17 r14.1.1 c18) r14.1.1, Ch.bx n0 b23 0 [(Sl a17 r14.1.1 c18), (Sl a20 r14.1.2 c21)] [] []] := H
        refine st (v := (B r121)) (rv_pick_t (congrArg B hb119) rfl) ?_
        refine st (v := (B r121)) (rv_assign rfl) ?_
        refine w_end ?_
        refine q_then ?_
        refine c_ret ?_
        obtain rfl := Option.some.inj h
        exact fin_ret (v := (B r121)) (results_ok Try.results8 (res_tmp (v := (B r121)) rfl res_nil) rfl) ⟨rfl, rfl⟩ (H.sel' [] rfl rfl)
       ·replace h := bif_f hb119 h
        refine st_skip (congrArg some hb119) ?_
        refine st_skip (congrArg some hb119) ?_
        refine st (v := (B false)) (rv_pick_f (congrArg B hb119) rfl) ?_
        refine st (v := (B false)) (rv_assign rfl) ?_
        refine w_end ?_
        refine q_then ?_
        refine c_ret ?_
        obtain rfl := Option.some.inj h
        exact fin_ret (v := (B false)) (results_ok Try.results8 (res_tmp (v := (B false)) rfl res_nil) rfl) ⟨rfl, rfl⟩ (H.sel' [] rfl rfl)
     ·replace h := bif_f hb96 h
      have Hs := H
      refine rg2 (σ := σ75) (Nm := (Option Addr) × (Nat) × (Option Addr) × (Nat)) 19 [2, 4, 7, 9] [[false, false, false, false], [true, false, false, false], [true, true, false, false], [true, true, true, false], [true, true, true, true]] [[(0, 0)], [(0, 0)], [(0, 1)], [(0, 0), (1, 1)], [(1, 2)], [(2, 2)], [(2, 2)], [(2, 3)], [(2, 2), (3, 3)], [(3, 4)], [(4, 4)], [(4, 4)], [(4, 4)], [(4, 4)], [(4, 4)], [(4, 4)], [(4, 4)], [(4, 4)], [(4, 4)]] 4 [fun ((a81, c82, a91, c92) : (Option Addr) × (Nat) × (Option Addr) × (Nat)) => fun σm => Hp S0 σ0 σm [Ch.ro 0 (Sl a20 r14.1.2 c21) r14.1.2, Ch.ro 0 (Sl a17 r14.1.1 c18) r14.1.1, Ch.ro 0 (Sl a20 r14.1.2 c21) r14.1.2, Ch.ro 0 (Sl a17 r14.1.1 c18) r14.1.1, Ch.ro 0 (Sl a68 r65 c69) r65, Ch.ro n0 (Sl a20 r14.1.2 c21) r14.1.2, Ch.ro n0 (Sl a17 r14.1.1 c18) r14.1.1, Ch.ro n0 (Sl a5 r2.1.1 c6) r2.1.1, Ch.ro n0 (Sl a7 r2.1.2 c8) r2.1.2, Ch.bx n0 b10 0 [(Sl a5 r2.1.1 c6), (Sl a7 r2.1.2 c8)] [] [], Ch.bx n0 b23 0 [(Sl a17 r14.1.1 c18), (Sl a20 r14.1.2 c21)] [] []] ∧ Md (cov []) σ75 σm, fun ((a81, c82, a91, c92) : (Option Addr) × (Nat) × (Option Addr) × (Nat)) => fun σm => Hp S0 σ0 σm [Ch.ro 0 (Sl a81 r78 c82) r78, Ch.ro 0 (Sl a20 r14.1.2 c21) r14.1.2, Ch.ro 0 (Sl a17 r14.1.1 c18) r14.1.1, Ch.ro 0 (Sl a20 r14.1.2 c21) r14.1.2, Ch.ro 0 (Sl a17 r14.1.1 c18) r14.1.1, Ch.ro 0 (Sl a68 r65 c69) r65, Ch.ro n0 (Sl a20 r14.1.2 c21) r14.1.2, Ch.ro n0 (Sl a17 r14.1.1 c18) r14.1.1, Ch.ro n0 (Sl a5 r2.1.1 c6) r2.1.1, Ch.ro n0 (Sl a7 r2.1.2 c8) r2.1.2, Ch.bx n0 b10 0 [(Sl a5 r2.1.1 c6), (Sl a7 r2.1.2 c8)] [] [], Ch.bx n0 b23 0 [(Sl a17 r14.1.1 c18), (Sl a20 r14.1.2 c21)] [] []] ∧ Md (fun i => (cov []) i ∨ (fun i => (cov [Ch.ro 0 (Sl a17 r14.1.1 c18) r14.1.1, Ch.ro 0 (Sl a20 r14.1.2 c21) r14.1.2]) i ∨ (fun b => blk (Sl a81 r78 c82) = some b) i) i) σ75 σm, fun ((a81, c82, a91, c92) : (Option Addr) × (Nat) × (Option Addr) × (Nat)) => fun σm => Hp S0 σ0 σm [Ch.ro 0 (Sl a81 r78 c82) r78, Ch.ro 0 (Sl a20 r14.1.2 c21) r14.1.2, Ch.ro 0 (Sl a17 r14.1.1 c18) r14.1.1, Ch.ro 0 (Sl a20 r14.1.2 c21) r14.1.2, Ch.ro 0 (Sl a17 r14.1.1 c18) r14.1.1, Ch.ro 0 (Sl a68 r65 c69) r65, Ch.ro n0 (Sl a20 r14.1.2 c21) r14.1.2, Ch.ro n0 (Sl a17 r14.1.1 c18) r14.1.1, Ch.ro n0 (Sl a5 r2.1.1 c6) r2.1.1, Ch.ro n0 (Sl a7 r2.1.2 c8) r2.1.2, Ch.bx n0 b10 0 [(Sl a5 r2.1.1 c6), (Sl a7 r2.1.2 c8)] [] [], Ch.bx n0 b23 0 [(Sl a17 r14.1.1 c18), (Sl a20 r14.1.2 c21)] [] []] ∧ Md (fun i => (cov []) i ∨ (fun i => (cov [Ch.ro 0 (Sl a17 r14.1.1 c18) r14.1.1, Ch.ro 0 (Sl a20 r14.1.2 c21) r14.1.2]) i ∨ (fun b => blk (Sl a81 r78 c82) = some b) i) i) σ75 σm, fun ((a81, c82, a91, c92) : (Option Addr) × (Nat) × (Option Addr) × (Nat)) => fun σm => Hp S0 σ0 σm [Ch.ro 0 (Sl a91 r88 c92) r88, Ch.ro 0 (Sl a81 r78 c82) r78, Ch.ro 0 (Sl a20 r14.1.2 c21) r14.1.2, Ch.ro 0 (Sl a17 r14.1.1 c18) r14.1.1, Ch.ro 0 (Sl a20 r14.1.2 c21) r14.1.2, Ch.ro 0 (Sl a17 r14.1.1 c18) r14.1.1, Ch.ro 0 (Sl a68 r65 c69) r65, Ch.ro n0 (Sl a20 r14.1.2 c21) r14.1.2, Ch.ro n0 (Sl a17 r14.1.1 c18) r14.1.1, Ch.ro n0 (Sl a5 r2.1.1 c6) r2.1.1, Ch.ro n0 (Sl a7 r2.1.2 c8) r2.1.2, Ch.bx n0 b10 0 [(Sl a5 r2.1.1 c6), (Sl a7 r2.1.2 c8)] [] [], Ch.bx n0 b23 0 [(Sl a17 r14.1.1 c18), (Sl a20 r14.1.2 c21)] [] []] ∧ Md (fun i => (fun i => (cov []) i ∨ (fun i => (cov [Ch.ro 0 (Sl a17 r14.1.1 c18) r14.1.1, Ch.ro 0 (Sl a20 r14.1.2 c21) r14.1.2]) i ∨ (fun b => blk (Sl a81 r78 c82) = some b) i) i) i ∨ (fun i => (cov [Ch.ro 0 (Sl a17 r14.1.1 c18) r14.1.1, Ch.ro 0 (Sl a20 r14.1.2 c21) r14.1.2]) i ∨ (fun b => blk (Sl a91 r88 c92) = some b) i) i) σ75 σm, fun ((a81, c82, a91, c92) : (Option Addr) × (Nat) × (Option Addr) × (Nat)) => fun σm => Hp S0 σ0 σm [Ch.ro 0 (Sl a91 r88 c92) r88, Ch.ro 0 (Sl a81 r78 c82) r78, Ch.ro 0 (Sl a20 r14.1.2 c21) r14.1.2, Ch.ro 0 (Sl a17 r14.1.1 c18) r14.1.1, Ch.ro 0 (Sl a20 r14.1.2 c21) r14.1.2, Ch.ro 0 (Sl a17 r14.1.1 c18) r14.1.1, Ch.ro 0 (Sl a68 r65 c69) r65, Ch.ro n0 (Sl a20 r14.1.2 c21) r14.1.2, Ch.ro n0 (Sl a17 r14.1.1 c18) r14.1.1, Ch.ro n0 (Sl a5 r2.1.1 c6) r2.1.1, Ch.ro n0 (Sl a7 r2.1.2 c8) r2.1.2, Ch.bx n0 b10 0 [(Sl a5 r2.1.1 c6), (Sl a7 r2.1.2 c8)] [] [], Ch.bx n0 b23 0 [(Sl a17 r14.1.1 c18), (Sl a20 r14.1.2 c21)] [] []] ∧ Md (fun i => (fun i => (cov []) i ∨ (fun i => (cov [Ch.ro 0 (Sl a17 r14.1.1 c18) r14.1.1, Ch.ro 0 (Sl a20 r14.1.2 c21) r14.1.2]) i ∨ (fun b => blk (Sl a81 r78 c82) = some b) i) i) i ∨ (fun i => (cov [Ch.ro 0 (Sl a17 r14.1.1 c18) r14.1.1, Ch.ro 0 (Sl a20 r14.1.2 c21) r14.1.2]) i ∨ (fun b => blk (Sl a91 r88 c92) = some b) i) i) σ75 σm] [fun ((a81, c82, a91, c92) : (Option Addr) × (Nat) × (Option Addr) × (Nat)) => (.agg #[(Sl a17 r14.1.1 c18), (Sl a20 r14.1.2 c21)]), fun ((a81, c82, a91, c92) : (Option Addr) × (Nat) × (Option Addr) × (Nat)) => (I r2.2), fun ((a81, c82, a91, c92) : (Option Addr) × (Nat) × (Option Addr) × (Nat)) => (Sl a81 r78 c82), fun ((a81, c82, a91, c92) : (Option Addr) × (Nat) × (Option Addr) × (Nat)) => (Sl a68 r65 c69), fun ((a81, c82, a91, c92) : (Option Addr) × (Nat) × (Option Addr) × (Nat)) => (B r83), fun ((a81, c82, a91, c92) : (Option Addr) × (Nat) × (Option Addr) × (Nat)) => (B r83), fun ((a81, c82, a91, c92) : (Option Addr) × (Nat) × (Option Addr) × (Nat)) => (.agg #[(Sl a17 r14.1.1 c18), (Sl a20 r14.1.2 c21)]), fun ((a81, c82, a91, c92) : (Option Addr) × (Nat) × (Option Addr) × (Nat)) => (Sl a91 r88 c92), fun ((a81, c82, a91, c92) : (Option Addr) × (Nat) × (Option Addr) × (Nat)) => (Sl a68 r65 c69), fun ((a81, c82, a91, c92) : (Option Addr) × (Nat) × (Option Addr) × (Nat)) => (B r93), fun ((a81, c82, a91, c92) : (Option Addr) × (Nat) × (Option Addr) × (Nat)) => (B r93), fun ((a81, c82, a91, c92) : (Option Addr) × (Nat) × (Option Addr) × (Nat)) => (B r93), fun ((a81, c82, a91, c92) : (Option Addr) × (Nat) × (Option Addr) × (Nat)) => undef, fun ((a81, c82, a91, c92) : (Option Addr) × (Nat) × (Option Addr) × (Nat)) => undef, fun ((a81, c82, a91, c92) : (Option Addr) × (Nat) × (Option Addr) × (Nat)) => undef, fun ((a81, c82, a91, c92) : (Option Addr) × (Nat) × (Option Addr) × (Nat)) => undef, fun ((a81, c82, a91, c92) : (Option Addr) × (Nat) × (Option Addr) × (Nat)) => undef, fun ((a81, c82, a91, c92) : (Option Addr) × (Nat) × (Option Addr) × (Nat)) => undef, fun ((a81, c82, a91, c92) : (Option Addr) × (Nat) × (Option Addr) × (Nat)) => undef] (none, 0, none, 0) (by kernel_rfl) (by kernel_rfl) ?_ ?_ ?_
      ·intro σm m0
       exact ⟨H.grow (m0.mono fun _ h => h.elim), m0⟩
      ·refine all_cons (by
         refine ⟨?_, ?_⟩
         ·rintro ⟨a81, c82, a91, c92⟩ ρ σm hJ hoff hdep
          have e5 := look_off (N := 80) (hoff 5 rfl) rfl
          obtain ⟨H, m⟩ := id hJ
          have hc77 := H.cells 10 rfl
          exact dp_v (v := (.agg #[(Sl a17 r14.1.1 c18), (Sl a20 r14.1.2 c21)])) wn (rv_load (cs := [(Sl a17 r14.1.1 c18), (Sl a20 r14.1.2 c21)]) Try.underlying26 rfl ti26 e5 rfl hc77) rfl hJ
         trivial) ?_
       refine ac rfl (by
         intro k; rintro ⟨a81, c82, a91, c92⟩ ρ σm hJ hoff hdep
         have e4 := look_off (N := 80) (hoff 4 rfl) rfl
         exact dp_v (v := (I r2.2)) wn (rv_move e4) rfl hJ) ?_
       refine all_cons (by
         refine ⟨?_, ?_⟩
         ·rintro ⟨a81, c82, a91, c92⟩ ρ σm hJ hoff hdep
          have e54 : look 80 ρ 54 = (.agg #[(Sl a17 r14.1.1 c18), (Sl a20 r14.1.2 c21)]) := hdep 0 rfl rfl 54 rfl
          have e55 : look 80 ρ 55 = (I r2.2) := hdep 1 rfl rfl 55 rfl
          obtain ⟨H, m⟩ := id hJ
          refine dp_cx wn (cx_call hc80 (ent_f hc80.fn (by show [look 80 ρ 54, look 80 ρ 55] = _; rw [e54, e55])) hn0 (show Hp S0 σ0 _ ([Ch.ro 0 (Sl a17 r14.1.1 c18) r14.1.1, Ch.ro 0 (Sl a20 r14.1.2 c21) r14.1.2] ++ [Ch.ro 0 (Sl a20 r14.1.2 c21) r14.1.2, Ch.ro 0 (Sl a17 r14.1.1 c18) r14.1.1, Ch.ro 0 (Sl a20 r14.1.2 c21) r14.1.2, Ch.ro 0 (Sl a17 r14.1.1 c18) r14.1.1, Ch.ro 0 (Sl a68 r65 c69) r65, Ch.ro n0 (Sl a20 r14.1.2 c21) r14.1.2, Ch.ro n0 (Sl a17 r14.1.1 c18) r14.1.1, Ch.ro n0 (Sl a5 r2.1.1 c6) r2.1.1, Ch.ro n0 (Sl a7 r2.1.2 c8) r2.1.2, Ch.bx n0 b10 0 [(Sl a5 r2.1.1 c6), (Sl a7 r2.1.2 c8)] [] [], Ch.bx n0 b23 0 [(Sl a17 r14.1.1 c18), (Sl a20 r14.1.2 c21)] [] []]) from (H.sel' [3, 2, 0, 1, 2, 3, 4, 5, 6, 7, 8, 9, 10] rfl rfl))) ?_
          rintro _ σq ⟨_, ⟨a81x, c82x, rfl, rfl⟩, H2, m2⟩
          obtain ⟨σr0, hwr0, H2, mr0⟩ := H2.pub 0 rfl (Nat.le_refl _)
          exact ⟨_, (a81x, c82x, a91, c92), hwr0, rfl, ⟨H2.sel' [0, 1, 2, 3, 4, 5, 6, 7, 8, 9, 10, 11] rfl rfl, m.comp (m2.comp mr0)⟩, stab [0, 1, 3] (by kernel_rfl) ⟨rfl, rfl, rfl, trivial⟩⟩
         trivial) ?_
       refine ac rfl (by
         intro k; rintro ⟨a81, c82, a91, c92⟩ ρ σm hJ hoff hdep
         have e9 := look_off (N := 80) (hoff 9 rfl) rfl
         exact dp_v (v := (Sl a68 r65 c69)) wn (rv_move e9) rfl hJ) ?_
       refine all_cons (by
         refine ⟨?_, ?_⟩
         ·rintro ⟨a81, c82, a91, c92⟩ ρ σm hJ hoff hdep
          have e56 : look 80 ρ 56 = (Sl a81 r78 c82) := hdep 2 rfl rfl 56 rfl
          have e57 : look 80 ρ 57 = (Sl a68 r65 c69) := hdep 3 rfl rfl 57 rfl
          obtain ⟨H, m⟩ := id hJ
          refine dp_cx wn (cx_call (hc85 a81 c82) (ent_f (hc85 a81 c82).fn (by show [look 80 ρ 56, look 80 ρ 57] = _; rw [e56, e57])) hn0 (show Hp S0 σ0 _ ([Ch.ro 0 (Sl a81 r78 c82) r78, Ch.ro 0 (Sl a68 r65 c69) r65] ++ [Ch.ro 0 (Sl a81 r78 c82) r78, Ch.ro 0 (Sl a20 r14.1.2 c21) r14.1.2, Ch.ro 0 (Sl a17 r14.1.1 c18) r14.1.1, Ch.ro 0 (Sl a20 r14.1.2 c21) r14.1.2, Ch.ro 0 (Sl a17 r14.1.1 c18) r14.1.1, Ch.ro 0 (Sl a68 r65 c69) r65, Ch.ro n0 (Sl a20 r14.1.2 c21) r14.1.2, Ch.ro n0 (Sl a17 r14.1.1 c18) r14.1.1, Ch.ro n0 (Sl a5 r2.1.1 c6) r2.1.1, Ch.ro n0 (Sl a7 r2.1.2 c8) r2.1.2, Ch.bx n0 b10 0 [(Sl a5 r2.1.1 c6), (Sl a7 r2.1.2 c8)] [] [], Ch.bx n0 b23 0 [(Sl a17 r14.1.1 c18), (Sl a20 r14.1.2 c21)] [] []]) from (H.sel' [0, 5, 0, 1, 2, 3, 4, 5, 6, 7, 8, 9, 10, 11] rfl rfl))) ?_
          rintro _ σq ⟨_, ⟨rfl, rfl⟩, H2, m2⟩
          exact ⟨_, (a81, c82, a91, c92), rfl, rfl, ⟨H2.sel' [0, 1, 2, 3, 4, 5, 6, 7, 8, 9, 10, 11] rfl rfl, m.comp0 (m2.mono (fun i h => by simp [cov, Ch.ro] at h))⟩, stab [0, 1, 2, 3] (by kernel_rfl) ⟨rfl, rfl, rfl, rfl, trivial⟩⟩
         trivial) ?_
       refine ac rfl (by
         intro k; rintro ⟨a81, c82, a91, c92⟩ ρ σm hJ hoff hdep
         have e58 := hdep 4 rfl rfl 58 rfl
         exact dp_v (v := (B r83)) wn (rv_move e58) rfl hJ) ?_
       refine all_cons (by
         refine ⟨?_, ?_⟩
         ·rintro ⟨a81, c82, a91, c92⟩ ρ σm hJ hoff hdep
          have e5 := look_off (N := 80) (hoff 5 rfl) rfl
          have e59 := hdep 5 rfl rfl 59 rfl
          obtain ⟨H, m⟩ := id hJ
          have hc87 := H.cells 11 rfl
          exact dp_v (v := (.agg #[(Sl a17 r14.1.1 c18), (Sl a20 r14.1.2 c21)])) (wanted_yes rfl (yv_of rfl (e59.trans (congrArg B hb86)))) (rv_load (cs := [(Sl a17 r14.1.1 c18), (Sl a20 r14.1.2 c21)]) Try.underlying26 rfl ti26 e5 rfl hc87) rfl hJ
         trivial) ?_
       refine all_cons (by
         refine ⟨?_, ?_⟩
         ·rintro ⟨a81, c82, a91, c92⟩ ρ σm hJ hoff hdep
          have e60 : look 80 ρ 60 = (.agg #[(Sl a17 r14.1.1 c18), (Sl a20 r14.1.2 c21)]) := hdep 6 rfl rfl 60 rfl
          have e59 := hdep 5 rfl rfl 59 rfl
          obtain ⟨H, m⟩ := id hJ
          refine dp_cx (wanted_yes rfl (yv_of rfl (e59.trans (congrArg B hb86)))) (cx_call hc90 (ent_f hc90.fn (by show [look 80 ρ 60, (I 1000)] = _; rw [e60])) hn0 (show Hp S0 σ0 _ ([Ch.ro 0 (Sl a17 r14.1.1 c18) r14.1.1, Ch.ro 0 (Sl a20 r14.1.2 c21) r14.1.2] ++ [Ch.ro 0 (Sl a81 r78 c82) r78, Ch.ro 0 (Sl a20 r14.1.2 c21) r14.1.2, Ch.ro 0 (Sl a17 r14.1.1 c18) r14.1.1, Ch.ro 0 (Sl a20 r14.1.2 c21) r14.1.2, Ch.ro 0 (Sl a17 r14.1.1 c18) r14.1.1, Ch.ro 0 (Sl a68 r65 c69) r65, Ch.ro n0 (Sl a20 r14.1.2 c21) r14.1.2, Ch.ro n0 (Sl a17 r14.1.1 c18) r14.1.1, Ch.ro n0 (Sl a5 r2.1.1 c6) r2.1.1, Ch.ro n0 (Sl a7 r2.1.2 c8) r2.1.2, Ch.bx n0 b10 0 [(Sl a5 r2.1.1 c6), (Sl a7 r2.1.2 c8)] [] [], Ch.bx n0 b23 0 [(Sl a17 r14.1.1 c18), (Sl a20 r14.1.2 c21)] [] []]) from (H.sel' [2, 1, 0, 1, 2, 3, 4, 5, 6, 7, 8, 9, 10, 11] rfl rfl))) ?_
          rintro _ σq ⟨_, ⟨a91x, c92x, rfl, rfl⟩, H2, m2⟩
          obtain ⟨σr0, hwr0, H2, mr0⟩ := H2.pub 0 rfl (Nat.le_refl _)
          exact ⟨_, (a81, c82, a91x, c92x), hwr0, rfl, ⟨H2.sel' [0, 1, 2, 3, 4, 5, 6, 7, 8, 9, 10, 11, 12] rfl rfl, m.comp (m2.comp mr0)⟩, stab [0, 1, 2, 3, 4, 5, 6, 8] (by kernel_rfl) ⟨rfl, rfl, rfl, rfl, rfl, rfl, rfl, rfl, trivial⟩⟩
         trivial) ?_
       refine ac rfl (by
         intro k; rintro ⟨a81, c82, a91, c92⟩ ρ σm hJ hoff hdep
         have e9 := look_off (N := 80) (hoff 9 rfl) rfl
         have e59 := hdep 5 rfl rfl 59 rfl
         exact dp_v (v := (Sl a68 r65 c69)) (wanted_yes rfl (yv_of rfl (e59.trans (congrArg B hb86)))) (rv_move e9) rfl hJ) ?_
       refine all_cons (by
         refine ⟨?_, ?_⟩
         ·rintro ⟨a81, c82, a91, c92⟩ ρ σm hJ hoff hdep
          have e61 : look 80 ρ 61 = (Sl a91 r88 c92) := hdep 7 rfl rfl 61 rfl
          have e62 : look 80 ρ 62 = (Sl a68 r65 c69) := hdep 8 rfl rfl 62 rfl
          have e59 := hdep 5 rfl rfl 59 rfl
          obtain ⟨H, m⟩ := id hJ
          refine dp_cx (wanted_yes rfl (yv_of rfl (e59.trans (congrArg B hb86)))) (cx_call (hc95 a91 c92) (ent_f (hc95 a91 c92).fn (by show [look 80 ρ 61, look 80 ρ 62] = _; rw [e61, e62])) hn0 (show Hp S0 σ0 _ ([Ch.ro 0 (Sl a91 r88 c92) r88, Ch.ro 0 (Sl a68 r65 c69) r65] ++ [Ch.ro 0 (Sl a91 r88 c92) r88, Ch.ro 0 (Sl a81 r78 c82) r78, Ch.ro 0 (Sl a20 r14.1.2 c21) r14.1.2, Ch.ro 0 (Sl a17 r14.1.1 c18) r14.1.1, Ch.ro 0 (Sl a20 r14.1.2 c21) r14.1.2, Ch.ro 0 (Sl a17 r14.1.1 c18) r14.1.1, Ch.ro 0 (Sl a68 r65 c69) r65, Ch.ro n0 (Sl a20 r14.1.2 c21) r14.1.2, Ch.ro n0 (Sl a17 r14.1.1 c18) r14.1.1, Ch.ro n0 (Sl a5 r2.1.1 c6) r2.1.1, Ch.ro n0 (Sl a7 r2.1.2 c8) r2.1.2, Ch.bx n0 b10 0 [(Sl a5 r2.1.1 c6), (Sl a7 r2.1.2 c8)] [] [], Ch.bx n0 b23 0 [(Sl a17 r14.1.1 c18), (Sl a20 r14.1.2 c21)] [] []]) from (H.sel' [0, 6, 0, 1, 2, 3, 4, 5, 6, 7, 8, 9, 10, 11, 12] rfl rfl))) ?_
          rintro _ σq ⟨_, ⟨rfl, rfl⟩, H2, m2⟩
          exact ⟨_, (a81, c82, a91, c92), rfl, rfl, ⟨H2.sel' [0, 1, 2, 3, 4, 5, 6, 7, 8, 9, 10, 11, 12] rfl rfl, m.comp0 (m2.mono (fun i h => by simp [cov, Ch.ro] at h))⟩, stab [0, 1, 2, 3, 4, 5, 6, 7, 8] (by kernel_rfl) ⟨rfl, rfl, rfl, rfl, rfl, rfl, rfl, rfl, rfl, trivial⟩⟩
         trivial) ?_
       refine ac rfl (by
         intro k; rintro ⟨a81, c82, a91, c92⟩ ρ σm hJ hoff hdep
         have e59 := hdep 5 rfl rfl 59 rfl
         have e63 := hdep 9 rfl rfl 63 rfl
         exact dp_v (v := (B r93)) wn (rv_pick_t (e59.trans (congrArg B hb86)) e63) rfl hJ) ?_
       refine ac rfl (by
         intro k; rintro ⟨a81, c82, a91, c92⟩ ρ σm hJ hoff hdep
         have e64 := hdep 10 rfl rfl 64 rfl
         exact dp_v (v := (B r93)) wn (rv_move e64) rfl hJ) ?_
       refine ac rfl (by
         intro k; rintro ⟨a81, c82, a91, c92⟩ ρ σm hJ hoff hdep
         have e65 := hdep 11 rfl rfl 65 rfl
         exact dp_skip (wanted_no rfl (yv_of rfl (e65.trans (congrArg B hb96)))) rfl hJ) ?_
       refine ac rfl (by
         intro k; rintro ⟨a81, c82, a91, c92⟩ ρ σm hJ hoff hdep
         have e65 := hdep 11 rfl rfl 65 rfl
         exact dp_skip (wanted_no rfl (yv_of rfl (e65.trans (congrArg B hb96)))) rfl hJ) ?_
       refine ac rfl (by
         intro k; rintro ⟨a81, c82, a91, c92⟩ ρ σm hJ hoff hdep
         have e65 := hdep 11 rfl rfl 65 rfl
         exact dp_skip (wanted_no rfl (yv_of rfl (e65.trans (congrArg B hb96)))) rfl hJ) ?_
       refine ac rfl (by
         intro k; rintro ⟨a81, c82, a91, c92⟩ ρ σm hJ hoff hdep
         have e65 := hdep 11 rfl rfl 65 rfl
         exact dp_skip (wanted_no rfl (yv_of rfl (e65.trans (congrArg B hb96)))) rfl hJ) ?_
       refine ac rfl (by
         intro k; rintro ⟨a81, c82, a91, c92⟩ ρ σm hJ hoff hdep
         have e65 := hdep 11 rfl rfl 65 rfl
         exact dp_skip (wanted_no rfl (yv_of rfl (e65.trans (congrArg B hb96)))) rfl hJ) ?_
       refine ac rfl (by
         intro k; rintro ⟨a81, c82, a91, c92⟩ ρ σm hJ hoff hdep
         have e65 := hdep 11 rfl rfl 65 rfl
         exact dp_skip (wanted_no rfl (yv_of rfl (e65.trans (congrArg B hb96)))) rfl hJ) ?_
       refine ac rfl (by
         intro k; rintro ⟨a81, c82, a91, c92⟩ ρ σm hJ hoff hdep
         have e65 := hdep 11 rfl rfl 65 rfl
         exact dp_skip (wanted_no rfl (yv_of rfl (e65.trans (congrArg B hb96)))) rfl hJ) ?_
       exact all_nil
      ·rintro ⟨a81, c82, a91, c92⟩ ρ σ125 hJ hoff hrel
       have e5 := look_off (N := 80) (hoff 5 rfl) rfl
       have e65 := hrel 11 rfl 65 rfl
       have e69 := hrel 15 rfl 69 rfl
       have e70 := hrel 16 rfl 70 rfl
       have e72 := hrel 18 rfl 72 rfl
       obtain ⟨H, -⟩ := (show Hp S0 σ0 σ125 [Ch.ro 0 (Sl a91 r88 c92) r88, Ch.ro 0 (Sl a81 r78 c82) r78, Ch.ro 0 (Sl a20 r14.1.2 c21) r14.1.2, Ch.ro 0 (Sl a17 r14.1.1 c18) r14.1.1, Ch.ro 0 (Sl a20 r14.1.2 c21) r14.1.2, Ch.ro 0 (Sl a17 r14.1.1 c18) r14.1.1, Ch.ro 0 (Sl a68 r65 c69) r65, Ch.ro n0 (Sl a20 r14.1.2 c21) r14.1.2, Ch.ro n0 (Sl a17 r14.1.1 c18) r14.1.1, Ch.ro n0 (Sl a5 r2.1.1 c6) r2.1.1, Ch.ro n0 (Sl a7 r2.1.2 c8) r2.1.2, Ch.bx n0 b10 0 [(Sl a5 r2.1.1 c6), (Sl a7 r2.1.2 c8)] [] [], Ch.bx n0 b23 0 [(Sl a17 r14.1.1 c18), (Sl a20 r14.1.2 c21)] [] []] ∧ Md (fun i => (fun i => (cov []) i ∨ (fun i => (cov [Ch.ro 0 (Sl a17 r14.1.1 c18) r14.1.1, Ch.ro 0 (Sl a20 r14.1.2 c21) r14.1.2]) i ∨ (fun b => blk (Sl a81 r78 c82) = some b) i) i) i ∨ (fun i => (cov [Ch.ro 0 (Sl a17 r14.1.1 c18) r14.1.1, Ch.ro 0 (Sl a20 r14.1.2 c21) r14.1.2]) i ∨ (fun b => blk (Sl a91 r88 c92) = some b) i) i) σ75 σ125 from hJ)
       clear hJ Hs
       rw [fr_lookL (L := [(5, (pt b23 0)), (65, (B r93)), (69, undef), (70, undef), (72, undef)]) ⟨e5, e65, e69, e70, e72, trivial⟩]
       clear hoff hrel e5 e65 e69 e70 e72
       refine st_skip (congrArg some hb96) ?_
       refine st_skip (congrArg some hb96) ?_
       refine st (v := (B false)) (rv_pick_f (congrArg B hb96) rfl) ?_
       refine st (v := (B false)) (rv_move rfl) ?_
       refine st_skip rfl ?_
       refine st_skip rfl ?_
       refine st (v := (B false)) (rv_pick_f rfl rfl) ?_
       refine st (v := (B false)) (rv_assign rfl) ?_
       refine w_end ?_
       refine q_then ?_
       refine c_ret ?_
       obtain rfl := Option.some.inj h
       exact fin_ret (v := (B false)) (results_ok Try.results8 (res_tmp (v := (B false)) rfl res_nil) rfl) ⟨rfl, rfl⟩ (H.sel' [] rfl rfl)
    ·replace h := bif_f hb86 h
     have Hs := H
     refine rg2 (σ := σ75) (Nm := (Option Addr) × (Nat)) 19 [2, 4] [[false, false], [true, false], [true, true]] [[(0, 0)], [(0, 0)], [(0, 1)], [(0, 0), (1, 1)], [(1, 2)], [(2, 2)], [(2, 2)], [(2, 2)], [(2, 2)], [(2, 2)], [(2, 2)], [(2, 2)], [(2, 2)], [(2, 2)], [(2, 2)], [(2, 2)], [(2, 2)], [(2, 2)], [(2, 2)]] 2 [fun ((a81, c82) : (Option Addr) × (Nat)) => fun σm => Hp S0 σ0 σm [Ch.ro 0 (Sl a20 r14.1.2 c21) r14.1.2, Ch.ro 0 (Sl a17 r14.1.1 c18) r14.1.1, Ch.ro 0 (Sl a68 r65 c69) r65, Ch.ro n0 (Sl a20 r14.1.2 c21) r14.1.2, Ch.ro n0 (Sl a17 r14.1.1 c18) r14.1.1, Ch.ro n0 (Sl a5 r2.1.1 c6) r2.1.1, Ch.ro n0 (Sl a7 r2.1.2 c8) r2.1.2, Ch.bx n0 b10 0 [(Sl a5 r2.1.1 c6), (Sl a7 r2.1.2 c8)] [] [], Ch.bx n0 b23 0 [(Sl a17 r14.1.1 c18), (Sl a20 r14.1.2 c21)] [] []] ∧ Md (cov []) σ75 σm, fun ((a81, c82) : (Option Addr) × (Nat)) => fun σm => Hp S0 σ0 σm [Ch.ro 0 (Sl a81 r78 c82) r78, Ch.ro 0 (Sl a20 r14.1.2 c21) r14.1.2, Ch.ro 0 (Sl a17 r14.1.1 c18) r14.1.1, Ch.ro 0 (Sl a68 r65 c69) r65, Ch.ro n0 (Sl a20 r14.1.2 c21) r14.1.2, Ch.ro n0 (Sl a17 r14.1.1 c18) r14.1.1, Ch.ro n0 (Sl a5 r2.1.1 c6) r2.1.1, Ch.ro n0 (Sl a7 r2.1.2 c8) r2.1.2, Ch.bx n0 b10 0 [(Sl a5 r2.1.1 c6), (Sl a7 r2.1.2 c8)] [] [], Ch.bx n0 b23 0 [(Sl a17 r14.1.1 c18), (Sl a20 r14.1.2 c21)] [] []] ∧ Md (fun i => (cov []) i ∨ (fun i => (cov [Ch.ro 0 (Sl a17 r14.1.1 c18) r14.1.1, Ch.ro 0 (Sl a20 r14.1.2 c21) r14.1.2]) i ∨ (fun b => blk (Sl a81 r78 c82) = some b) i) i) σ75 σm, fun ((a81, c82) : (Option Addr) × (Nat)) => fun σm => Hp S0 σ0 σm [Ch.ro 0 (Sl a81 r78 c82) r78, Ch.ro 0 (Sl a20 r14.1.2 c21) r14.1.2, Ch.ro 0 (Sl a17 r14.1.1 c18) r14.1.1, Ch.ro 0 (Sl a68 r65 c69) r65, Ch.ro n0 (Sl a20 r14.1.2 c21) r14.1.2, Ch.ro n0 (Sl a17 r14.1.1 c18) r14.1.1, Ch.ro n0 (Sl a5 r2.1.1 c6) r2.1.1, Ch.ro n0 (Sl a7 r2.1.2 c8) r2.1.2, Ch.bx n0 b10 0 [(Sl a5 r2.1.1 c6), (Sl a7 r2.1.2 c8)] [] [], Ch.bx n0 b23 0 [(Sl a17 r14.1.1 c18), (Sl a20 r14.1.2 c21)] [] []] ∧ Md (fun i => (cov []) i ∨ (fun i => (cov [Ch.ro 0 (Sl a17 r14.1.1 c18) r14.1.1, Ch.ro 0 (Sl a20 r14.1.2 c21) r14.1.2]) i ∨ (fun b => blk (Sl a81 r78 c82) = some b) i) i) σ75 σm] [fun ((a81, c82) : (Option Addr) × (Nat)) => (.agg #[(Sl a17 r14.1.1 c18), (Sl a20 r14.1.2 c21)]), fun ((a81, c82) : (Option Addr) × (Nat)) => (I r2.2), fun ((a81, c82) : (Option Addr) × (Nat)) => (Sl a81 r78 c82), fun ((a81, c82) : (Option Addr) × (Nat)) => (Sl a68 r65 c69), fun ((a81, c82) : (Option Addr) × (Nat)) => (B r83), fun ((a81, c82) : (Option Addr) × (Nat)) => (B r83), fun ((a81, c82) : (Option Addr) × (Nat)) => undef, fun ((a81, c82) : (Option Addr) × (Nat)) => undef, fun ((a81, c82) : (Option Addr) × (Nat)) => undef, fun ((a81, c82) : (Option Addr) × (Nat)) => undef, fun ((a81, c82) : (Option Addr) × (Nat)) => (B false), fun ((a81, c82) : (Option Addr) × (Nat)) => (B false), fun ((a81, c82) : (Option Addr) × (Nat)) => undef, fun ((a81, c82) : (Option Addr) × (Nat)) => undef, fun ((a81, c82) : (Option Addr) × (Nat)) => undef, fun ((a81, c82) : (Option Addr) × (Nat)) => undef, fun ((a81, c82) : (Option Addr) × (Nat)) => undef, fun ((a81, c82) : (Option Addr) × (Nat)) => undef, fun ((a81, c82) : (Option Addr) × (Nat)) => undef] (none, 0) (by kernel_rfl) (by kernel_rfl) ?_ ?_ ?_
     ·intro σm m0
      exact ⟨H.grow (m0.mono fun _ h => h.elim), m0⟩
     ·refine all_cons (by
        refine ⟨?_, ?_⟩
        ·rintro ⟨a81, c82⟩ ρ σm hJ hoff hdep
         have e5 := look_off (N := 80) (hoff 5 rfl) rfl
         obtain ⟨H, m⟩ := id hJ
         have hc77 := H.cells 8 rfl
         exact dp_v (v := (.agg #[(Sl a17 r14.1.1 c18), (Sl a20 r14.1.2 c21)])) wn (rv_load (cs := [(Sl a17 r14.1.1 c18), (Sl a20 r14.1.2 c21)]) Try.underlying26 rfl ti26 e5 rfl hc77) rfl hJ
        trivial) ?_
      refine ac rfl (by
        intro k; rintro ⟨a81, c82⟩ ρ σm hJ hoff hdep
        have e4 := look_off (N := 80) (hoff 4 rfl) rfl
        exact dp_v (v := (I r2.2)) wn (rv_move e4) rfl hJ) ?_
      refine all_cons (by
        refine ⟨?_, ?_⟩
        ·rintro ⟨a81, c82⟩ ρ σm hJ hoff hdep
         have e54 : look 80 ρ 54 = (.agg #[(Sl a17 r14.1.1 c18), (Sl a20 r14.1.2 c21)]) := hdep 0 rfl rfl 54 rfl
         have e55 : look 80 ρ 55 = (I r2.2) := hdep 1 rfl rfl 55 rfl
         obtain ⟨H, m⟩ := id hJ
         refine dp_cx wn (cx_call hc80 (ent_f hc80.fn (by show [look 80 ρ 54, look 80 ρ 55] = _; rw [e54, e55])) hn0 (show Hp S0 σ0 _ ([Ch.ro 0 (Sl a17 r14.1.1 c18) r14.1.1, Ch.ro 0 (Sl a20 r14.1.2 c21) r14.1.2] ++ [Ch.ro 0 (Sl a20 r14.1.2 c21) r14.1.2, Ch.ro 0 (Sl a17 r14.1.1 c18) r14.1.1, Ch.ro 0 (Sl a68 r65 c69) r65, Ch.ro n0 (Sl a20 r14.1.2 c21) r14.1.2, Ch.ro n0 (Sl a17 r14.1.1 c18) r14.1.1, Ch.ro n0 (Sl a5 r2.1.1 c6) r2.1.1, Ch.ro n0 (Sl a7 r2.1.2 c8) r2.1.2, Ch.bx n0 b10 0 [(Sl a5 r2.1.1 c6), (Sl a7 r2.1.2 c8)] [] [], Ch.bx n0 b23 0 [(Sl a17 r14.1.1 c18), (Sl a20 r14.1.2 c21)] [] []]) from (H.sel' [1, 0, 0, 1, 2, 3, 4, 5, 6, 7, 8] rfl rfl))) ?_
         rintro _ σq ⟨_, ⟨a81x, c82x, rfl, rfl⟩, H2, m2⟩
         obtain ⟨σr0, hwr0, H2, mr0⟩ := H2.pub 0 rfl (Nat.le_refl _)
         exact ⟨_, (a81x, c82x), hwr0, rfl, ⟨H2.sel' [0, 1, 2, 3, 4, 5, 6, 7, 8, 9] rfl rfl, m.comp (m2.comp mr0)⟩, stab [0, 1, 3] (by kernel_rfl) ⟨rfl, rfl, rfl, trivial⟩⟩
        trivial) ?_
      refine ac rfl (by
        intro k; rintro ⟨a81, c82⟩ ρ σm hJ hoff hdep
        have e9 := look_off (N := 80) (hoff 9 rfl) rfl
        exact dp_v (v := (Sl a68 r65 c69)) wn (rv_move e9) rfl hJ) ?_
      refine all_cons (by
        refine ⟨?_, ?_⟩
        ·rintro ⟨a81, c82⟩ ρ σm hJ hoff hdep
         have e56 : look 80 ρ 56 = (Sl a81 r78 c82) := hdep 2 rfl rfl 56 rfl
         have e57 : look 80 ρ 57 = (Sl a68 r65 c69) := hdep 3 rfl rfl 57 rfl
         obtain ⟨H, m⟩ := id hJ
         refine dp_cx wn (cx_call (hc85 a81 c82) (ent_f (hc85 a81 c82).fn (by show [look 80 ρ 56, look 80 ρ 57] = _; rw [e56, e57])) hn0 (show Hp S0 σ0 _ ([Ch.ro 0 (Sl a81 r78 c82) r78, Ch.ro 0 (Sl a68 r65 c69) r65] ++ [Ch.ro 0 (Sl a81 r78 c82) r78, Ch.ro 0 (Sl a20 r14.1.2 c21) r14.1.2, Ch.ro 0 (Sl a17 r14.1.1 c18) r14.1.1, Ch.ro 0 (Sl a68 r65 c69) r65, Ch.ro n0 (Sl a20 r14.1.2 c21) r14.1.2, Ch.ro n0 (Sl a17 r14.1.1 c18) r14.1.1, Ch.ro n0 (Sl a5 r2.1.1 c6) r2.1.1, Ch.ro n0 (Sl a7 r2.1.2 c8) r2.1.2, Ch.bx n0 b10 0 [(Sl a5 r2.1.1 c6), (Sl a7 r2.1.2 c8)] [] [], Ch.bx n0 b23 0 [(Sl a17 r14.1.1 c18), (Sl a20 r14.1.2 c21)] [] []]) from (H.sel' [0, 3, 0, 1, 2, 3, 4, 5, 6, 7, 8, 9] rfl rfl))) ?_
         rintro _ σq ⟨_, ⟨rfl, rfl⟩, H2, m2⟩
         exact ⟨_, (a81, c82), rfl, rfl, ⟨H2.sel' [0, 1, 2, 3, 4, 5, 6, 7, 8, 9] rfl rfl, m.comp0 (m2.mono (fun i h => by simp [cov, Ch.ro] at h))⟩, stab [0, 1, 2, 3] (by kernel_rfl) ⟨rfl, rfl, rfl, rfl, trivial⟩⟩
        trivial) ?_
      refine ac rfl (by
        intro k; rintro ⟨a81, c82⟩ ρ σm hJ hoff hdep
        have e58 := hdep 4 rfl rfl 58 rfl
        exact dp_v (v := (B r83)) wn (rv_move e58) rfl hJ) ?_
      refine ac rfl (by
        intro k; rintro ⟨a81, c82⟩ ρ σm hJ hoff hdep
        have e59 := hdep 5 rfl rfl 59 rfl
        exact dp_skip (wanted_no rfl (yv_of rfl (e59.trans (congrArg B hb86)))) rfl hJ) ?_
      refine ac rfl (by
        intro k; rintro ⟨a81, c82⟩ ρ σm hJ hoff hdep
        have e59 := hdep 5 rfl rfl 59 rfl
        exact dp_skip (wanted_no rfl (yv_of rfl (e59.trans (congrArg B hb86)))) rfl hJ) ?_
      refine ac rfl (by
        intro k; rintro ⟨a81, c82⟩ ρ σm hJ hoff hdep
        have e59 := hdep 5 rfl rfl 59 rfl
        exact dp_skip (wanted_no rfl (yv_of rfl (e59.trans (congrArg B hb86)))) rfl hJ) ?_
      refine ac rfl (by
        intro k; rintro ⟨a81, c82⟩ ρ σm hJ hoff hdep
        have e59 := hdep 5 rfl rfl 59 rfl
        exact dp_skip (wanted_no rfl (yv_of rfl (e59.trans (congrArg B hb86)))) rfl hJ) ?_
      refine ac rfl (by
        intro k; rintro ⟨a81, c82⟩ ρ σm hJ hoff hdep
        have e59 := hdep 5 rfl rfl 59 rfl
        exact dp_v (v := (B false)) wn (rv_pick_f (e59.trans (congrArg B hb86)) rfl) rfl hJ) ?_
      refine ac rfl (by
        intro k; rintro ⟨a81, c82⟩ ρ σm hJ hoff hdep
        have e64 := hdep 10 rfl rfl 64 rfl
        exact dp_v (v := (B false)) wn (rv_move e64) rfl hJ) ?_
      refine ac rfl (by
        intro k; rintro ⟨a81, c82⟩ ρ σm hJ hoff hdep
        have e65 := hdep 11 rfl rfl 65 rfl
        exact dp_skip (wanted_no rfl (yv_of rfl e65)) rfl hJ) ?_
      refine ac rfl (by
        intro k; rintro ⟨a81, c82⟩ ρ σm hJ hoff hdep
        have e65 := hdep 11 rfl rfl 65 rfl
        exact dp_skip (wanted_no rfl (yv_of rfl e65)) rfl hJ) ?_
      refine ac rfl (by
        intro k; rintro ⟨a81, c82⟩ ρ σm hJ hoff hdep
        have e65 := hdep 11 rfl rfl 65 rfl
        exact dp_skip (wanted_no rfl (yv_of rfl e65)) rfl hJ) ?_
      refine ac rfl (by
        intro k; rintro ⟨a81, c82⟩ ρ σm hJ hoff hdep
        have e65 := hdep 11 rfl rfl 65 rfl
        exact dp_skip (wanted_no rfl (yv_of rfl e65)) rfl hJ) ?_
      refine ac rfl (by
        intro k; rintro ⟨a81, c82⟩ ρ σm hJ hoff hdep
        have e65 := hdep 11 rfl rfl 65 rfl
        exact dp_skip (wanted_no rfl (yv_of rfl e65)) rfl hJ) ?_
      refine ac rfl (by
        intro k; rintro ⟨a81, c82⟩ ρ σm hJ hoff hdep
        have e65 := hdep 11 rfl rfl 65 rfl
        exact dp_skip (wanted_no rfl (yv_of rfl e65)) rfl hJ) ?_
      refine ac rfl (by
        intro k; rintro ⟨a81, c82⟩ ρ σm hJ hoff hdep
        have e65 := hdep 11 rfl rfl 65 rfl
        exact dp_skip (wanted_no rfl (yv_of rfl e65)) rfl hJ) ?_
      exact all_nil
     ·rintro ⟨a81, c82⟩ ρ σ126 hJ hoff hrel
      have e5 := look_off (N := 80) (hoff 5 rfl) rfl
      have e65 := hrel 11 rfl 65 rfl
      have e69 := hrel 15 rfl 69 rfl
      have e70 := hrel 16 rfl 70 rfl
      have e72 := hrel 18 rfl 72 rfl
      obtain ⟨H, -⟩ := (show Hp S0 σ0 σ126 [Ch.ro 0 (Sl a81 r78 c82) r78, Ch.ro 0 (Sl a20 r14.1.2 c21) r14.1.2, Ch.ro 0 (Sl a17 r14.1.1 c18) r14.1.1, Ch.ro 0 (Sl a68 r65 c69) r65, Ch.ro n0 (Sl a20 r14.1.2 c21) r14.1.2, Ch.ro n0 (Sl a17 r14.1.1 c18) r14.1.1, Ch.ro n0 (Sl a5 r2.1.1 c6) r2.1.1, Ch.ro n0 (Sl a7 r2.1.2 c8) r2.1.2, Ch.bx n0 b10 0 [(Sl a5 r2.1.1 c6), (Sl a7 r2.1.2 c8)] [] [], Ch.bx n0 b23 0 [(Sl a17 r14.1.1 c18), (Sl a20 r14.1.2 c21)] [] []] ∧ Md (fun i => (cov []) i ∨ (fun i => (cov [Ch.ro 0 (Sl a17 r14.1.1 c18) r14.1.1, Ch.ro 0 (Sl a20 r14.1.2 c21) r14.1.2]) i ∨ (fun b => blk (Sl a81 r78 c82) = some b) i) i) σ75 σ126 from hJ)
      clear hJ Hs
      rw [fr_lookL (L := [(5, (pt b23 0)), (65, (B false)), (69, undef), (70, undef), (72, undef)]) ⟨e5, e65, e69, e70, e72, trivial⟩]
      clear hoff hrel e5 e65 e69 e70 e72
      refine st_skip rfl ?_
      refine st_skip rfl ?_
      refine st (v := (B false)) (rv_pick_f rfl rfl) ?_
      refine st (v := (B false)) (rv_move rfl) ?_
      refine st_skip rfl ?_
      refine st_skip rfl ?_
      refine st (v := (B false)) (rv_pick_f rfl rfl) ?_
      refine st (v := (B false)) (rv_assign rfl) ?_
      refine w_end ?_
      refine q_then ?_
      refine c_ret ?_
      obtain rfl := Option.some.inj h
      exact fin_ret (v := (B false)) (results_ok Try.results8 (res_tmp (v := (B false)) rfl res_nil) rfl) ⟨rfl, rfl⟩ (H.sel' [] rfl rfl)

end Go.Vs
