/- The functions compute what their models say. -/
import Derived.Test.YtfcemgcmpcmgcaaKRollBackTwiceC5
set_option linter.unusedVariables false
set_option linter.unusedSimpArgs false
set_option maxRecDepth 20000
namespace Go.Vs
open Go Go.Proofs
attribute [local irreducible] Code.wp Code.wpIn wpList wpListIn wpQuiet Calls CallsIn

theorem c_laws_FnRollBackTwice {code_0 : List UInt8} {acode_0 : Option Addr} {ccode_0 : Nat} {r : Bool} (h : M.laws_FnRollBackTwice code_0 = some r) :
    Cal2 Try.prog 9 [(Sl acode_0 code_0 ccode_0)] [Ch.ro 0 (Sl acode_0 code_0 ccode_0) code_0] (fun n0 v L => v = (B r) ∧ L = []) := by
 refine cal2 (n := 79) Try.func9 rfl rfl rfl rfl ?_
 intro S0 σ0 n0 hn0 H
 unfold M.laws_FnRollBackTwice at h
 refine c_seq ?_
 refine rg ?_
 refine st (v := (B false)) (rv_assign rfl) ?_
 refine w_end ?_
 refine q_then ?_
 refine c_seq ?_
 refine c_seq ?_
 refine rg ?_
 refine st (v := (Sl acode_0 code_0 ccode_0)) (rv_move rfl) ?_
 refine st (v := (I (code_0.length : Int))) (rv_len Try.underlying22 rfl) ?_
 refine st (v := (B (decide (1048576 < (code_0.length : Int))))) (rv_gtr (a := (code_0.length : Int)) (b := 1048576) rfl rfl) ?_
 refine w_end ?_
 refine q_then ?_
 refine cd_cond (decide (1048576 < (code_0.length : Int))) rfl (fun hb1 => ?_) (fun hb1 => ?_)
 ·replace h := bif_t hb1 h
  refine c_seq ?_
  refine rg ?_
  refine st (v := (B true)) (rv_assign rfl) ?_
  refine w_end ?_
  refine q_then ?_
  refine c_ret ?_
  refine q_then_r ?_
  obtain rfl := Option.some.inj h
  exact fin_ret (v := (B true)) (results_ok Try.results9 (res_tmp (v := (B true)) rfl res_nil) rfl) ⟨rfl, rfl⟩ (H.sel' [] rfl rfl)
 ·replace h := bif_f hb1 h
  refine c_skip ?_
  refine q_then ?_
  refine c_seq ?_
  refine rg ?_
  refine st (v := (Sl acode_0 code_0 ccode_0)) (rv_move rfl) ?_
  obtain ⟨r2, hx3, h'⟩ := bind_some h
  clear h
  have h := h'; clear h'
  have hc4 := c_spec_DrawRollBack (acode_0 := acode_0) (ccode_0 := ccode_0) hx3
  refine st_call (cx_call hc4 (ent_f hc4.fn rfl) hn0 (show Hp S0 σ0 _ ([Ch.ro 0 (Sl acode_0 code_0 ccode_0) code_0] ++ [Ch.ro 0 (Sl acode_0 code_0 ccode_0) code_0]) from (H.sel' [0, 0] rfl rfl))) wn ?_
  rintro _ σ9 ⟨_, ⟨a5, c6, a7, c8, rfl, rfl⟩, H, -⟩
  replace H : Hp S0 σ0 σ9 [Ch.ro n0 (Sl a5 r2.1.1 c6) r2.1.1, Ch.ro n0 (Sl a7 r2.1.2 c8) r2.1.2, Ch.ro 0 (Sl acode_0 code_0 ccode_0) code_0] := H
  refine st (v := (.tuple #[(.agg #[(Sl a5 r2.1.1 c6), (Sl a7 r2.1.2 c8)]), (I r2.2)])) (rv_move rfl) ?_
  refine st (v := (.agg #[(Sl a5 r2.1.1 c6), (Sl a7 r2.1.2 c8)])) (rv_extract rfl rfl) ?_
  refine st (v := (I r2.2)) (rv_extract rfl rfl) ?_
  refine st_ex (ex_alloc (cs := [(.slice none 0 0), (.slice none 0 0)]) H hn0 ti26 rfl) wn ?_
  rintro _ σ11 ⟨b10, rfl, H, -⟩
  refine st_exS (ex_store_box (k := 0) (cs := [(.slice none 0 0), (.slice none 0 0)]) (vs := [(Sl a5 r2.1.1 c6), (Sl a7 r2.1.2 c8)]) (cs' := [(Sl a5 r2.1.1 c6), (Sl a7 r2.1.2 c8)]) H (i := 0) rfl ti26 rfl rfl rfl rfl rfl (Nat.le_of_ble_eq_true rfl) (by simp [plain]) rfl) wn ?_
  rintro σ12 ⟨H, -⟩
  refine st (v := (I r2.2)) (rv_assign rfl) ?_
  refine w_end ?_
  refine q_then ?_
  refine c_seq ?_
  refine rg ?_
  have hc13 := H.cells 0 rfl
  refine st (v := (.agg #[(Sl a5 r2.1.1 c6), (Sl a7 r2.1.2 c8)])) (rv_load (cs := [(Sl a5 r2.1.1 c6), (Sl a7 r2.1.2 c8)]) Try.underlying26 rfl ti26 rfl rfl hc13) ?_
  refine st (v := (I r2.2)) (rv_move rfl) ?_
  replace H := H.roLow 1 0 rfl (Nat.zero_le _)
  replace H := H.roLow 3 0 rfl (Nat.zero_le _)
  obtain ⟨r14, hx15, h'⟩ := bind_some h
  clear h
  have h := h'; clear h'
  have hc16 := c_impl_RollBack (ah_0_0 := a5) (ch_0_0 := c6) (ah_0_1 := a7) (ch_0_1 := c8) hx15
  refine st_call (cx_call hc16 (ent_f hc16.fn rfl) hn0 (show Hp S0 σ0 _ ([Ch.ro 0 (Sl a5 r2.1.1 c6) r2.1.1, Ch.ro 0 (Sl a7 r2.1.2 c8) r2.1.2] ++ [Ch.ro 0 (Sl a7 r2.1.2 c8) r2.1.2, Ch.ro 0 (Sl a5 r2.1.1 c6) r2.1.1, Ch.bx n0 b10 0 [(Sl a5 r2.1.1 c6), (Sl a7 r2.1.2 c8)] [] [], Ch.ro n0 (Sl a5 r2.1.1 c6) r2.1.1, Ch.ro n0 (Sl a7 r2.1.2 c8) r2.1.2, Ch.ro 0 (Sl acode_0 code_0 ccode_0) code_0]) from (H.sel' [1, 0, 0, 1, 2, 3, 4, 5] rfl rfl))) wn ?_
  rintro _ σ22 ⟨_, ⟨a17, c18, a20, c21, rfl, rfl, ht19⟩, H, -⟩
  replace H : Hp S0 σ0 σ22 [Ch.own n0 n0 (Sl a17 r14.1.1 c18) r14.1.1, Ch.own n0 n0 (Sl a20 r14.1.2 c21) r14.1.2, Ch.ro 0 (Sl a7 r2.1.2 c8) r2.1.2, Ch.ro 0 (Sl a5 r2.1.1 c6) r2.1.1, Ch.bx n0 b10 0 [(Sl a5 r2.1.1 c6), (Sl a7 r2.1.2 c8)] [] [], Ch.ro n0 (Sl a5 r2.1.1 c6) r2.1.1, Ch.ro n0 (Sl a7 r2.1.2 c8) r2.1.2, Ch.ro 0 (Sl acode_0 code_0 ccode_0) code_0] := H
  replace H : Hp S0 σ0 σ22 [Ch.own n0 n0 (Sl a17 r14.1.1 c18) r14.1.1, Ch.own n0 n0 (Sl a20 r14.1.2 c21) r14.1.2, Ch.bx n0 b10 0 [(Sl a5 r2.1.1 c6), (Sl a7 r2.1.2 c8)] [] [], Ch.ro n0 (Sl a5 r2.1.1 c6) r2.1.1, Ch.ro n0 (Sl a7 r2.1.2 c8) r2.1.2] := H.sel' [0, 1, 4, 5, 6] rfl rfl
  refine st (v := (.tuple #[(.agg #[(Sl a17 r14.1.1 c18), (Sl a20 r14.1.2 c21)]), (B r14.2)])) (rv_move rfl) ?_
  refine st (v := (.agg #[(Sl a17 r14.1.1 c18), (Sl a20 r14.1.2 c21)])) (rv_extract rfl rfl) ?_
  refine st (v := (B r14.2)) (rv_extract rfl rfl) ?_
  refine st_ex (ex_alloc (cs := [(.slice none 0 0), (.slice none 0 0)]) H hn0 ti26 rfl) wn ?_
  rintro _ σ24 ⟨b23, rfl, H, -⟩
  refine st_exS (ex_store_box (k := 0) (cs := [(.slice none 0 0), (.slice none 0 0)]) (vs := [(Sl a17 r14.1.1 c18), (Sl a20 r14.1.2 c21)]) (cs' := [(Sl a17 r14.1.1 c18), (Sl a20 r14.1.2 c21)]) H (i := 0) rfl ti26 rfl rfl rfl rfl rfl (Nat.le_of_ble_eq_true rfl) (by simp [plain]) rfl) wn ?_
  rintro σ25 ⟨H, -⟩
  refine st (v := (B r14.2)) (rv_assign rfl) ?_
  refine w_end ?_
  refine q_then ?_
  refine c_seq ?_
  refine rg ?_
  have hc26 := H.cells 3 rfl
  refine st (v := (.agg #[(Sl a5 r2.1.1 c6), (Sl a7 r2.1.2 c8)])) (rv_load (cs := [(Sl a5 r2.1.1 c6), (Sl a7 r2.1.2 c8)]) Try.underlying26 rfl ti26 rfl rfl hc26) ?_
  refine st (v := (I r2.2)) (rv_move rfl) ?_
  replace H := H.roLow 4 0 rfl (Nat.zero_le _)
  replace H := H.roLow 6 0 rfl (Nat.zero_le _)
  obtain ⟨r27, hx28, h'⟩ := bind_some h
  clear h
  have h := h'; clear h'
  have hc29 := c_spec_RollBack (ah_0_0 := a5) (ch_0_0 := c6) (ah_0_1 := a7) (ch_0_1 := c8) hx28
  refine st_call (cx_call hc29 (ent_f hc29.fn rfl) hn0 (show Hp S0 σ0 _ ([Ch.ro 0 (Sl a5 r2.1.1 c6) r2.1.1, Ch.ro 0 (Sl a7 r2.1.2 c8) r2.1.2] ++ [Ch.ro 0 (Sl a7 r2.1.2 c8) r2.1.2, Ch.ro 0 (Sl a5 r2.1.1 c6) r2.1.1, Ch.bx n0 b23 0 [(Sl a17 r14.1.1 c18), (Sl a20 r14.1.2 c21)] [] [], Ch.own n0 n0 (Sl a17 r14.1.1 c18) r14.1.1, Ch.own n0 n0 (Sl a20 r14.1.2 c21) r14.1.2, Ch.bx n0 b10 0 [(Sl a5 r2.1.1 c6), (Sl a7 r2.1.2 c8)] [] [], Ch.ro n0 (Sl a5 r2.1.1 c6) r2.1.1, Ch.ro n0 (Sl a7 r2.1.2 c8) r2.1.2]) from (H.sel' [1, 0, 0, 1, 2, 3, 4, 5, 6, 7] rfl rfl))) wn ?_
  rintro _ σ34 ⟨_, ⟨a30, c31, a32, c33, rfl, rfl⟩, H, -⟩
  replace H : Hp S0 σ0 σ34 [Ch.own n0 n0 (Sl a30 r27.1.1 c31) r27.1.1, Ch.own n0 n0 (Sl a32 r27.1.2 c33) r27.1.2, Ch.ro 0 (Sl a7 r2.1.2 c8) r2.1.2, Ch.ro 0 (Sl a5 r2.1.1 c6) r2.1.1, Ch.bx n0 b23 0 [(Sl a17 r14.1.1 c18), (Sl a20 r14.1.2 c21)] [] [], Ch.own n0 n0 (Sl a17 r14.1.1 c18) r14.1.1, Ch.own n0 n0 (Sl a20 r14.1.2 c21) r14.1.2, Ch.bx n0 b10 0 [(Sl a5 r2.1.1 c6), (Sl a7 r2.1.2 c8)] [] [], Ch.ro n0 (Sl a5 r2.1.1 c6) r2.1.1, Ch.ro n0 (Sl a7 r2.1.2 c8) r2.1.2] := H
  replace H : Hp S0 σ0 σ34 [Ch.own n0 n0 (Sl a30 r27.1.1 c31) r27.1.1, Ch.own n0 n0 (Sl a32 r27.1.2 c33) r27.1.2, Ch.bx n0 b23 0 [(Sl a17 r14.1.1 c18), (Sl a20 r14.1.2 c21)] [] [], Ch.own n0 n0 (Sl a17 r14.1.1 c18) r14.1.1, Ch.own n0 n0 (Sl a20 r14.1.2 c21) r14.1.2, Ch.bx n0 b10 0 [(Sl a5 r2.1.1 c6), (Sl a7 r2.1.2 c8)] [] [], Ch.ro n0 (Sl a5 r2.1.1 c6) r2.1.1, Ch.ro n0 (Sl a7 r2.1.2 c8) r2.1.2] := H.sel' [0, 1, 4, 5, 6, 7, 8, 9] rfl rfl
  refine st (v := (.tuple #[(.agg #[(Sl a30 r27.1.1 c31), (Sl a32 r27.1.2 c33)]), (B r27.2)])) (rv_move rfl) ?_
  refine st (v := (.agg #[(Sl a30 r27.1.1 c31), (Sl a32 r27.1.2 c33)])) (rv_extract rfl rfl) ?_
  refine st (v := (B r27.2)) (rv_extract rfl rfl) ?_
  refine st_ex (ex_alloc (cs := [(.slice none 0 0), (.slice none 0 0)]) H hn0 ti26 rfl) wn ?_
  rintro _ σ36 ⟨b35, rfl, H, -⟩
  refine st_exS (ex_store_box (k := 0) (cs := [(.slice none 0 0), (.slice none 0 0)]) (vs := [(Sl a30 r27.1.1 c31), (Sl a32 r27.1.2 c33)]) (cs' := [(Sl a30 r27.1.1 c31), (Sl a32 r27.1.2 c33)]) H (i := 0) rfl ti26 rfl rfl rfl rfl rfl (Nat.le_of_ble_eq_true rfl) (by simp [plain]) rfl) wn ?_
  rintro σ37 ⟨H, -⟩
  refine st (v := (B r27.2)) (rv_assign rfl) ?_
  refine w_end ?_
  refine q_then ?_
  refine c_seq ?_
  refine c_seq ?_
  obtain ⟨o38, hj, h'⟩ := bind_some h
  clear h
  refine c_cut (fun e a w => e = .normal ∧ ∃ (ρ : Nat → Value) (σ : St), a = fr 79 (updL ρ [(3, (pt b10 0)), (4, (I r2.2)), (5, (pt b23 0)), (6, (B r14.2)), (7, (pt b35 0)), (8, (B r27.2)), (45, (B o38))]) ∧ w = σ.w ∧ Hp S0 σ0 σ [Ch.ro n0 (Sl a5 r2.1.1 c6) r2.1.1, Ch.ro n0 (Sl a7 r2.1.2 c8) r2.1.2, Ch.bx n0 b10 0 [(Sl a5 r2.1.1 c6), (Sl a7 r2.1.2 c8)] [] [], Ch.own n0 n0 (Sl a17 r14.1.1 c18) r14.1.1, Ch.own n0 n0 (Sl a20 r14.1.2 c21) r14.1.2, Ch.bx n0 b23 0 [(Sl a17 r14.1.1 c18), (Sl a20 r14.1.2 c21)] [] [], Ch.own n0 n0 (Sl a30 r27.1.1 c31) r27.1.1, Ch.own n0 n0 (Sl a32 r27.1.2 c33) r27.1.2, Ch.bx n0 b35 0 [(Sl a30 r27.1.1 c31), (Sl a32 r27.1.2 c33)] [] []]) ?_ ?_
  ·clear h'
   rename _ = some o38 => h
   refine rg ?_
   have hc39 := H.cells 3 rfl
   refine st (v := (.agg #[(Sl a17 r14.1.1 c18), (Sl a20 r14.1.2 c21)])) (rv_load (cs := [(Sl a17 r14.1.1 c18), (Sl a20 r14.1.2 c21)]) Try.underlying26 rfl ti26 rfl rfl hc39) ?_
   have hc40 := H.cells 0 rfl
   refine st (v := (.agg #[(Sl a30 r27.1.1 c31), (Sl a32 r27.1.2 c33)])) (rv_load (cs := [(Sl a30 r27.1.1 c31), (Sl a32 r27.1.2 c33)]) Try.underlying26 rfl ti26 rfl rfl hc40) ?_
   obtain ⟨r41, hx42, h'⟩ := bind_some h
   clear h
   have h := h'; clear h'
   have hc43 := c_laws_equalHistory (aa_0_0 := a17) (ca_0_0 := c18) (aa_0_1 := a20) (ca_0_1 := c21) (ab_1_0 := a30) (cb_1_0 := c31) (ab_1_1 := a32) (cb_1_1 := c33) hx42
   have hle := Nat.le_trans hn0 H.size
   refine st_call (cx_lend (Loan.lend (Loan.lend (Loan.lend (Loan.lend Loan.nil)))) hc43 (ent_f hc43.fn rfl) (show Hp S0 σ0 _ ([Ch.own n0 n0 (Sl a17 r14.1.1 c18) r14.1.1, Ch.own n0 n0 (Sl a20 r14.1.2 c21) r14.1.2, Ch.own n0 n0 (Sl a30 r27.1.1 c31) r27.1.1, Ch.own n0 n0 (Sl a32 r27.1.2 c33) r27.1.2] ++ ([] ++ [Ch.bx n0 b35 0 [(Sl a30 r27.1.1 c31), (Sl a32 r27.1.2 c33)] [] [], Ch.bx n0 b23 0 [(Sl a17 r14.1.1 c18), (Sl a20 r14.1.2 c21)] [] [], Ch.bx n0 b10 0 [(Sl a5 r2.1.1 c6), (Sl a7 r2.1.2 c8)] [] [], Ch.ro n0 (Sl a5 r2.1.1 c6) r2.1.1, Ch.ro n0 (Sl a7 r2.1.2 c8) r2.1.2])) from (H.sel' [4, 5, 1, 2, 0, 3, 6, 7, 8] rfl rfl)) (by rintro _ _ _ ⟨rfl, rfl⟩; exact trivial)) wn ?_
   rintro _ σ44 ⟨_, ⟨rfl, rfl⟩, H, -, -⟩
   replace H : Hp S0 σ0 σ44 [Ch.own n0 n0 (Sl a17 r14.1.1 c18) r14.1.1, Ch.own n0 n0 (Sl a20 r14.1.2 c21) r14.1.2, Ch.own n0 n0 (Sl a30 r27.1.1 c31) r27.1.1, Ch.own n0 n0 (Sl a32 r27.1.2 c33) r27.1.2, Ch.bx n0 b35 0 [(Sl a30 r27.1.1 c31), (Sl a32 r27.1.2 c33)] [] [], Ch.bx n0 b23 0 [(Sl a17 r14.1.1 c18), (Sl a20 r14.1.2 c21)] [] [], Ch.bx n0 b10 0 [(Sl a5 r2.1.1 c6), (Sl a7 r2.1.2 c8)] [] [], Ch.ro n0 (Sl a5 r2.1.1 c6) r2.1.1, Ch.ro n0 (Sl a7 r2.1.2 c8) r2.1.2] := H
   clear hle
   replace H : Hp S0 σ0 σ44 [Ch.own n0 n0 (Sl a17 r14.1.1 c18) r14.1.1, Ch.own n0 n0 (Sl a20 r14.1.2 c21) r14.1.2, Ch.own n0 n0 (Sl a30 r27.1.1 c31) r27.1.1, Ch.own n0 n0 (Sl a32 r27.1.2 c33) r27.1.2, Ch.bx n0 b35 0 [(Sl a30 r27.1.1 c31), (Sl a32 r27.1.2 c33)] [] [], Ch.bx n0 b23 0 [(Sl a17 r14.1.1 c18), (Sl a20 r14.1.2 c21)] [] [], Ch.bx n0 b10 0 [(Sl a5 r2.1.1 c6), (Sl a7 r2.1.2 c8)] [] [], Ch.ro n0 (Sl a5 r2.1.1 c6) r2.1.1, Ch.ro n0 (Sl a7 r2.1.2 c8) r2.1.2] := H
   refine st (v := (B (!r41))) (rv_not rfl) ?_
   refine st (v := (B (!r41))) (rv_move rfl) ?_
   rcases Bool.eq_false_or_eq_true (!r41) with hb45 | hb45
   ·replace h := bif_t hb45 h
    refine st_skip (congrArg some hb45) ?_
    refine st_skip (congrArg some hb45) ?_
    refine st_skip (congrArg some hb45) ?_
    refine st (v := (B true)) (rv_pick_t (congrArg B hb45) rfl) ?_
    refine st (v := (B true)) (rv_move rfl) ?_
    refine st_skip rfl ?_
    refine st_skip rfl ?_
    refine st (v := (B true)) (rv_pick_t rfl rfl) ?_
    refine w_end ?_
    obtain rfl := Option.some.inj h
    exact ⟨rfl, _, σ44, fr_join ⟨rfl, rfl, rfl, rfl, rfl, rfl, rfl, trivial⟩, rfl, H.sel' [7, 8, 6, 0, 1, 5, 2, 3, 4] rfl rfl⟩
   ·replace h := bif_f hb45 h
    refine st_g (v := (B r14.2)) (congrArg some hb45) (rv_move rfl) ?_
    refine st_g (v := (B r27.2)) (congrArg some hb45) (rv_move rfl) ?_
    refine st_g (v := (B (r14.2 != r27.2))) (congrArg some hb45) (rv_bneq Try.underlying4 rfl rfl) ?_
    refine st (v := (B (r14.2 != r27.2))) (rv_pick_f (congrArg B hb45) rfl) ?_
    refine st (v := (B (r14.2 != r27.2))) (rv_move rfl) ?_
    rcases Bool.eq_false_or_eq_true (r14.2 != r27.2) with hb46 | hb46
    ·replace h := bif_t hb46 h
     refine st_skip (congrArg some hb46) ?_
     refine st_skip (congrArg some hb46) ?_
     refine st (v := (B true)) (rv_pick_t (congrArg B hb46) rfl) ?_
     refine w_end ?_
     obtain rfl := Option.some.inj h
     exact ⟨rfl, _, σ44, fr_join ⟨rfl, rfl, rfl, rfl, rfl, rfl, rfl, trivial⟩, rfl, H.sel' [7, 8, 6, 0, 1, 5, 2, 3, 4] rfl rfl⟩
    ·replace h := bif_f hb46 h
     refine st_g (v := (B r14.2)) (congrArg some hb46) (rv_move rfl) ?_
     refine st_g (v := (B (!r14.2))) (congrArg some hb46) (rv_not rfl) ?_
     refine st (v := (B (!r14.2))) (rv_pick_f (congrArg B hb46) rfl) ?_
     refine w_end ?_
     obtain rfl := Option.some.inj h
     exact ⟨rfl, _, σ44, fr_join ⟨rfl, rfl, rfl, rfl, rfl, rfl, rfl, trivial⟩, rfl, H.sel' [7, 8, 6, 0, 1, 5, 2, 3, 4] rfl rfl⟩
  ·clear hj
   have h := h'
   clear h' H
   rintro e a w ⟨rfl, ρ, σ47, rfl, rfl, H⟩
   refine q_then ?_
   refine cd_cond o38 rfl (fun hb48 => ?_) (fun hb48 => ?_)
   ·replace h := bif_t hb48 h
    refine c_seq ?_
    refine rg ?_
    have hc49 := H.cells 5 rfl
    refine st (v := (.agg #[(Sl a17 r14.1.1 c18), (Sl a20 r14.1.2 c21)])) (rv_load (cs := [(Sl a17 r14.1.1 c18), (Sl a20 r14.1.2 c21)]) Try.underlying26 rfl ti26 rfl rfl hc49) ?_
    have hc50 := H.cells 8 rfl
    refine st (v := (.agg #[(Sl a30 r27.1.1 c31), (Sl a32 r27.1.2 c33)])) (rv_load (cs := [(Sl a30 r27.1.1 c31), (Sl a32 r27.1.2 c33)]) Try.underlying26 rfl ti26 rfl rfl hc50) ?_
    obtain ⟨σ51, hw52, H, -⟩ := H.pub 3 rfl (Nat.le_refl _)
    rw [← hw52]; clear hw52
    obtain ⟨σ53, hw54, H, -⟩ := H.pub 4 rfl (Nat.le_refl _)
    rw [← hw54]; clear hw54
    obtain ⟨σ55, hw56, H, -⟩ := H.pub 6 rfl (Nat.le_refl _)
    rw [← hw56]; clear hw56
    obtain ⟨σ57, hw58, H, -⟩ := H.pub 7 rfl (Nat.le_refl _)
    rw [← hw58]; clear hw58
    replace H := H.roLow 3 0 rfl (Nat.zero_le _)
    replace H := H.roLow 3 0 rfl (Nat.zero_le _)
    replace H := H.roLow 3 0 rfl (Nat.zero_le _)
    replace H := H.roLow 3 0 rfl (Nat.zero_le _)
    obtain ⟨r59, hx60, h'⟩ := bind_some h
    clear h
    have h := h'; clear h'
    have hc61 := c_laws_equalHistory (aa_0_0 := a17) (ca_0_0 := c18) (aa_0_1 := a20) (ca_0_1 := c21) (ab_1_0 := a30) (cb_1_0 := c31) (ab_1_1 := a32) (cb_1_1 := c33) hx60
    refine st_call (cx_call hc61 (ent_f hc61.fn rfl) hn0 (show Hp S0 σ0 _ ([Ch.ro 0 (Sl a17 r14.1.1 c18) r14.1.1, Ch.ro 0 (Sl a20 r14.1.2 c21) r14.1.2, Ch.ro 0 (Sl a30 r27.1.1 c31) r27.1.1, Ch.ro 0 (Sl a32 r27.1.2 c33) r27.1.2] ++ [Ch.ro 0 (Sl a32 r27.1.2 c33) r27.1.2, Ch.ro 0 (Sl a30 r27.1.1 c31) r27.1.1, Ch.ro 0 (Sl a20 r14.1.2 c21) r14.1.2, Ch.ro 0 (Sl a17 r14.1.1 c18) r14.1.1, Ch.ro n0 (Sl a32 r27.1.2 c33) r27.1.2, Ch.ro n0 (Sl a30 r27.1.1 c31) r27.1.1, Ch.ro n0 (Sl a20 r14.1.2 c21) r14.1.2, Ch.ro n0 (Sl a17 r14.1.1 c18) r14.1.1, Ch.ro n0 (Sl a5 r2.1.1 c6) r2.1.1, Ch.ro n0 (Sl a7 r2.1.2 c8) r2.1.2, Ch.bx n0 b10 0 [(Sl a5 r2.1.1 c6), (Sl a7 r2.1.2 c8)] [] [], Ch.bx n0 b23 0 [(Sl a17 r14.1.1 c18), (Sl a20 r14.1.2 c21)] [] [], Ch.bx n0 b35 0 [(Sl a30 r27.1.1 c31), (Sl a32 r27.1.2 c33)] [] []]) from (H.sel' [3, 2, 1, 0, 0, 1, 2, 3, 4, 5, 6, 7, 8, 9, 10, 11, 12] rfl rfl))) wn ?_
    rintro _ σ62 ⟨_, ⟨rfl, rfl⟩, H, -⟩
    replace H : Hp S0 σ0 σ62 [Ch.ro 0 (Sl a32 r27.1.2 c33) r27.1.2, Ch.ro 0 (Sl a30 r27.1.1 c31) r27.1.1, Ch.ro 0 (Sl a20 r14.1.2 c21) r14.1.2, Ch.ro 0 (Sl a17 r14.1.1 c18) r14.1.1, Ch.ro n0 (Sl a32 r27.1.2 c33) r27.1.2, Ch.ro n0 (Sl a30 r27.1.1 c31) r27.1.1, Ch.ro n0 (Sl a20 r14.1.2 c21) r14.1.2, Ch.ro n0 (Sl a17 r14.1.1 c18) r14.1.1, Ch.ro n0 (Sl a5 r2.1.1 c6) r2.1.1, Ch.ro n0 (Sl a7 r2.1.2 c8) r2.1.2, Ch.bx n0 b10 0 [(Sl a5 r2.1.1 c6), (Sl a7 r2.1.2 c8)] [] [], Ch.bx n0 b23 0 [(Sl a17 r14.1.1 c18), (Sl a20 r14.1.2 c21)] [] [], Ch.bx n0 b35 0 [(Sl a30 r27.1.1 c31), (Sl a32 r27.1.2 c33)] [] []] := H
    replace H : Hp S0 σ0 σ62 [] := H.sel' [] rfl rfl
    refine st (v := (B r59)) (rv_move rfl) ?_
    rcases Bool.eq_false_or_eq_true r59 with hb63 | hb63
    ·replace h := bif_t hb63 h
     refine st_g (v := (B r14.2)) (congrArg some hb63) (rv_move rfl) ?_
     refine st_g (v := (B r27.2)) (congrArg some hb63) (rv_move rfl) ?_
     refine st_g (v := (B (r14.2 == r27.2))) (congrArg some hb63) (rv_beql Try.underlying4 rfl rfl) ?_
     refine st (v := (B (r14.2 == r27.2))) (rv_pick_t (congrArg B hb63) rfl) ?_
     refine st (v := (B (r14.2 == r27.2))) (rv_assign rfl) ?_
     refine w_end ?_
     refine q_then ?_
     refine c_ret ?_
     refine q_then_r ?_
     obtain rfl := Option.some.inj h
     exact fin_ret (v := (B (r14.2 == r27.2))) (results_ok Try.results9 (res_tmp (v := (B (r14.2 == r27.2))) rfl res_nil) rfl) ⟨rfl, rfl⟩ (H.sel' [] rfl rfl)
    ·replace h := bif_f hb63 h
     refine st_skip (congrArg some hb63) ?_
     refine st_skip (congrArg some hb63) ?_
     refine st_skip (congrArg some hb63) ?_
     refine st (v := (B false)) (rv_pick_f (congrArg B hb63) rfl) ?_
     refine st (v := (B false)) (rv_assign rfl) ?_
     refine w_end ?_
     refine q_then ?_
     refine c_ret ?_
     refine q_then_r ?_
     obtain rfl := Option.some.inj h
     exact fin_ret (v := (B false)) (results_ok Try.results9 (res_tmp (v := (B false)) rfl res_nil) rfl) ⟨rfl, rfl⟩ (H.sel' [] rfl rfl)
   ·replace h := bif_f hb48 h
    refine c_skip ?_
    refine q_then ?_
    refine c_seq ?_
    refine rg ?_
    have hc64 := H.cells 5 rfl
    refine st (v := (.agg #[(Sl a17 r14.1.1 c18), (Sl a20 r14.1.2 c21)])) (rv_load (cs := [(Sl a17 r14.1.1 c18), (Sl a20 r14.1.2 c21)]) Try.underlying26 rfl ti26 rfl rfl hc64) ?_
    refine st (v := (I r2.2)) (rv_move rfl) ?_
    obtain ⟨r65, hx66, h'⟩ := bind_some h
    clear h
    have h := h'; clear h'
    have hc67 := c_impl_RollBack (ah_0_0 := a17) (ch_0_0 := c18) (ah_0_1 := a20) (ch_0_1 := c21) hx66
    have hle := Nat.le_trans hn0 H.size
    refine st_call (cx_lend (Loan.lend (Loan.lend Loan.nil)) hc67 (ent_f hc67.fn rfl) (show Hp S0 σ0 _ ([Ch.own n0 n0 (Sl a17 r14.1.1 c18) r14.1.1, Ch.own n0 n0 (Sl a20 r14.1.2 c21) r14.1.2] ++ ([] ++ [Ch.ro n0 (Sl a5 r2.1.1 c6) r2.1.1, Ch.ro n0 (Sl a7 r2.1.2 c8) r2.1.2, Ch.bx n0 b10 0 [(Sl a5 r2.1.1 c6), (Sl a7 r2.1.2 c8)] [] [], Ch.bx n0 b23 0 [(Sl a17 r14.1.1 c18), (Sl a20 r14.1.2 c21)] [] [], Ch.own n0 n0 (Sl a30 r27.1.1 c31) r27.1.1, Ch.own n0 n0 (Sl a32 r27.1.2 c33) r27.1.2, Ch.bx n0 b35 0 [(Sl a30 r27.1.1 c31), (Sl a32 r27.1.2 c33)] [] []])) from (H.sel' [3, 4, 0, 1, 2, 5, 6, 7, 8] rfl rfl)) (by rintro _ _ _ ⟨_, _, _, _, rfl, rfl, _⟩; exact ⟨Ab.own (Nat.le_refl _), Ab.ownSc, trivial⟩)) wn ?_
    rintro _ σ73 ⟨_, ⟨a68, c69, a71, c72, rfl, rfl, ht70⟩, H, -, -⟩
    replace H : Hp S0 σ0 σ73 [Ch.own σ47.size σ47.size (Sl a68 r65.1.1 c69) r65.1.1, Ch.own σ47.size σ47.size (Sl a71 r65.1.2 c72) r65.1.2, Ch.own n0 n0 (Sl a17 r14.1.1 c18) r14.1.1, Ch.own n0 n0 (Sl a20 r14.1.2 c21) r14.1.2, Ch.ro n0 (Sl a5 r2.1.1 c6) r2.1.1, Ch.ro n0 (Sl a7 r2.1.2 c8) r2.1.2, Ch.bx n0 b10 0 [(Sl a5 r2.1.1 c6), (Sl a7 r2.1.2 c8)] [] [], Ch.bx n0 b23 0 [(Sl a17 r14.1.1 c18), (Sl a20 r14.1.2 c21)] [] [], Ch.own n0 n0 (Sl a30 r27.1.1 c31) r27.1.1, Ch.own n0 n0 (Sl a32 r27.1.2 c33) r27.1.2, Ch.bx n0 b35 0 [(Sl a30 r27.1.1 c31), (Sl a32 r27.1.2 c33)] [] []] := H
    replace H := H.ownLow 0 n0 n0 rfl hle hle
    replace H := H.ownLow 1 n0 n0 rfl hle hle
    clear hle
    replace H : Hp S0 σ0 σ73 [Ch.own n0 n0 (Sl a71 r65.1.2 c72) r65.1.2, Ch.own n0 n0 (Sl a68 r65.1.1 c69) r65.1.1, Ch.own n0 n0 (Sl a17 r14.1.1 c18) r14.1.1, Ch.own n0 n0 (Sl a20 r14.1.2 c21) r14.1.2, Ch.ro n0 (Sl a5 r2.1.1 c6) r2.1.1, Ch.ro n0 (Sl a7 r2.1.2 c8) r2.1.2, Ch.bx n0 b10 0 [(Sl a5 r2.1.1 c6), (Sl a7 r2.1.2 c8)] [] [], Ch.bx n0 b23 0 [(Sl a17 r14.1.1 c18), (Sl a20 r14.1.2 c21)] [] [], Ch.own n0 n0 (Sl a30 r27.1.1 c31) r27.1.1, Ch.own n0 n0 (Sl a32 r27.1.2 c33) r27.1.2, Ch.bx n0 b35 0 [(Sl a30 r27.1.1 c31), (Sl a32 r27.1.2 c33)] [] []] := H
    replace H : Hp S0 σ0 σ73 [Ch.own n0 n0 (Sl a71 r65.1.2 c72) r65.1.2, Ch.own n0 n0 (Sl a68 r65.1.1 c69) r65.1.1, Ch.own n0 n0 (Sl a17 r14.1.1 c18) r14.1.1, Ch.own n0 n0 (Sl a20 r14.1.2 c21) r14.1.2, Ch.ro n0 (Sl a5 r2.1.1 c6) r2.1.1, Ch.ro n0 (Sl a7 r2.1.2 c8) r2.1.2, Ch.bx n0 b10 0 [(Sl a5 r2.1.1 c6), (Sl a7 r2.1.2 c8)] [] [], Ch.bx n0 b23 0 [(Sl a17 r14.1.1 c18), (Sl a20 r14.1.2 c21)] [] []] := H.sel' [0, 1, 2, 3, 4, 5, 6, 7] rfl rfl
    refine st (v := (.tuple #[(.agg #[(Sl a68 r65.1.1 c69), (Sl a71 r65.1.2 c72)]), (B r65.2)])) (rv_move rfl) ?_
    refine st (v := (.agg #[(Sl a68 r65.1.1 c69), (Sl a71 r65.1.2 c72)])) (rv_extract rfl rfl) ?_
    refine st (v := (B r65.2)) (rv_extract rfl rfl) ?_
    refine st_ex (ex_alloc (cs := [(.slice none 0 0), (.slice none 0 0)]) H hn0 ti26 rfl) wn ?_
    rintro _ σ75 ⟨b74, rfl, H, -⟩
    refine st_exS (ex_store_box (k := 0) (cs := [(.slice none 0 0), (.slice none 0 0)]) (vs := [(Sl a68 r65.1.1 c69), (Sl a71 r65.1.2 c72)]) (cs' := [(Sl a68 r65.1.1 c69), (Sl a71 r65.1.2 c72)]) H (i := 0) rfl ti26 rfl rfl rfl rfl rfl (Nat.le_of_ble_eq_true rfl) (by simp [plain]) rfl) wn ?_
    rintro σ76 ⟨H, -⟩
    refine st (v := (B r65.2)) (rv_assign rfl) ?_
    refine w_end ?_
    refine q_then ?_
    refine c_seq ?_
    refine rg ?_
    have hc77 := H.cells 7 rfl
    refine st (v := (.agg #[(Sl a5 r2.1.1 c6), (Sl a7 r2.1.2 c8)])) (rv_load (cs := [(Sl a5 r2.1.1 c6), (Sl a7 r2.1.2 c8)]) Try.underlying26 rfl ti26 rfl rfl hc77) ?_
    replace H := H.roLow 5 0 rfl (Nat.zero_le _)
    replace H := H.roLow 7 0 rfl (Nat.zero_le _)
    obtain ⟨r78, hx79, h'⟩ := bind_some h
    clear h
    have h := h'; clear h'
    have hc80 := c_impl_RollBack (ah_0_0 := a5) (ch_0_0 := c6) (ah_0_1 := a7) (ch_0_1 := c8) hx79
    refine st_call (cx_call hc80 (ent_f hc80.fn rfl) hn0 (show Hp S0 σ0 _ ([Ch.ro 0 (Sl a5 r2.1.1 c6) r2.1.1, Ch.ro 0 (Sl a7 r2.1.2 c8) r2.1.2] ++ [Ch.ro 0 (Sl a7 r2.1.2 c8) r2.1.2, Ch.ro 0 (Sl a5 r2.1.1 c6) r2.1.1, Ch.bx n0 b74 0 [(Sl a68 r65.1.1 c69), (Sl a71 r65.1.2 c72)] [] [], Ch.own n0 n0 (Sl a71 r65.1.2 c72) r65.1.2, Ch.own n0 n0 (Sl a68 r65.1.1 c69) r65.1.1, Ch.own n0 n0 (Sl a17 r14.1.1 c18) r14.1.1, Ch.own n0 n0 (Sl a20 r14.1.2 c21) r14.1.2, Ch.ro n0 (Sl a5 r2.1.1 c6) r2.1.1, Ch.ro n0 (Sl a7 r2.1.2 c8) r2.1.2, Ch.bx n0 b10 0 [(Sl a5 r2.1.1 c6), (Sl a7 r2.1.2 c8)] [] [], Ch.bx n0 b23 0 [(Sl a17 r14.1.1 c18), (Sl a20 r14.1.2 c21)] [] []]) from (H.sel' [1, 0, 0, 1, 2, 3, 4, 5, 6, 7, 8, 9, 10] rfl rfl))) wn ?_
    rintro _ σ86 ⟨_, ⟨a81, c82, a84, c85, rfl, rfl, ht83⟩, H, -⟩
    replace H : Hp S0 σ0 σ86 [Ch.own n0 n0 (Sl a81 r78.1.1 c82) r78.1.1, Ch.own n0 n0 (Sl a84 r78.1.2 c85) r78.1.2, Ch.ro 0 (Sl a7 r2.1.2 c8) r2.1.2, Ch.ro 0 (Sl a5 r2.1.1 c6) r2.1.1, Ch.bx n0 b74 0 [(Sl a68 r65.1.1 c69), (Sl a71 r65.1.2 c72)] [] [], Ch.own n0 n0 (Sl a71 r65.1.2 c72) r65.1.2, Ch.own n0 n0 (Sl a68 r65.1.1 c69) r65.1.1, Ch.own n0 n0 (Sl a17 r14.1.1 c18) r14.1.1, Ch.own n0 n0 (Sl a20 r14.1.2 c21) r14.1.2, Ch.ro n0 (Sl a5 r2.1.1 c6) r2.1.1, Ch.ro n0 (Sl a7 r2.1.2 c8) r2.1.2, Ch.bx n0 b10 0 [(Sl a5 r2.1.1 c6), (Sl a7 r2.1.2 c8)] [] [], Ch.bx n0 b23 0 [(Sl a17 r14.1.1 c18), (Sl a20 r14.1.2 c21)] [] []] := H
    replace H : Hp S0 σ0 σ86 [Ch.own n0 n0 (Sl a81 r78.1.1 c82) r78.1.1, Ch.own n0 n0 (Sl a84 r78.1.2 c85) r78.1.2, Ch.bx n0 b74 0 [(Sl a68 r65.1.1 c69), (Sl a71 r65.1.2 c72)] [] [], Ch.own n0 n0 (Sl a71 r65.1.2 c72) r65.1.2, Ch.own n0 n0 (Sl a68 r65.1.1 c69) r65.1.1, Ch.own n0 n0 (Sl a17 r14.1.1 c18) r14.1.1, Ch.own n0 n0 (Sl a20 r14.1.2 c21) r14.1.2, Ch.ro n0 (Sl a5 r2.1.1 c6) r2.1.1, Ch.ro n0 (Sl a7 r2.1.2 c8) r2.1.2, Ch.bx n0 b10 0 [(Sl a5 r2.1.1 c6), (Sl a7 r2.1.2 c8)] [] [], Ch.bx n0 b23 0 [(Sl a17 r14.1.1 c18), (Sl a20 r14.1.2 c21)] [] []] := H.sel' [0, 1, 4, 5, 6, 7, 8, 9, 10, 11, 12] rfl rfl
    refine st (v := (.tuple #[(.agg #[(Sl a81 r78.1.1 c82), (Sl a84 r78.1.2 c85)]), (B r78.2)])) (rv_move rfl) ?_
    refine st (v := (.agg #[(Sl a81 r78.1.1 c82), (Sl a84 r78.1.2 c85)])) (rv_extract rfl rfl) ?_
    refine st (v := (B r78.2)) (rv_extract rfl rfl) ?_
    refine st_ex (ex_alloc (cs := [(.slice none 0 0), (.slice none 0 0)]) H hn0 ti26 rfl) wn ?_
    rintro _ σ88 ⟨b87, rfl, H, -⟩
    refine st_exS (ex_store_box (k := 0) (cs := [(.slice none 0 0), (.slice none 0 0)]) (vs := [(Sl a81 r78.1.1 c82), (Sl a84 r78.1.2 c85)]) (cs' := [(Sl a81 r78.1.1 c82), (Sl a84 r78.1.2 c85)]) H (i := 0) rfl ti26 rfl rfl rfl rfl rfl (Nat.le_of_ble_eq_true rfl) (by simp [plain]) rfl) wn ?_
    rintro σ89 ⟨H, -⟩
    refine st (v := (B r78.2)) (rv_assign rfl) ?_
    refine w_end ?_
    refine q_then ?_
    refine c_seq ?_
    refine rg ?_
    refine st (v := (B r65.2)) (rv_move rfl) ?_
    refine st (v := (B r65.2)) (rv_move rfl) ?_
    rcases Bool.eq_false_or_eq_true r65.2 with hb90 | hb90
    ·replace h := bif_t hb90 h
     have hc91 := H.cells 3 rfl
     refine st_g (v := (.agg #[(Sl a68 r65.1.1 c69), (Sl a71 r65.1.2 c72)])) (congrArg some hb90) (rv_load (cs := [(Sl a68 r65.1.1 c69), (Sl a71 r65.1.2 c72)]) Try.underlying26 rfl ti26 rfl rfl hc91) ?_
     have hc92 := H.cells 11 rfl
     refine st_g (v := (.agg #[(Sl a17 r14.1.1 c18), (Sl a20 r14.1.2 c21)])) (congrArg some hb90) (rv_load (cs := [(Sl a17 r14.1.1 c18), (Sl a20 r14.1.2 c21)]) Try.underlying26 rfl ti26 rfl rfl hc92) ?_
     obtain ⟨σ93, hw94, H, -⟩ := H.pub 5 rfl (Nat.le_refl _)
     rw [← hw94]; clear hw94
     obtain ⟨σ95, hw96, H, -⟩ := H.pub 5 rfl (Nat.le_refl _)
     rw [← hw96]; clear hw96
     obtain ⟨σ97, hw98, H, -⟩ := H.pub 6 rfl (Nat.le_refl _)
     rw [← hw98]; clear hw98
     obtain ⟨σ99, hw100, H, -⟩ := H.pub 7 rfl (Nat.le_refl _)
     rw [← hw100]; clear hw100
     replace H := H.roLow 3 0 rfl (Nat.zero_le _)
     replace H := H.roLow 3 0 rfl (Nat.zero_le _)
     replace H := H.roLow 3 0 rfl (Nat.zero_le _)
     replace H := H.roLow 3 0 rfl (Nat.zero_le _)
     obtain ⟨r101, hx102, h'⟩ := bind_some h
     clear h
     have h := h'; clear h'
     have hc103 := c_laws_equalHistory (aa_0_0 := a68) (ca_0_0 := c69) (aa_0_1 := a71) (ca_0_1 := c72) (ab_1_0 := a17) (cb_1_0 := c18) (ab_1_1 := a20) (cb_1_1 := c21) hx102
     refine st_call (cx_call hc103 (ent_f hc103.fn rfl) hn0 (show Hp S0 σ0 _ ([Ch.ro 0 (Sl a68 r65.1.1 c69) r65.1.1, Ch.ro 0 (Sl a71 r65.1.2 c72) r65.1.2, Ch.ro 0 (Sl a17 r14.1.1 c18) r14.1.1, Ch.ro 0 (Sl a20 r14.1.2 c21) r14.1.2] ++ [Ch.ro 0 (Sl a20 r14.1.2 c21) r14.1.2, Ch.ro 0 (Sl a17 r14.1.1 c18) r14.1.1, Ch.ro 0 (Sl a71 r65.1.2 c72) r65.1.2, Ch.ro 0 (Sl a68 r65.1.1 c69) r65.1.1, Ch.ro n0 (Sl a20 r14.1.2 c21) r14.1.2, Ch.ro n0 (Sl a17 r14.1.1 c18) r14.1.1, Ch.ro n0 (Sl a71 r65.1.2 c72) r65.1.2, Ch.ro n0 (Sl a68 r65.1.1 c69) r65.1.1, Ch.bx n0 b87 0 [(Sl a81 r78.1.1 c82), (Sl a84 r78.1.2 c85)] [] [], Ch.own n0 n0 (Sl a81 r78.1.1 c82) r78.1.1, Ch.own n0 n0 (Sl a84 r78.1.2 c85) r78.1.2, Ch.bx n0 b74 0 [(Sl a68 r65.1.1 c69), (Sl a71 r65.1.2 c72)] [] [], Ch.ro n0 (Sl a5 r2.1.1 c6) r2.1.1, Ch.ro n0 (Sl a7 r2.1.2 c8) r2.1.2, Ch.bx n0 b10 0 [(Sl a5 r2.1.1 c6), (Sl a7 r2.1.2 c8)] [] [], Ch.bx n0 b23 0 [(Sl a17 r14.1.1 c18), (Sl a20 r14.1.2 c21)] [] []]) from (H.sel' [3, 2, 1, 0, 0, 1, 2, 3, 4, 5, 6, 7, 8, 9, 10, 11, 12, 13, 14, 15] rfl rfl))) (wanted_yes rfl (by exact (congrArg some hb90))) ?_
     rintro _ σ104 ⟨_, ⟨rfl, rfl⟩, H, -⟩
     replace H : Hp S0 σ0 σ104 [Ch.ro 0 (Sl a20 r14.1.2 c21) r14.1.2, Ch.ro 0 (Sl a17 r14.1.1 c18) r14.1.1, Ch.ro 0 (Sl a71 r65.1.2 c72) r65.1.2, Ch.ro 0 (Sl a68 r65.1.1 c69) r65.1.1, Ch.ro n0 (Sl a20 r14.1.2 c21) r14.1.2, Ch.ro n0 (Sl a17 r14.1.1 c18) r14.1.1, Ch.ro n0 (Sl a71 r65.1.2 c72) r65.1.2, Ch.ro n0 (Sl a68 r65.1.1 c69) r65.1.1, Ch.bx n0 b87 0 [(Sl a81 r78.1.1 c82), (Sl a84 r78.1.2 c85)] [] [], Ch.own n0 n0 (Sl a81 r78.1.1 c82) r78.1.1, Ch.own n0 n0 (Sl a84 r78.1.2 c85) r78.1.2, Ch.bx n0 b74 0 [(Sl a68 r65.1.1 c69), (Sl a71 r65.1.2 c72)] [] [], Ch.ro n0 (Sl a5 r2.1.1 c6) r2.1.1, Ch.ro n0 (Sl a7 r2.1.2 c8) r2.1.2, Ch.bx n0 b10 0 [(Sl a5 r2.1.1 c6), (Sl a7 r2.1.2 c8)] [] [], Ch.bx n0 b23 0 [(Sl a17 r14.1.1 c18), (Sl a20 r14.1.2 c21)] [] []] := H
     replace H : Hp S0 σ0 σ104 [Ch.bx n0 b87 0 [(Sl a81 r78.1.1 c82), (Sl a84 r78.1.2 c85)] [] [], Ch.own n0 n0 (Sl a81 r78.1.1 c82) r78.1.1, Ch.own n0 n0 (Sl a84 r78.1.2 c85) r78.1.2, Ch.ro n0 (Sl a5 r2.1.1 c6) r2.1.1, Ch.ro n0 (Sl a7 r2.1.2 c8) r2.1.2, Ch.bx n0 b10 0 [(Sl a5 r2.1.1 c6), (Sl a7 r2.1.2 c8)] [] []] := H.sel' [8, 9, 10, 12, 13, 14] rfl rfl
     refine st (v := (B r101)) (rv_pick_t (congrArg B hb90) rfl) ?_
     refine st (v := (B r101)) (rv_move rfl) ?_
     rcases Bool.eq_false_or_eq_true r101 with hb105 | hb105
     ·replace h := bif_t hb105 h
      refine st_g (v := (B r78.2)) (congrArg some hb105) (rv_move rfl) ?_
      refine st (v := (B r78.2)) (rv_pick_t (congrArg B hb105) rfl) ?_
      refine st (v := (B r78.2)) (rv_move rfl) ?_
      rcases Bool.eq_false_or_eq_true r78.2 with hb106 | hb106
      ·replace h := bif_t hb106 h
       have hc107 := H.cells 0 rfl
       refine st_g (v := (.agg #[(Sl a81 r78.1.1 c82), (Sl a84 r78.1.2 c85)])) (congrArg some hb106) (rv_load (cs := [(Sl a81 r78.1.1 c82), (Sl a84 r78.1.2 c85)]) Try.underlying26 rfl ti26 rfl rfl hc107) ?_
       have hc108 := H.cells 5 rfl
       refine st_g (v := (.agg #[(Sl a5 r2.1.1 c6), (Sl a7 r2.1.2 c8)])) (congrArg some hb106) (rv_load (cs := [(Sl a5 r2.1.1 c6), (Sl a7 r2.1.2 c8)]) Try.underlying26 rfl ti26 rfl rfl hc108) ?_
       obtain ⟨σ109, hw110, H, -⟩ := H.pub 1 rfl (Nat.le_refl _)
       rw [← hw110]; clear hw110
       obtain ⟨σ111, hw112, H, -⟩ := H.pub 2 rfl (Nat.le_refl _)
       rw [← hw112]; clear hw112
       replace H := H.roLow 1 0 rfl (Nat.zero_le _)
       replace H := H.roLow 1 0 rfl (Nat.zero_le _)
       replace H := H.roLow 5 0 rfl (Nat.zero_le _)
       replace H := H.roLow 7 0 rfl (Nat.zero_le _)
       obtain ⟨r113, hx114, h'⟩ := bind_some h
       clear h
       have h := h'; clear h'
       have hc115 := c_laws_equalHistory (aa_0_0 := a81) (ca_0_0 := c82) (aa_0_1 := a84) (ca_0_1 := c85) (ab_1_0 := a5) (cb_1_0 := c6) (ab_1_1 := a7) (cb_1_1 := c8) hx114
       refine st_call (cx_call hc115 (ent_f hc115.fn rfl) hn0 (show Hp S0 σ0 _ ([Ch.ro 0 (Sl a81 r78.1.1 c82) r78.1.1, Ch.ro 0 (Sl a84 r78.1.2 c85) r78.1.2, Ch.ro 0 (Sl a5 r2.1.1 c6) r2.1.1, Ch.ro 0 (Sl a7 r2.1.2 c8) r2.1.2] ++ [Ch.ro 0 (Sl a7 r2.1.2 c8) r2.1.2, Ch.ro 0 (Sl a5 r2.1.1 c6) r2.1.1, Ch.ro 0 (Sl a84 r78.1.2 c85) r78.1.2, Ch.ro 0 (Sl a81 r78.1.1 c82) r78.1.1, Ch.ro n0 (Sl a84 r78.1.2 c85) r78.1.2, Ch.ro n0 (Sl a81 r78.1.1 c82) r78.1.1, Ch.bx n0 b87 0 [(Sl a81 r78.1.1 c82), (Sl a84 r78.1.2 c85)] [] [], Ch.ro n0 (Sl a5 r2.1.1 c6) r2.1.1, Ch.ro n0 (Sl a7 r2.1.2 c8) r2.1.2, Ch.bx n0 b10 0 [(Sl a5 r2.1.1 c6), (Sl a7 r2.1.2 c8)] [] []]) from (H.sel' [3, 2, 1, 0, 0, 1, 2, 3, 4, 5, 6, 7, 8, 9] rfl rfl))) (wanted_yes rfl (by exact (congrArg some hb106))) ?_
       rintro _ σ116 ⟨_, ⟨rfl, rfl⟩, H, -⟩
       replace H : Hp S0 σ0 σ116 [Ch.ro 0 (Sl a7 r2.1.2 c8) r2.1.2, Ch.ro 0 (Sl a5 r2.1.1 c6) r2.1.1, Ch.ro 0 (Sl a84 r78.1.2 c85) r78.1.2, Ch.ro 0 (Sl a81 r78.1.1 c82) r78.1.1, Ch.ro n0 (Sl a84 r78.1.2 c85) r78.1.2, Ch.ro n0 (Sl a81 r78.1.1 c82) r78.1.1, Ch.bx n0 b87 0 [(Sl a81 r78.1.1 c82), (Sl a84 r78.1.2 c85)] [] [], Ch.ro n0 (Sl a5 r2.1.1 c6) r2.1.1, Ch.ro n0 (Sl a7 r2.1.2 c8) r2.1.2, Ch.bx n0 b10 0 [(Sl a5 r2.1.1 c6), (Sl a7 r2.1.2 c8)] [] []] := H
       replace H : Hp S0 σ0 σ116 [] := H.sel' [] rfl rfl
       refine st (v := (B r113)) (rv_pick_t (congrArg B hb106) rfl) ?_
       refine st (v := (B r113)) (rv_assign rfl) ?_
       refine w_end ?_
       refine q_then ?_
       refine c_ret ?_
       obtain rfl := Option.some.inj h
       exact fin_ret (v := (B r113)) (results_ok Try.results9 (res_tmp (v := (B r113)) rfl res_nil) rfl) ⟨rfl, rfl⟩ (H.sel' [] rfl rfl)
      ·replace h := bif_f hb106 h
       refine st_skip (congrArg some hb106) ?_
       refine st_skip (congrArg some hb106) ?_
       refine st_skip (congrArg some hb106) ?_
       refine st (v := (B false)) (rv_pick_f (congrArg B hb106) rfl) ?_
       refine st (v := (B false)) (rv_assign rfl) ?_
       refine w_end ?_
       refine q_then ?_
       refine c_ret ?_
       obtain rfl := Option.some.inj h
       exact fin_ret (v := (B false)) (results_ok Try.results9 (res_tmp (v := (B false)) rfl res_nil) rfl) ⟨rfl, rfl⟩ (H.sel' [] rfl rfl)
     ·replace h := bif_f hb105 h
      refine st_skip (congrArg some hb105) ?_
      refine st (v := (B false)) (rv_pick_f (congrArg B hb105) rfl) ?_
      refine st (v := (B false)) (rv_move rfl) ?_
      refine st_skip rfl ?_
      refine st_skip rfl ?_
      refine st_skip rfl ?_
      refine st (v := (B false)) (rv_pick_f rfl rfl) ?_
      refine st (v := (B false)) (rv_assign rfl) ?_
      refine w_end ?_
      refine q_then ?_
      refine c_ret ?_
      obtain rfl := Option.some.inj h
      exact fin_ret (v := (B false)) (results_ok Try.results9 (res_tmp (v := (B false)) rfl res_nil) rfl) ⟨rfl, rfl⟩ (H.sel' [] rfl rfl)
    ·replace h := bif_f hb90 h
     refine st_skip (congrArg some hb90) ?_
     refine st_skip (congrArg some hb90) ?_
     refine st_skip (congrArg some hb90) ?_
     refine st (v := (B false)) (rv_pick_f (congrArg B hb90) rfl) ?_
     refine st (v := (B false)) (rv_move rfl) ?_
     refine st_skip rfl ?_
     refine st (v := (B false)) (rv_pick_f rfl rfl) ?_
     refine st (v := (B false)) (rv_move rfl) ?_
     refine st_skip rfl ?_
     refine st_skip rfl ?_
     refine st_skip rfl ?_
     refine st (v := (B false)) (rv_pick_f rfl rfl) ?_
     refine st (v := (B false)) (rv_assign rfl) ?_
     refine w_end ?_
     refine q_then ?_
     refine c_ret ?_
     obtain rfl := Option.some.inj h
     exact fin_ret (v := (B false)) (results_ok Try.results9 (res_tmp (v := (B false)) rfl res_nil) rfl) ⟨rfl, rfl⟩ (H.sel' [] rfl rfl)

end Go.Vs
