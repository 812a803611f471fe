/- The functions compute what their models say. -/
import Derived.Test.YtjcaokajkkkniaaKEncodeVectorC2
set_option linter.unusedVariables false
set_option linter.unusedSimpArgs false
set_option maxRecDepth 20000
namespace Go.Vs
open Go Go.Proofs
attribute [local irreducible] Code.wp Code.wpIn wpList wpListIn wpQuiet Calls CallsIn

theorem c_laws_FnEncodeVector {code_0 : List UInt8} {acode_0 : Option Addr} {ccode_0 : Nat} {r : Bool} (h : M.laws_FnEncodeVector code_0 = some r) :
    Cal2 Try.prog 4 [(Sl acode_0 code_0 ccode_0)] [Ch.ro 0 (Sl acode_0 code_0 ccode_0) code_0] (fun n0 v L => v = (B r) ∧ L = []) := by
 refine cal2 (n := 63) Try.func4 rfl rfl rfl rfl ?_
 intro S0 σ0 n0 hn0 H
 unfold M.laws_FnEncodeVector at h
 refine c_seq ?_
 refine rg ?_
 refine st (v := (B false)) (rv_assign rfl) ?_
 refine w_end ?_
 refine q_then ?_
 refine c_seq ?_
 refine c_seq ?_
 refine rg ?_
 refine st (v := (Sl acode_0 code_0 ccode_0)) (rv_move rfl) ?_
 refine st (v := (I (code_0.length : Int))) (rv_len Try.underlying22 rfl) ?_
 refine st (v := (B (decide (1048576 < (code_0.length : Int))))) (rv_gtr (a := (code_0.length : Int)) (b := 1048576) rfl rfl) ?_
 refine w_end ?_
 refine q_then ?_
 refine cd_cond (decide (1048576 < (code_0.length : Int))) rfl (fun hb1 => ?_) (fun hb1 => ?_)
 ·replace h := bif_t hb1 h
  refine c_seq ?_
  refine rg ?_
  refine st (v := (B true)) (rv_assign rfl) ?_
  refine w_end ?_
  refine q_then ?_
  refine c_ret ?_
  refine q_then_r ?_
  obtain rfl := Option.some.inj h
  exact fin_ret (v := (B true)) (results_ok Try.results4 (res_tmp (v := (B true)) rfl res_nil) rfl) ⟨rfl, rfl⟩ (H.sel' [] rfl rfl)
 ·replace h := bif_f hb1 h
  refine c_skip ?_
  refine q_then ?_
  refine c_seq ?_
  refine rg ?_
  refine st (v := (Sl acode_0 code_0 ccode_0)) (rv_move rfl) ?_
  obtain ⟨r2, hx3, h'⟩ := bind_some h
  clear h
  have h := h'; clear h'
  have hc4 := c_spec_DrawEncodeVector (acode_0 := acode_0) (ccode_0 := ccode_0) hx3
  refine st_call (cx_call hc4 (ent_f hc4.fn rfl) hn0 (show Hp S0 σ0 _ ([Ch.ro 0 (Sl acode_0 code_0 ccode_0) code_0] ++ [Ch.ro 0 (Sl acode_0 code_0 ccode_0) code_0]) from (H.sel' [0, 0] rfl rfl))) wn ?_
  rintro _ σ11 ⟨_, ⟨a5, c6, a7, c8, a9, c10, rfl, rfl⟩, H, -⟩
  replace H : Hp S0 σ0 σ11 [Ch.own n0 n0 (Sl a5 r2.1.1 c6) r2.1.1, Ch.own n0 n0 (Sl a7 r2.1.2 c8) r2.1.2, Ch.own n0 n0 (Sl a9 r2.2 c10) r2.2, Ch.ro 0 (Sl acode_0 code_0 ccode_0) code_0] := H
  refine st (v := (.tuple #[(.agg #[(Sl a5 r2.1.1 c6), (Sl a7 r2.1.2 c8)]), (Sl a9 r2.2 c10)])) (rv_move rfl) ?_
  refine st (v := (.agg #[(Sl a5 r2.1.1 c6), (Sl a7 r2.1.2 c8)])) (rv_extract rfl rfl) ?_
  refine st (v := (Sl a9 r2.2 c10)) (rv_extract rfl rfl) ?_
  refine st_ex (ex_alloc (cs := [(.slice none 0 0), (.slice none 0 0)]) H hn0 ti25 rfl) wn ?_
  rintro _ σ13 ⟨b12, rfl, H, -⟩
  refine st_exS (ex_store_box (k := 0) (cs := [(.slice none 0 0), (.slice none 0 0)]) (vs := [(Sl a5 r2.1.1 c6), (Sl a7 r2.1.2 c8)]) (cs' := [(Sl a5 r2.1.1 c6), (Sl a7 r2.1.2 c8)]) H (i := 0) rfl ti25 rfl rfl rfl rfl rfl (Nat.le_of_ble_eq_true rfl) (by simp [plain]) rfl) wn ?_
  rintro σ14 ⟨H, -⟩
  refine st (v := (Sl a9 r2.2 c10)) (rv_assign rfl) ?_
  refine w_end ?_
  refine q_then ?_
  refine c_seq ?_
  refine rg ?_
  have hc15 := H.cells 0 rfl
  refine st (v := (.agg #[(Sl a5 r2.1.1 c6), (Sl a7 r2.1.2 c8)])) (rv_load (cs := [(Sl a5 r2.1.1 c6), (Sl a7 r2.1.2 c8)]) Try.underlying25 rfl ti25 rfl rfl hc15) ?_
  refine st (v := (Sl a9 r2.2 c10)) (rv_move rfl) ?_
  obtain ⟨r16, hx17, h'⟩ := bind_some h
  clear h
  have h := h'; clear h'
  have hc18 := c_impl_EncodeVector (ab_0_0 := a5) (cb_0_0 := c6) (ab_0_1 := a7) (cb_0_1 := c8) (aat_1 := a9) (cat_1 := c10) hx17
  have hle := Nat.le_trans hn0 H.size
  refine st_call (cx_lend (Loan.lend (Loan.lend (Loan.lend Loan.nil))) hc18 (ent_f hc18.fn rfl) (show Hp S0 σ0 _ ([Ch.own n0 n0 (Sl a5 r2.1.1 c6) r2.1.1, Ch.own n0 n0 (Sl a7 r2.1.2 c8) r2.1.2, Ch.own n0 n0 (Sl a9 r2.2 c10) r2.2] ++ ([] ++ [Ch.bx n0 b12 0 [(Sl a5 r2.1.1 c6), (Sl a7 r2.1.2 c8)] [] [], Ch.ro 0 (Sl acode_0 code_0 ccode_0) code_0])) from (H.sel' [1, 2, 3, 0, 4] rfl rfl)) (by rintro _ _ _ ⟨rfl, rfl⟩; exact trivial)) wn ?_
  rintro _ σ19 ⟨_, ⟨rfl, rfl⟩, H, -, -⟩
  replace H : Hp S0 σ0 σ19 [Ch.own n0 n0 (Sl a5 r2.1.1 c6) r2.1.1, Ch.own n0 n0 (Sl a7 r2.1.2 c8) r2.1.2, Ch.own n0 n0 (Sl a9 r2.2 c10) r2.2, Ch.bx n0 b12 0 [(Sl a5 r2.1.1 c6), (Sl a7 r2.1.2 c8)] [] [], Ch.ro 0 (Sl acode_0 code_0 ccode_0) code_0] := H
  clear hle
  replace H : Hp S0 σ0 σ19 [Ch.own n0 n0 (Sl a5 r2.1.1 c6) r2.1.1, Ch.own n0 n0 (Sl a7 r2.1.2 c8) r2.1.2, Ch.own n0 n0 (Sl a9 r2.2 c10) r2.2, Ch.bx n0 b12 0 [(Sl a5 r2.1.1 c6), (Sl a7 r2.1.2 c8)] [] [], Ch.ro 0 (Sl acode_0 code_0 ccode_0) code_0] := H
  refine st (v := (I r16)) (rv_assign rfl) ?_
  refine w_end ?_
  refine q_then ?_
  refine c_seq ?_
  refine c_seq ?_
  obtain ⟨o20, hj, h'⟩ := bind_some h
  clear h
  refine c_cut (fun e a w => e = .normal ∧ ∃ (ρ : Nat → Value) (σ : St), a = fr 63 (updL ρ [(3, (pt b12 0)), (4, (Sl a9 r2.2 c10)), (5, (I r16)), (28, (B o20))]) ∧ w = σ.w ∧ Hp S0 σ0 σ [Ch.own n0 n0 (Sl a5 r2.1.1 c6) r2.1.1, Ch.own n0 n0 (Sl a7 r2.1.2 c8) r2.1.2, Ch.bx n0 b12 0 [(Sl a5 r2.1.1 c6), (Sl a7 r2.1.2 c8)] [] [], Ch.own n0 n0 (Sl a9 r2.2 c10) r2.2]) ?_ ?_
  ·clear h'
   rename _ = some o20 => h
   refine rg ?_
   refine st (v := (I r16)) (rv_move rfl) ?_
   have hc21 := H.cells 3 rfl
   refine st (v := (.agg #[(Sl a5 r2.1.1 c6), (Sl a7 r2.1.2 c8)])) (rv_load (cs := [(Sl a5 r2.1.1 c6), (Sl a7 r2.1.2 c8)]) Try.underlying25 rfl ti25 rfl rfl hc21) ?_
   refine st (v := (Sl a9 r2.2 c10)) (rv_move rfl) ?_
   obtain ⟨r22, hx23, h'⟩ := bind_some h
   clear h
   have h := h'; clear h'
   have hc24 := c_spec_EncodeVector (ab_0_0 := a5) (cb_0_0 := c6) (ab_0_1 := a7) (cb_0_1 := c8) (aat_1 := a9) (cat_1 := c10) hx23
   have hle := Nat.le_trans hn0 H.size
   refine st_call (cx_lend (Loan.lend (Loan.lend (Loan.lend Loan.nil))) hc24 (ent_f hc24.fn rfl) (show Hp S0 σ0 _ ([Ch.own n0 n0 (Sl a5 r2.1.1 c6) r2.1.1, Ch.own n0 n0 (Sl a7 r2.1.2 c8) r2.1.2, Ch.own n0 n0 (Sl a9 r2.2 c10) r2.2] ++ ([] ++ [Ch.bx n0 b12 0 [(Sl a5 r2.1.1 c6), (Sl a7 r2.1.2 c8)] [] [], Ch.ro 0 (Sl acode_0 code_0 ccode_0) code_0])) from (H.sel' [0, 1, 2, 3, 4] rfl rfl)) (by rintro _ _ _ ⟨rfl, rfl⟩; exact trivial)) wn ?_
   rintro _ σ25 ⟨_, ⟨rfl, rfl⟩, H, -, -⟩
   replace H : Hp S0 σ0 σ25 [Ch.own n0 n0 (Sl a5 r2.1.1 c6) r2.1.1, Ch.own n0 n0 (Sl a7 r2.1.2 c8) r2.1.2, Ch.own n0 n0 (Sl a9 r2.2 c10) r2.2, Ch.bx n0 b12 0 [(Sl a5 r2.1.1 c6), (Sl a7 r2.1.2 c8)] [] [], Ch.ro 0 (Sl acode_0 code_0 ccode_0) code_0] := H
   clear hle
   replace H : Hp S0 σ0 σ25 [Ch.own n0 n0 (Sl a5 r2.1.1 c6) r2.1.1, Ch.own n0 n0 (Sl a7 r2.1.2 c8) r2.1.2, Ch.own n0 n0 (Sl a9 r2.2 c10) r2.2, Ch.bx n0 b12 0 [(Sl a5 r2.1.1 c6), (Sl a7 r2.1.2 c8)] [] [], Ch.ro 0 (Sl acode_0 code_0 ccode_0) code_0] := H
   refine st (v := (B (r16 != r22))) (rv_neq (a := r16) (b := r22) rfl rfl) ?_
   refine st (v := (B (r16 != r22))) (rv_move rfl) ?_
   rcases Bool.eq_false_or_eq_true (r16 != r22) with hb26 | hb26
   ·replace h := bif_t hb26 h
    refine st_skip (congrArg some hb26) ?_
    refine st_skip (congrArg some hb26) ?_
    refine st (v := (B true)) (rv_pick_t (congrArg B hb26) rfl) ?_
    refine w_end ?_
    obtain rfl := Option.some.inj h
    exact ⟨rfl, _, σ25, fr_join ⟨rfl, rfl, rfl, rfl, trivial⟩, rfl, H.sel' [0, 1, 3, 2] rfl rfl⟩
   ·replace h := bif_f hb26 h
    refine st_g (v := (I r16)) (congrArg some hb26) (rv_move rfl) ?_
    refine st_g (v := (B (decide (r16 < 0)))) (congrArg some hb26) (rv_lss (a := r16) (b := 0) rfl rfl) ?_
    refine st (v := (B (decide (r16 < 0)))) (rv_pick_f (congrArg B hb26) rfl) ?_
    refine w_end ?_
    obtain rfl := Option.some.inj h
    exact ⟨rfl, _, σ25, fr_join ⟨rfl, rfl, rfl, rfl, trivial⟩, rfl, H.sel' [0, 1, 3, 2] rfl rfl⟩
  ·clear hj
   have h := h'
   clear h' H
   rintro e a w ⟨rfl, ρ, σ27, rfl, rfl, H⟩
   refine q_then ?_
   refine cd_cond o20 rfl (fun hb28 => ?_) (fun hb28 => ?_)
   ·replace h := bif_t hb28 h
    refine c_seq ?_
    refine rg ?_
    refine st (v := (I r16)) (rv_move rfl) ?_
    have hc29 := H.cells 2 rfl
    refine st (v := (.agg #[(Sl a5 r2.1.1 c6), (Sl a7 r2.1.2 c8)])) (rv_load (cs := [(Sl a5 r2.1.1 c6), (Sl a7 r2.1.2 c8)]) Try.underlying25 rfl ti25 rfl rfl hc29) ?_
    refine st (v := (Sl a9 r2.2 c10)) (rv_move rfl) ?_
    obtain ⟨σ30, hw31, H, -⟩ := H.pub 0 rfl (Nat.le_refl _)
    rw [← hw31]; clear hw31
    obtain ⟨σ32, hw33, H, -⟩ := H.pub 1 rfl (Nat.le_refl _)
    rw [← hw33]; clear hw33
    obtain ⟨σ34, hw35, H, -⟩ := H.pub 3 rfl (Nat.le_refl _)
    rw [← hw35]; clear hw35
    replace H := H.roLow 2 0 rfl (Nat.zero_le _)
    replace H := H.roLow 2 0 rfl (Nat.zero_le _)
    replace H := H.roLow 2 0 rfl (Nat.zero_le _)
    obtain ⟨r36, hx37, h'⟩ := bind_some h
    clear h
    have h := h'; clear h'
    have hc38 := c_spec_EncodeVector (ab_0_0 := a5) (cb_0_0 := c6) (ab_0_1 := a7) (cb_0_1 := c8) (aat_1 := a9) (cat_1 := c10) hx37
    refine st_call (cx_call hc38 (ent_f hc38.fn rfl) hn0 (show Hp S0 σ0 _ ([Ch.ro 0 (Sl a5 r2.1.1 c6) r2.1.1, Ch.ro 0 (Sl a7 r2.1.2 c8) r2.1.2, Ch.ro 0 (Sl a9 r2.2 c10) r2.2] ++ [Ch.ro 0 (Sl a9 r2.2 c10) r2.2, Ch.ro 0 (Sl a7 r2.1.2 c8) r2.1.2, Ch.ro 0 (Sl a5 r2.1.1 c6) r2.1.1, Ch.ro n0 (Sl a9 r2.2 c10) r2.2, Ch.ro n0 (Sl a7 r2.1.2 c8) r2.1.2, Ch.ro n0 (Sl a5 r2.1.1 c6) r2.1.1, Ch.bx n0 b12 0 [(Sl a5 r2.1.1 c6), (Sl a7 r2.1.2 c8)] [] []]) from (H.sel' [2, 1, 0, 0, 1, 2, 3, 4, 5, 6] rfl rfl))) wn ?_
    rintro _ σ39 ⟨_, ⟨rfl, rfl⟩, H, -⟩
    replace H : Hp S0 σ0 σ39 [Ch.ro 0 (Sl a9 r2.2 c10) r2.2, Ch.ro 0 (Sl a7 r2.1.2 c8) r2.1.2, Ch.ro 0 (Sl a5 r2.1.1 c6) r2.1.1, Ch.ro n0 (Sl a9 r2.2 c10) r2.2, Ch.ro n0 (Sl a7 r2.1.2 c8) r2.1.2, Ch.ro n0 (Sl a5 r2.1.1 c6) r2.1.1, Ch.bx n0 b12 0 [(Sl a5 r2.1.1 c6), (Sl a7 r2.1.2 c8)] [] []] := H
    refine st (v := (B (r16 == r36))) (rv_eql (a := r16) (b := r36) rfl rfl) ?_
    refine st (v := (B (r16 == r36))) (rv_assign rfl) ?_
    refine w_end ?_
    refine q_then ?_
    refine c_ret ?_
    refine q_then_r ?_
    obtain rfl := Option.some.inj h
    exact fin_ret (v := (B (r16 == r36))) (results_ok Try.results4 (res_tmp (v := (B (r16 == r36))) rfl res_nil) rfl) ⟨rfl, rfl⟩ (H.sel' [] rfl rfl)
   ·replace h := bif_f hb28 h
    refine c_skip ?_
    refine q_then ?_
    refine c_seq ?_
    refine rg ?_
    have hc40 := H.cells 2 rfl
    refine st (v := (.agg #[(Sl a5 r2.1.1 c6), (Sl a7 r2.1.2 c8)])) (rv_load (cs := [(Sl a5 r2.1.1 c6), (Sl a7 r2.1.2 c8)]) Try.underlying25 rfl ti25 rfl rfl hc40) ?_
    refine st (v := (I r16)) (rv_move rfl) ?_
    obtain ⟨r41, hx42, h'⟩ := bind_some h
    clear h
    have h := h'; clear h'
    have hc43 := c_impl_DecodeVector (ab_0_0 := a5) (cb_0_0 := c6) (ab_0_1 := a7) (cb_0_1 := c8) hx42
    have hle := Nat.le_trans hn0 H.size
    refine st_call (cx_lend (Loan.lend (Loan.lend Loan.nil)) hc43 (ent_f hc43.fn rfl) (show Hp S0 σ0 _ ([Ch.own n0 n0 (Sl a5 r2.1.1 c6) r2.1.1, Ch.own n0 n0 (Sl a7 r2.1.2 c8) r2.1.2] ++ ([] ++ [Ch.bx n0 b12 0 [(Sl a5 r2.1.1 c6), (Sl a7 r2.1.2 c8)] [] [], Ch.own n0 n0 (Sl a9 r2.2 c10) r2.2])) from (H.sel' [0, 1, 2, 3] rfl rfl)) (by rintro _ _ _ ⟨_, _, rfl, rfl⟩; exact ⟨Ab.ownSc, trivial⟩)) wn ?_
    rintro _ σ46 ⟨_, ⟨a44, c45, rfl, rfl⟩, H, -, -⟩
    replace H : Hp S0 σ0 σ46 [Ch.own 0 σ27.size (Sl a44 r41 c45) r41, Ch.own n0 n0 (Sl a5 r2.1.1 c6) r2.1.1, Ch.own n0 n0 (Sl a7 r2.1.2 c8) r2.1.2, Ch.bx n0 b12 0 [(Sl a5 r2.1.1 c6), (Sl a7 r2.1.2 c8)] [] [], Ch.own n0 n0 (Sl a9 r2.2 c10) r2.2] := H
    replace H := H.ownLow 0 0 n0 rfl (Nat.le_refl _) hle
    clear hle
    replace H : Hp S0 σ0 σ46 [Ch.own 0 n0 (Sl a44 r41 c45) r41, Ch.own n0 n0 (Sl a5 r2.1.1 c6) r2.1.1, Ch.own n0 n0 (Sl a7 r2.1.2 c8) r2.1.2, Ch.bx n0 b12 0 [(Sl a5 r2.1.1 c6), (Sl a7 r2.1.2 c8)] [] [], Ch.own n0 n0 (Sl a9 r2.2 c10) r2.2] := H
    refine st (v := (Sl a9 r2.2 c10)) (rv_move rfl) ?_
    replace H := H.ownLow 0 0 0 rfl (Nat.le_refl _) (Nat.zero_le _)
    obtain ⟨σ47, hw48, H, -⟩ := H.pub 0 rfl (Nat.le_refl _)
    rw [← hw48]; clear hw48
    obtain ⟨r49, hx50, h'⟩ := bind_some h
    clear h
    have h := h'; clear h'
    have hc51 := c_impl_Distance (aa_1 := a44) (ca_1 := c45) (ab_2 := a9) (cb_2 := c10) hx50
    have hle := Nat.le_trans hn0 H.size
    refine st_call (cx_lend (Loan.same (Loan.lend Loan.nil)) hc51 (ent_f hc51.fn rfl) (show Hp S0 σ0 _ ([Ch.own n0 n0 (Sl a9 r2.2 c10) r2.2] ++ ([Ch.ro 0 (Sl a44 r41 c45) r41] ++ [Ch.ro 0 (Sl a44 r41 c45) r41, Ch.own n0 n0 (Sl a5 r2.1.1 c6) r2.1.1, Ch.own n0 n0 (Sl a7 r2.1.2 c8) r2.1.2, Ch.bx n0 b12 0 [(Sl a5 r2.1.1 c6), (Sl a7 r2.1.2 c8)] [] []])) from (H.sel' [4, 0, 0, 1, 2, 3] rfl rfl)) (by rintro _ _ _ ⟨rfl, rfl⟩; exact trivial)) wn ?_
    rintro _ σ52 ⟨_, ⟨rfl, rfl⟩, H, -, -⟩
    replace H : Hp S0 σ0 σ52 [Ch.own n0 n0 (Sl a9 r2.2 c10) r2.2, Ch.ro 0 (Sl a44 r41 c45) r41, Ch.own n0 n0 (Sl a5 r2.1.1 c6) r2.1.1, Ch.own n0 n0 (Sl a7 r2.1.2 c8) r2.1.2, Ch.bx n0 b12 0 [(Sl a5 r2.1.1 c6), (Sl a7 r2.1.2 c8)] [] []] := H
    clear hle
    replace H : Hp S0 σ0 σ52 [Ch.own n0 n0 (Sl a9 r2.2 c10) r2.2, Ch.ro 0 (Sl a44 r41 c45) r41, Ch.own n0 n0 (Sl a5 r2.1.1 c6) r2.1.1, Ch.own n0 n0 (Sl a7 r2.1.2 c8) r2.1.2, Ch.bx n0 b12 0 [(Sl a5 r2.1.1 c6), (Sl a7 r2.1.2 c8)] [] []] := H
    refine st (v := (I r49)) (rv_assign rfl) ?_
    refine w_end ?_
    refine q_then ?_
    refine c_seq ?_
    refine c_seq ?_
    refine rg ?_
    refine st (v := (I 0)) (rv_assign rfl) ?_
    refine w_end ?_
    refine q_then ?_
    obtain ⟨o53, hj, h'⟩ := bind_some h
    clear h
    refine c_cut (fun e a w => (∃ t, o53 = (.inl t) ∧ e = .normal ∧ ∃ (ρ : Nat → Value) (σ : St), a = fr 63 (updL ρ [(5, (I r16))]) ∧ w = σ.w ∧ Hp S0 σ0 σ []) ∨ (∃ t, o53 = (.inr t) ∧ e = .ret ∧ ∃ (ρ : Nat → Value) (σ : St), a = fr 63 (updL ρ [(2, (B t))]) ∧ w = σ.w ∧ Hp S0 σ0 σ [])) ?_ ?_
    ·clear h'
     rename _ = some o53 => h
     refine c_blk ?_
     refine wp_loopM _ h (fun s54 a w => ∃ (ρ : Nat → Value) (σ : St), a = fr 63 (updL ρ [(3, (pt b12 0)), (4, (Sl a9 r2.2 c10)), (5, (I r16)), (6, (I r49)), (7, (I s54))]) ∧ w = σ.w ∧ Hp S0 σ0 σ [Ch.own n0 n0 (Sl a5 r2.1.1 c6) r2.1.1, Ch.own n0 n0 (Sl a7 r2.1.2 c8) r2.1.2, Ch.bx n0 b12 0 [(Sl a5 r2.1.1 c6), (Sl a7 r2.1.2 c8)] [] [], Ch.own n0 n0 (Sl a9 r2.2 c10) r2.2]) ⟨_, σ52, fr_join ⟨rfl, rfl, rfl, rfl, rfl, trivial⟩, rfl, H.sel' [2, 3, 4, 0] rfl rfl⟩ ?_
     clear h H
     rintro s54 a w o ⟨ρ, σ55, rfl, rfl, H⟩ h hres
     refine c_seq ?_
     refine c_seq ?_
     refine rg ?_
     refine st (v := (I s54)) (rv_move rfl) ?_
     refine st (v := (B (decide (s54 < 16)))) (rv_lss (a := s54) (b := 16) rfl rfl) ?_
     refine w_end ?_
     refine q_then ?_
     refine cd_cond (decide (s54 < 16)) rfl (fun hb56 => ?_) (fun hb56 => ?_)
     ·replace h := bif_t hb56 h
      refine c_skip ?_
      refine q_then ?_
      refine c_seq ?_
      refine c_blk ?_
      refine c_seq ?_
      refine rg ?_
      have hc57 := H.cells 2 rfl
      refine st (v := (.agg #[(Sl a5 r2.1.1 c6), (Sl a7 r2.1.2 c8)])) (rv_load (cs := [(Sl a5 r2.1.1 c6), (Sl a7 r2.1.2 c8)]) Try.underlying25 rfl ti25 rfl rfl hc57) ?_
      refine st (v := (I s54)) (rv_move rfl) ?_
      obtain ⟨r58, hx59, h'⟩ := bind_some h
      clear h
      have h := h'; clear h'
      have hc60 := c_impl_DecodeVector (ab_0_0 := a5) (cb_0_0 := c6) (ab_0_1 := a7) (cb_0_1 := c8) hx59
      have hle := Nat.le_trans hn0 H.size
      refine st_call (cx_lend (Loan.lend (Loan.lend Loan.nil)) hc60 (ent_f hc60.fn rfl) (show Hp S0 σ0 _ ([Ch.own n0 n0 (Sl a5 r2.1.1 c6) r2.1.1, Ch.own n0 n0 (Sl a7 r2.1.2 c8) r2.1.2] ++ ([] ++ [Ch.bx n0 b12 0 [(Sl a5 r2.1.1 c6), (Sl a7 r2.1.2 c8)] [] [], Ch.own n0 n0 (Sl a9 r2.2 c10) r2.2])) from (H.sel' [0, 1, 2, 3] rfl rfl)) (by rintro _ _ _ ⟨_, _, rfl, rfl⟩; exact ⟨Ab.ownSc, trivial⟩)) wn ?_
      rintro _ σ63 ⟨_, ⟨a61, c62, rfl, rfl⟩, H, -, -⟩
      replace H : Hp S0 σ0 σ63 [Ch.own 0 σ55.size (Sl a61 r58 c62) r58, Ch.own n0 n0 (Sl a5 r2.1.1 c6) r2.1.1, Ch.own n0 n0 (Sl a7 r2.1.2 c8) r2.1.2, Ch.bx n0 b12 0 [(Sl a5 r2.1.1 c6), (Sl a7 r2.1.2 c8)] [] [], Ch.own n0 n0 (Sl a9 r2.2 c10) r2.2] := H
      replace H := H.ownLow 0 0 n0 rfl (Nat.le_refl _) hle
      clear hle
      replace H : Hp S0 σ0 σ63 [Ch.own 0 n0 (Sl a61 r58 c62) r58, Ch.own n0 n0 (Sl a5 r2.1.1 c6) r2.1.1, Ch.own n0 n0 (Sl a7 r2.1.2 c8) r2.1.2, Ch.bx n0 b12 0 [(Sl a5 r2.1.1 c6), (Sl a7 r2.1.2 c8)] [] [], Ch.own n0 n0 (Sl a9 r2.2 c10) r2.2] := H
      refine st (v := (Sl a9 r2.2 c10)) (rv_move rfl) ?_
      replace H := H.ownLow 0 0 0 rfl (Nat.le_refl _) (Nat.zero_le _)
      obtain ⟨σ64, hw65, H, -⟩ := H.pub 0 rfl (Nat.le_refl _)
      rw [← hw65]; clear hw65
      obtain ⟨r66, hx67, h'⟩ := bind_some h
      clear h
      have h := h'; clear h'
      have hc68 := c_impl_Distance (aa_1 := a61) (ca_1 := c62) (ab_2 := a9) (cb_2 := c10) hx67
      have hle := Nat.le_trans hn0 H.size
      refine st_call (cx_lend (Loan.same (Loan.lend Loan.nil)) hc68 (ent_f hc68.fn rfl) (show Hp S0 σ0 _ ([Ch.own n0 n0 (Sl a9 r2.2 c10) r2.2] ++ ([Ch.ro 0 (Sl a61 r58 c62) r58] ++ [Ch.ro 0 (Sl a61 r58 c62) r58, Ch.own n0 n0 (Sl a5 r2.1.1 c6) r2.1.1, Ch.own n0 n0 (Sl a7 r2.1.2 c8) r2.1.2, Ch.bx n0 b12 0 [(Sl a5 r2.1.1 c6), (Sl a7 r2.1.2 c8)] [] []])) from (H.sel' [4, 0, 0, 1, 2, 3] rfl rfl)) (by rintro _ _ _ ⟨rfl, rfl⟩; exact trivial)) wn ?_
      rintro _ σ69 ⟨_, ⟨rfl, rfl⟩, H, -, -⟩
      replace H : Hp S0 σ0 σ69 [Ch.own n0 n0 (Sl a9 r2.2 c10) r2.2, Ch.ro 0 (Sl a61 r58 c62) r58, Ch.own n0 n0 (Sl a5 r2.1.1 c6) r2.1.1, Ch.own n0 n0 (Sl a7 r2.1.2 c8) r2.1.2, Ch.bx n0 b12 0 [(Sl a5 r2.1.1 c6), (Sl a7 r2.1.2 c8)] [] []] := H
      clear hle
      replace H : Hp S0 σ0 σ69 [Ch.own n0 n0 (Sl a9 r2.2 c10) r2.2, Ch.ro 0 (Sl a61 r58 c62) r58, Ch.own n0 n0 (Sl a5 r2.1.1 c6) r2.1.1, Ch.own n0 n0 (Sl a7 r2.1.2 c8) r2.1.2, Ch.bx n0 b12 0 [(Sl a5 r2.1.1 c6), (Sl a7 r2.1.2 c8)] [] []] := H
      refine st (v := (I r66)) (rv_assign rfl) ?_
      refine w_end ?_
      refine q_then ?_
      refine c_seq ?_
      obtain ⟨o70, hj, h'⟩ := bind_some h
      clear h
      refine c_cut (fun e a w => e = .normal ∧ ∃ (ρ : Nat → Value) (σ : St), a = fr 63 (updL ρ [(3, (pt b12 0)), (4, (Sl a9 r2.2 c10)), (5, (I r16)), (6, (I r49)), (7, (I s54)), (60, (B o70))]) ∧ w = σ.w ∧ Hp S0 σ0 σ [Ch.own n0 n0 (Sl a5 r2.1.1 c6) r2.1.1, Ch.own n0 n0 (Sl a7 r2.1.2 c8) r2.1.2, Ch.bx n0 b12 0 [(Sl a5 r2.1.1 c6), (Sl a7 r2.1.2 c8)] [] [], Ch.own n0 n0 (Sl a9 r2.2 c10) r2.2]) ?_ ?_
      ·clear h'
       rename _ = some o70 => h
       refine rg ?_
       refine st (v := (I r66)) (rv_move rfl) ?_
       refine st (v := (I r49)) (rv_move rfl) ?_
       refine st (v := (B (decide (r66 < r49)))) (rv_lss (a := r66) (b := r49) rfl rfl) ?_
       refine st (v := (B (decide (r66 < r49)))) (rv_move rfl) ?_
       rcases Bool.eq_false_or_eq_true (decide (r66 < r49)) with hb71 | hb71
       ·replace h := bif_t hb71 h
        refine st_skip (congrArg some hb71) ?_
        refine st_skip (congrArg some hb71) ?_
        refine st_skip (congrArg some hb71) ?_
        refine st_skip (congrArg some hb71) ?_
        refine st_skip_u rfl ?_
        refine st_skip_u rfl ?_
        refine st_skip_u rfl ?_
        refine st_skip (congrArg some hb71) ?_
        refine st (v := (B true)) (rv_pick_t (congrArg B hb71) rfl) ?_
        refine w_end ?_
        obtain rfl := Option.some.inj h
        exact ⟨rfl, _, σ69, fr_join ⟨rfl, rfl, rfl, rfl, rfl, rfl, trivial⟩, rfl, H.sel' [2, 3, 4, 0] rfl rfl⟩
       ·replace h := bif_f hb71 h
        refine st_g (v := (I r66)) (congrArg some hb71) (rv_move rfl) ?_
        refine st_g (v := (I r49)) (congrArg some hb71) (rv_move rfl) ?_
        refine st_g (v := (B (r66 == r49))) (congrArg some hb71) (rv_eql (a := r66) (b := r49) rfl rfl) ?_
        refine st_g (v := (B (r66 == r49))) (congrArg some hb71) (rv_move rfl) ?_
        rcases Bool.eq_false_or_eq_true (r66 == r49) with hb72 | hb72
        ·replace h := bif_t hb72 h
         refine st_g (v := (I s54)) (congrArg some hb72) (rv_move rfl) ?_
         refine st_g (v := (I r16)) (congrArg some hb72) (rv_move rfl) ?_
         refine st_g (v := (B (decide (s54 < r16)))) (congrArg some hb72) (rv_lss (a := s54) (b := r16) rfl rfl) ?_
         refine st_g (v := (B (decide (s54 < r16)))) (congrArg some hb71) (rv_pick_t (congrArg B hb72) rfl) ?_
         refine st (v := (B (decide (s54 < r16)))) (rv_pick_f (congrArg B hb71) rfl) ?_
         refine w_end ?_
         obtain rfl := Option.some.inj h
         exact ⟨rfl, _, σ69, fr_join ⟨rfl, rfl, rfl, rfl, rfl, rfl, trivial⟩, rfl, H.sel' [2, 3, 4, 0] rfl rfl⟩
        ·replace h := bif_f hb72 h
         refine st_skip (congrArg some hb72) ?_
         refine st_skip (congrArg some hb72) ?_
         refine st_skip (congrArg some hb72) ?_
         refine st_g (v := (B false)) (congrArg some hb71) (rv_pick_f (congrArg B hb72) rfl) ?_
         refine st (v := (B false)) (rv_pick_f (congrArg B hb71) rfl) ?_
         refine w_end ?_
         obtain rfl := Option.some.inj h
         exact ⟨rfl, _, σ69, fr_join ⟨rfl, rfl, rfl, rfl, rfl, rfl, trivial⟩, rfl, H.sel' [2, 3, 4, 0] rfl rfl⟩
      ·clear hj
       have h := h'
       clear h' H
       rintro e a w ⟨rfl, ρ, σ73, rfl, rfl, H⟩
       refine q_then ?_
       refine cd_cond o70 rfl (fun hb74 => ?_) (fun hb74 => ?_)
       ·replace h := bif_t hb74 h
        refine c_seq ?_
        refine rg ?_
        refine st (v := (B false)) (rv_assign rfl) ?_
        refine w_end ?_
        refine q_then ?_
        refine c_ret ?_
        refine q_blk_r ?_
        refine q_then_r ?_
        refine q_then_r ?_
        refine q_blk_r ?_
        obtain rfl := Option.some.inj h
        obtain rfl := hres _ rfl
        exact .inr (⟨_, rfl, rfl, _, σ73, fr_join ⟨rfl, trivial⟩, rfl, H.sel' [] rfl rfl⟩)
       ·replace h := bif_f hb74 h
        refine c_skip ?_
        refine q_blk ?_
        refine q_then ?_
        refine rg ?_
        refine st (v := (I s54)) (rv_move rfl) ?_
        refine st (v := (I (w64 (s54 + 1)))) (rv_add (a := s54) (b := 1) rfl rfl) ?_
        refine st (v := (I (w64 (s54 + 1)))) (rv_assign rfl) ?_
        refine w_end ?_
        refine q_then ?_
        obtain rfl := Option.some.inj h
        exact ⟨_, rfl, _, σ73, fr_join ⟨rfl, rfl, rfl, rfl, rfl, trivial⟩, rfl, H.sel' [0, 1, 2, 3] rfl rfl⟩
     ·replace h := bif_f hb56 h
      refine c_exit ?_
      refine q_then_x ?_
      refine q_then_x ?_
      refine q_blk_hit ?_
      obtain rfl := Option.some.inj h
      obtain rfl := hres _ rfl
      exact .inl ⟨_, rfl, rfl, _, σ55, fr_join ⟨rfl, trivial⟩, rfl, H.sel' [] rfl rfl⟩
    ·clear hj
     have h := h'
     clear h' H
     rintro e a w (⟨t75, rfl, rfl, ρ, σ76, rfl, rfl, H⟩ | ⟨t77, rfl, rfl, ρ, σ78, rfl, rfl, H⟩)
     ·replace h := selim_l h
      refine q_then ?_
      refine c_seq ?_
      refine rg ?_
      refine st (v := (I r16)) (rv_move rfl) ?_
      refine st (v := (B (decide (r16 < 16)))) (rv_lss (a := r16) (b := 16) rfl rfl) ?_
      refine st (v := (B (decide (r16 < 16)))) (rv_assign rfl) ?_
      refine w_end ?_
      refine q_then ?_
      refine c_ret ?_
      obtain rfl := Option.some.inj h
      exact fin_ret (v := (B (decide (r16 < 16)))) (results_ok Try.results4 (res_tmp (v := (B (decide (r16 < 16)))) rfl res_nil) rfl) ⟨rfl, rfl⟩ (H.sel' [] rfl rfl)
     ·replace h := selim_r h
      refine q_then_r ?_
      obtain rfl := Option.some.inj h
      exact fin_ret (v := (B t77)) (results_ok Try.results4 (res_tmp (v := (B t77)) rfl res_nil) rfl) ⟨rfl, rfl⟩ (H.sel' [] rfl rfl)

end Go.Vs
