/- The functions compute what their models say. -/
import Derived.Test.YtfcemgcmpcmgcaaKChangedKeysC6
set_option linter.unusedVariables false
set_option linter.unusedSimpArgs false
set_option maxRecDepth 20000
namespace Go.Vs
open Go Go.Proofs
attribute [local irreducible] Code.wp Code.wpIn wpList wpListIn wpQuiet Calls CallsIn

theorem c_laws_FnChangedKeys {code_0 : List UInt8} {acode_0 : Option Addr} {ccode_0 : Nat} {r : Bool} (h : M.laws_FnChangedKeys code_0 = some r) :
    Cal2 Try.prog 10 [(Sl acode_0 code_0 ccode_0)] [Ch.ro 0 (Sl acode_0 code_0 ccode_0) code_0] (fun n0 v L => v = (B r) ∧ L = []) := by
 refine cal2 (n := 81) Try.func10 rfl rfl rfl rfl ?_
 intro S0 σ0 n0 hn0 H
 unfold M.laws_FnChangedKeys at h
 refine c_seq ?_
 refine rg ?_
 refine st (v := (B false)) (rv_assign rfl) ?_
 refine w_end ?_
 refine q_then ?_
 refine c_seq ?_
 refine c_seq ?_
 refine rg ?_
 refine st (v := (Sl acode_0 code_0 ccode_0)) (rv_move rfl) ?_
 refine st (v := (I (code_0.length : Int))) (rv_len Try.underlying22 rfl) ?_
 refine st (v := (B (decide (1048576 < (code_0.length : Int))))) (rv_gtr (a := (code_0.length : Int)) (b := 1048576) rfl rfl) ?_
 refine w_end ?_
 refine q_then ?_
 refine cd_cond (decide (1048576 < (code_0.length : Int))) rfl (fun hb1 => ?_) (fun hb1 => ?_)
 ·replace h := bif_t hb1 h
  refine c_seq ?_
  refine rg ?_
  refine st (v := (B true)) (rv_assign rfl) ?_
  refine w_end ?_
  refine q_then ?_
  refine c_ret ?_
  refine q_then_r ?_
  obtain rfl := Option.some.inj h
  exact fin_ret (v := (B true)) (results_ok Try.results10 (res_tmp (v := (B true)) rfl res_nil) rfl) ⟨rfl, rfl⟩ (H.sel' [] rfl rfl)
 ·replace h := bif_f hb1 h
  refine c_skip ?_
  refine q_then ?_
  refine c_seq ?_
  refine rg ?_
  refine st (v := (Sl acode_0 code_0 ccode_0)) (rv_move rfl) ?_
  obtain ⟨r2, hx3, h'⟩ := bind_some h
  clear h
  have h := h'; clear h'
  have hc4 := c_spec_DrawChangedKeys (acode_0 := acode_0) (ccode_0 := ccode_0) hx3
  refine st_call (cx_call hc4 (ent_f hc4.fn rfl) hn0 (show Hp S0 σ0 _ ([Ch.ro 0 (Sl acode_0 code_0 ccode_0) code_0] ++ [Ch.ro 0 (Sl acode_0 code_0 ccode_0) code_0]) from (H.sel' [0, 0] rfl rfl))) wn ?_
  rintro _ σ9 ⟨_, ⟨a5, c6, a7, c8, rfl, rfl⟩, H, -⟩
  replace H : Hp S0 σ0 σ9 [Ch.ro n0 (Sl a5 r2.1.1 c6) r2.1.1, Ch.ro n0 (Sl a7 r2.1.2 c8) r2.1.2, Ch.ro 0 (Sl acode_0 code_0 ccode_0) code_0] := H
  refine st (v := (.tuple #[(.agg #[(Sl a5 r2.1.1 c6), (Sl a7 r2.1.2 c8)]), (I r2.2.1), (I r2.2.2)])) (rv_move rfl) ?_
  refine st (v := (.agg #[(Sl a5 r2.1.1 c6), (Sl a7 r2.1.2 c8)])) (rv_extract rfl rfl) ?_
  refine st (v := (I r2.2.1)) (rv_extract rfl rfl) ?_
  refine st (v := (I r2.2.2)) (rv_extract rfl rfl) ?_
  refine st_ex (ex_alloc (cs := [(.slice none 0 0), (.slice none 0 0)]) H hn0 ti26 rfl) wn ?_
  rintro _ σ11 ⟨b10, rfl, H, -⟩
  refine st_exS (ex_store_box (k := 0) (cs := [(.slice none 0 0), (.slice none 0 0)]) (vs := [(Sl a5 r2.1.1 c6), (Sl a7 r2.1.2 c8)]) (cs' := [(Sl a5 r2.1.1 c6), (Sl a7 r2.1.2 c8)]) H (i := 0) rfl ti26 rfl rfl rfl rfl rfl (Nat.le_of_ble_eq_true rfl) (by simp [plain]) rfl) wn ?_
  rintro σ12 ⟨H, -⟩
  refine st (v := (I r2.2.1)) (rv_assign rfl) ?_
  refine st (v := (I r2.2.2)) (rv_assign rfl) ?_
  refine w_end ?_
  refine q_then ?_
  refine c_seq ?_
  refine rg ?_
  have hc13 := H.cells 0 rfl
  refine st (v := (.agg #[(Sl a5 r2.1.1 c6), (Sl a7 r2.1.2 c8)])) (rv_load (cs := [(Sl a5 r2.1.1 c6), (Sl a7 r2.1.2 c8)]) Try.underlying26 rfl ti26 rfl rfl hc13) ?_
  refine st (v := (I r2.2.1)) (rv_move rfl) ?_
  refine st (v := (I r2.2.2)) (rv_move rfl) ?_
  replace H := H.roLow 1 0 rfl (Nat.zero_le _)
  replace H := H.roLow 3 0 rfl (Nat.zero_le _)
  obtain ⟨r14, hx15, h'⟩ := bind_some h
  clear h
  have h := h'; clear h'
  have hc16 := c_impl_ChangedKeys (ah_0_0 := a5) (ch_0_0 := c6) (ah_0_1 := a7) (ch_0_1 := c8) hx15
  refine st_call (cx_call hc16 (ent_f hc16.fn rfl) hn0 (show Hp S0 σ0 _ ([Ch.ro 0 (Sl a5 r2.1.1 c6) r2.1.1, Ch.ro 0 (Sl a7 r2.1.2 c8) r2.1.2] ++ [Ch.ro 0 (Sl a7 r2.1.2 c8) r2.1.2, Ch.ro 0 (Sl a5 r2.1.1 c6) r2.1.1, Ch.bx n0 b10 0 [(Sl a5 r2.1.1 c6), (Sl a7 r2.1.2 c8)] [] [], Ch.ro n0 (Sl a5 r2.1.1 c6) r2.1.1, Ch.ro n0 (Sl a7 r2.1.2 c8) r2.1.2, Ch.ro 0 (Sl acode_0 code_0 ccode_0) code_0]) from (H.sel' [1, 0, 0, 1, 2, 3, 4, 5] rfl rfl))) wn ?_
  rintro _ σ19 ⟨_, ⟨a17, c18, rfl, rfl⟩, H, -⟩
  replace H : Hp S0 σ0 σ19 [Ch.own 0 n0 (Sl a17 r14 c18) r14, Ch.ro 0 (Sl a7 r2.1.2 c8) r2.1.2, Ch.ro 0 (Sl a5 r2.1.1 c6) r2.1.1, Ch.bx n0 b10 0 [(Sl a5 r2.1.1 c6), (Sl a7 r2.1.2 c8)] [] [], Ch.ro n0 (Sl a5 r2.1.1 c6) r2.1.1, Ch.ro n0 (Sl a7 r2.1.2 c8) r2.1.2, Ch.ro 0 (Sl acode_0 code_0 ccode_0) code_0] := H
  refine st (v := (Sl a17 r14 c18)) (rv_assign rfl) ?_
  refine w_end ?_
  refine q_then ?_
  refine c_seq ?_
  refine c_seq ?_
  obtain ⟨o20, hj, h'⟩ := bind_some h
  clear h
  refine c_cut (fun e a w => e = .normal ∧ ∃ (ρ : Nat → Value) (σ : St), a = fr 81 (updL ρ [(3, (pt b10 0)), (4, (I r2.2.1)), (5, (I r2.2.2)), (6, (Sl a17 r14 c18)), (36, (B o20))]) ∧ w = σ.w ∧ Hp S0 σ0 σ [Ch.ro n0 (Sl a5 r2.1.1 c6) r2.1.1, Ch.ro n0 (Sl a7 r2.1.2 c8) r2.1.2, Ch.bx n0 b10 0 [(Sl a5 r2.1.1 c6), (Sl a7 r2.1.2 c8)] [] [], Ch.own 0 n0 (Sl a17 r14 c18) r14]) ?_ ?_
  ·clear h'
   rename _ = some o20 => h
   refine rg ?_
   refine st (v := (Sl a17 r14 c18)) (rv_move rfl) ?_
   have hc21 := H.cells 3 rfl
   refine st (v := (.agg #[(Sl a5 r2.1.1 c6), (Sl a7 r2.1.2 c8)])) (rv_load (cs := [(Sl a5 r2.1.1 c6), (Sl a7 r2.1.2 c8)]) Try.underlying26 rfl ti26 rfl rfl hc21) ?_
   refine st (v := (I r2.2.1)) (rv_move rfl) ?_
   refine st (v := (I r2.2.2)) (rv_move rfl) ?_
   replace H := H.roLow 4 0 rfl (Nat.zero_le _)
   replace H := H.roLow 6 0 rfl (Nat.zero_le _)
   obtain ⟨r22, hx23, h'⟩ := bind_some h
   clear h
   have h := h'; clear h'
   have hc24 := c_spec_ChangedKeys (ah_0_0 := a5) (ch_0_0 := c6) (ah_0_1 := a7) (ch_0_1 := c8) hx23
   refine st_call (cx_call hc24 (ent_f hc24.fn rfl) hn0 (show Hp S0 σ0 _ ([Ch.ro 0 (Sl a5 r2.1.1 c6) r2.1.1, Ch.ro 0 (Sl a7 r2.1.2 c8) r2.1.2] ++ [Ch.ro 0 (Sl a7 r2.1.2 c8) r2.1.2, Ch.ro 0 (Sl a5 r2.1.1 c6) r2.1.1, Ch.own 0 n0 (Sl a17 r14 c18) r14, Ch.ro 0 (Sl a7 r2.1.2 c8) r2.1.2, Ch.ro 0 (Sl a5 r2.1.1 c6) r2.1.1, Ch.bx n0 b10 0 [(Sl a5 r2.1.1 c6), (Sl a7 r2.1.2 c8)] [] [], Ch.ro n0 (Sl a5 r2.1.1 c6) r2.1.1, Ch.ro n0 (Sl a7 r2.1.2 c8) r2.1.2, Ch.ro 0 (Sl acode_0 code_0 ccode_0) code_0]) from (H.sel' [1, 0, 0, 1, 2, 3, 4, 5, 6, 7, 8] rfl rfl))) wn ?_
   rintro _ σ27 ⟨_, ⟨a25, c26, rfl, rfl⟩, H, -⟩
   replace H : Hp S0 σ0 σ27 [Ch.own n0 n0 (Sl a25 r22 c26) r22, Ch.ro 0 (Sl a7 r2.1.2 c8) r2.1.2, Ch.ro 0 (Sl a5 r2.1.1 c6) r2.1.1, Ch.own 0 n0 (Sl a17 r14 c18) r14, Ch.ro 0 (Sl a7 r2.1.2 c8) r2.1.2, Ch.ro 0 (Sl a5 r2.1.1 c6) r2.1.1, Ch.bx n0 b10 0 [(Sl a5 r2.1.1 c6), (Sl a7 r2.1.2 c8)] [] [], Ch.ro n0 (Sl a5 r2.1.1 c6) r2.1.1, Ch.ro n0 (Sl a7 r2.1.2 c8) r2.1.2, Ch.ro 0 (Sl acode_0 code_0 ccode_0) code_0] := H
   replace H : Hp S0 σ0 σ27 [Ch.own n0 n0 (Sl a25 r22 c26) r22, Ch.own 0 n0 (Sl a17 r14 c18) r14, Ch.bx n0 b10 0 [(Sl a5 r2.1.1 c6), (Sl a7 r2.1.2 c8)] [] [], Ch.ro n0 (Sl a5 r2.1.1 c6) r2.1.1, Ch.ro n0 (Sl a7 r2.1.2 c8) r2.1.2] := H.sel' [0, 3, 6, 7, 8] rfl rfl
   obtain ⟨σ28, hw29, H, -⟩ := H.pub 0 rfl (Nat.le_refl _)
   rw [← hw29]; clear hw29
   replace H := H.roLow 0 0 rfl (Nat.zero_le _)
   obtain ⟨r30, hx31, h'⟩ := bind_some h
   clear h
   have h := h'; clear h'
   have hc32 := c_laws_equalInts (aa_0 := a17) (ca_0 := c18) (ab_1 := a25) (cb_1 := c26) hx31
   have hle := Nat.le_trans hn0 H.size
   refine st_call (cx_lend (Loan.lend (Loan.same Loan.nil)) hc32 (ent_f hc32.fn rfl) (show Hp S0 σ0 _ ([Ch.own 0 n0 (Sl a17 r14 c18) r14] ++ ([Ch.ro 0 (Sl a25 r22 c26) r22] ++ [Ch.ro 0 (Sl a25 r22 c26) r22, Ch.ro n0 (Sl a25 r22 c26) r22, Ch.bx n0 b10 0 [(Sl a5 r2.1.1 c6), (Sl a7 r2.1.2 c8)] [] [], Ch.ro n0 (Sl a5 r2.1.1 c6) r2.1.1, Ch.ro n0 (Sl a7 r2.1.2 c8) r2.1.2])) from (H.sel' [2, 0, 0, 1, 3, 4, 5] rfl rfl)) (by rintro _ _ _ ⟨rfl, rfl⟩; exact trivial)) wn ?_
   rintro _ σ33 ⟨_, ⟨rfl, rfl⟩, H, -, -⟩
   replace H : Hp S0 σ0 σ33 [Ch.own 0 n0 (Sl a17 r14 c18) r14, Ch.ro 0 (Sl a25 r22 c26) r22, Ch.ro n0 (Sl a25 r22 c26) r22, Ch.bx n0 b10 0 [(Sl a5 r2.1.1 c6), (Sl a7 r2.1.2 c8)] [] [], Ch.ro n0 (Sl a5 r2.1.1 c6) r2.1.1, Ch.ro n0 (Sl a7 r2.1.2 c8) r2.1.2] := H
   clear hle
   replace H : Hp S0 σ0 σ33 [Ch.own 0 n0 (Sl a17 r14 c18) r14, Ch.ro 0 (Sl a25 r22 c26) r22, Ch.ro n0 (Sl a25 r22 c26) r22, Ch.bx n0 b10 0 [(Sl a5 r2.1.1 c6), (Sl a7 r2.1.2 c8)] [] [], Ch.ro n0 (Sl a5 r2.1.1 c6) r2.1.1, Ch.ro n0 (Sl a7 r2.1.2 c8) r2.1.2] := H
   refine st (v := (B (!r30))) (rv_not rfl) ?_
   refine st (v := (B (!r30))) (rv_move rfl) ?_
   rcases Bool.eq_false_or_eq_true (!r30) with hb34 | hb34
   ·replace h := bif_t hb34 h
    refine st_skip (congrArg some hb34) ?_
    refine st_skip (congrArg some hb34) ?_
    refine st_skip (congrArg some hb34) ?_
    refine st (v := (B true)) (rv_pick_t (congrArg B hb34) rfl) ?_
    refine w_end ?_
    obtain rfl := Option.some.inj h
    exact ⟨rfl, _, σ33, fr_join ⟨rfl, rfl, rfl, rfl, rfl, trivial⟩, rfl, H.sel' [4, 5, 3, 0] rfl rfl⟩
   ·replace h := bif_f hb34 h
    refine st_g (v := (Sl a17 r14 c18)) (congrArg some hb34) (rv_move rfl) ?_
    refine st_g (v := (I (r14.length : Int))) (congrArg some hb34) (rv_len Try.underlying24 rfl) ?_
    refine st_g (v := (B ((r14.length : Int) == 0))) (congrArg some hb34) (rv_eql (a := (r14.length : Int)) (b := 0) rfl rfl) ?_
    refine st (v := (B ((r14.length : Int) == 0))) (rv_pick_f (congrArg B hb34) rfl) ?_
    refine w_end ?_
    obtain rfl := Option.some.inj h
    exact ⟨rfl, _, σ33, fr_join ⟨rfl, rfl, rfl, rfl, rfl, trivial⟩, rfl, H.sel' [4, 5, 3, 0] rfl rfl⟩
  ·clear hj
   have h := h'
   clear h' H
   rintro e a w ⟨rfl, ρ, σ35, rfl, rfl, H⟩
   refine q_then ?_
   refine cd_cond o20 rfl (fun hb36 => ?_) (fun hb36 => ?_)
   ·replace h := bif_t hb36 h
    refine c_seq ?_
    refine rg ?_
    refine st (v := (Sl a17 r14 c18)) (rv_move rfl) ?_
    have hc37 := H.cells 2 rfl
    refine st (v := (.agg #[(Sl a5 r2.1.1 c6), (Sl a7 r2.1.2 c8)])) (rv_load (cs := [(Sl a5 r2.1.1 c6), (Sl a7 r2.1.2 c8)]) Try.underlying26 rfl ti26 rfl rfl hc37) ?_
    refine st (v := (I r2.2.1)) (rv_move rfl) ?_
    refine st (v := (I r2.2.2)) (rv_move rfl) ?_
    replace H := H.roLow 0 0 rfl (Nat.zero_le _)
    replace H := H.roLow 2 0 rfl (Nat.zero_le _)
    obtain ⟨r38, hx39, h'⟩ := bind_some h
    clear h
    have h := h'; clear h'
    have hc40 := c_spec_ChangedKeys (ah_0_0 := a5) (ch_0_0 := c6) (ah_0_1 := a7) (ch_0_1 := c8) hx39
    refine st_call (cx_call hc40 (ent_f hc40.fn rfl) hn0 (show Hp S0 σ0 _ ([Ch.ro 0 (Sl a5 r2.1.1 c6) r2.1.1, Ch.ro 0 (Sl a7 r2.1.2 c8) r2.1.2] ++ [Ch.ro 0 (Sl a7 r2.1.2 c8) r2.1.2, Ch.ro 0 (Sl a5 r2.1.1 c6) r2.1.1, Ch.ro n0 (Sl a5 r2.1.1 c6) r2.1.1, Ch.ro n0 (Sl a7 r2.1.2 c8) r2.1.2, Ch.bx n0 b10 0 [(Sl a5 r2.1.1 c6), (Sl a7 r2.1.2 c8)] [] [], Ch.own 0 n0 (Sl a17 r14 c18) r14]) from (H.sel' [1, 0, 0, 1, 2, 3, 4, 5] rfl rfl))) wn ?_
    rintro _ σ43 ⟨_, ⟨a41, c42, rfl, rfl⟩, H, -⟩
    replace H : Hp S0 σ0 σ43 [Ch.own n0 n0 (Sl a41 r38 c42) r38, Ch.ro 0 (Sl a7 r2.1.2 c8) r2.1.2, Ch.ro 0 (Sl a5 r2.1.1 c6) r2.1.1, Ch.ro n0 (Sl a5 r2.1.1 c6) r2.1.1, Ch.ro n0 (Sl a7 r2.1.2 c8) r2.1.2, Ch.bx n0 b10 0 [(Sl a5 r2.1.1 c6), (Sl a7 r2.1.2 c8)] [] [], Ch.own 0 n0 (Sl a17 r14 c18) r14] := H
    replace H := H.ownLow 6 0 0 rfl (Nat.le_refl _) (Nat.zero_le _)
    obtain ⟨σ44, hw45, H, -⟩ := H.pub 0 rfl (Nat.le_refl _)
    rw [← hw45]; clear hw45
    obtain ⟨σ46, hw47, H, -⟩ := H.pub 1 rfl (Nat.le_refl _)
    rw [← hw47]; clear hw47
    replace H := H.roLow 0 0 rfl (Nat.zero_le _)
    obtain ⟨r48, hx49, h'⟩ := bind_some h
    clear h
    have h := h'; clear h'
    have hc50 := c_laws_equalInts (aa_0 := a17) (ca_0 := c18) (ab_1 := a41) (cb_1 := c42) hx49
    refine st_call (cx_call hc50 (ent_f hc50.fn rfl) hn0 (show Hp S0 σ0 _ ([Ch.ro 0 (Sl a17 r14 c18) r14, Ch.ro 0 (Sl a41 r38 c42) r38] ++ [Ch.ro 0 (Sl a41 r38 c42) r38, Ch.ro n0 (Sl a41 r38 c42) r38, Ch.ro 0 (Sl a17 r14 c18) r14, Ch.ro 0 (Sl a7 r2.1.2 c8) r2.1.2, Ch.ro 0 (Sl a5 r2.1.1 c6) r2.1.1, Ch.ro n0 (Sl a5 r2.1.1 c6) r2.1.1, Ch.ro n0 (Sl a7 r2.1.2 c8) r2.1.2, Ch.bx n0 b10 0 [(Sl a5 r2.1.1 c6), (Sl a7 r2.1.2 c8)] [] []]) from (H.sel' [2, 0, 0, 1, 2, 3, 4, 5, 6, 7] rfl rfl))) wn ?_
    rintro _ σ51 ⟨_, ⟨rfl, rfl⟩, H, -⟩
    replace H : Hp S0 σ0 σ51 [Ch.ro 0 (Sl a41 r38 c42) r38, Ch.ro n0 (Sl a41 r38 c42) r38, Ch.ro 0 (Sl a17 r14 c18) r14, Ch.ro 0 (Sl a7 r2.1.2 c8) r2.1.2, Ch.ro 0 (Sl a5 r2.1.1 c6) r2.1.1, Ch.ro n0 (Sl a5 r2.1.1 c6) r2.1.1, Ch.ro n0 (Sl a7 r2.1.2 c8) r2.1.2, Ch.bx n0 b10 0 [(Sl a5 r2.1.1 c6), (Sl a7 r2.1.2 c8)] [] []] := H
    replace H : Hp S0 σ0 σ51 [] := H.sel' [] rfl rfl
    refine st (v := (B r48)) (rv_assign rfl) ?_
    refine w_end ?_
    refine q_then ?_
    refine c_ret ?_
    refine q_then_r ?_
    obtain rfl := Option.some.inj h
    exact fin_ret (v := (B r48)) (results_ok Try.results10 (res_tmp (v := (B r48)) rfl res_nil) rfl) ⟨rfl, rfl⟩ (H.sel' [] rfl rfl)
   ·replace h := bif_f hb36 h
    refine c_skip ?_
    refine q_then ?_
    refine c_seq ?_
    refine c_seq ?_
    refine rg ?_
    refine st (v := (I 1)) (rv_assign rfl) ?_
    refine w_end ?_
    refine q_then ?_
    obtain ⟨o52, hj, h'⟩ := bind_some h
    clear h
    refine c_cut (fun e a w => (∃ t, o52 = (.inl t) ∧ e = .normal ∧ ∃ (ρ : Nat → Value) (σ : St), a = fr 81 (updL ρ [(3, (pt b10 0)), (4, (I r2.2.1)), (5, (I r2.2.2)), (6, (Sl a17 r14 c18))]) ∧ w = σ.w ∧ Hp S0 σ0 σ [Ch.ro n0 (Sl a5 r2.1.1 c6) r2.1.1, Ch.ro n0 (Sl a7 r2.1.2 c8) r2.1.2, Ch.bx n0 b10 0 [(Sl a5 r2.1.1 c6), (Sl a7 r2.1.2 c8)] [] [], Ch.own 0 n0 (Sl a17 r14 c18) r14]) ∨ (∃ t, o52 = (.inr t) ∧ e = .ret ∧ ∃ (ρ : Nat → Value) (σ : St), a = fr 81 (updL ρ [(2, (B t))]) ∧ w = σ.w ∧ Hp S0 σ0 σ [])) ?_ ?_
    ·clear h'
     rename _ = some o52 => h
     refine c_blk ?_
     refine wp_loopM _ h (fun s53 a w => ∃ (ρ : Nat → Value) (σ : St), a = fr 81 (updL ρ [(3, (pt b10 0)), (4, (I r2.2.1)), (5, (I r2.2.2)), (6, (Sl a17 r14 c18)), (7, (I s53))]) ∧ w = σ.w ∧ Hp S0 σ0 σ [Ch.ro n0 (Sl a5 r2.1.1 c6) r2.1.1, Ch.ro n0 (Sl a7 r2.1.2 c8) r2.1.2, Ch.bx n0 b10 0 [(Sl a5 r2.1.1 c6), (Sl a7 r2.1.2 c8)] [] [], Ch.own 0 n0 (Sl a17 r14 c18) r14]) ⟨_, σ35, fr_join ⟨rfl, rfl, rfl, rfl, rfl, trivial⟩, rfl, H.sel' [0, 1, 2, 3] rfl rfl⟩ ?_
     clear h H
     rintro s53 a w o ⟨ρ, σ54, rfl, rfl, H⟩ h hres
     refine c_seq ?_
     refine c_seq ?_
     refine rg ?_
     refine st (v := (I s53)) (rv_move rfl) ?_
     refine st (v := (B (decide (s53 ≤ 99)))) (rv_leq (a := s53) (b := 99) rfl rfl) ?_
     refine w_end ?_
     refine q_then ?_
     refine cd_cond (decide (s53 ≤ 99)) rfl (fun hb55 => ?_) (fun hb55 => ?_)
     ·replace h := bif_t hb55 h
      refine c_skip ?_
      refine q_then ?_
      refine c_seq ?_
      refine c_blk ?_
      refine c_seq ?_
      refine rg ?_
      have hc56 := H.cells 2 rfl
      refine st (v := (.agg #[(Sl a5 r2.1.1 c6), (Sl a7 r2.1.2 c8)])) (rv_load (cs := [(Sl a5 r2.1.1 c6), (Sl a7 r2.1.2 c8)]) Try.underlying26 rfl ti26 rfl rfl hc56) ?_
      refine st (v := (I r2.2.1)) (rv_move rfl) ?_
      replace H := H.roLow 0 0 rfl (Nat.zero_le _)
      replace H := H.roLow 2 0 rfl (Nat.zero_le _)
      obtain ⟨r57, hx58, h'⟩ := bind_some h
      clear h
      have h := h'; clear h'
      have hc59 := c_impl_StoreAt (ah_0_0 := a5) (ch_0_0 := c6) (ah_0_1 := a7) (ch_0_1 := c8) hx58
      refine st_call (cx_call hc59 (ent_f hc59.fn rfl) hn0 (show Hp S0 σ0 _ ([Ch.ro 0 (Sl a5 r2.1.1 c6) r2.1.1, Ch.ro 0 (Sl a7 r2.1.2 c8) r2.1.2] ++ [Ch.ro 0 (Sl a7 r2.1.2 c8) r2.1.2, Ch.ro 0 (Sl a5 r2.1.1 c6) r2.1.1, Ch.ro n0 (Sl a5 r2.1.1 c6) r2.1.1, Ch.ro n0 (Sl a7 r2.1.2 c8) r2.1.2, Ch.bx n0 b10 0 [(Sl a5 r2.1.1 c6), (Sl a7 r2.1.2 c8)] [] [], Ch.own 0 n0 (Sl a17 r14 c18) r14]) from (H.sel' [1, 0, 0, 1, 2, 3, 4, 5] rfl rfl))) wn ?_
      rintro _ σ62 ⟨_, ⟨a60, c61, rfl, rfl⟩, H, -⟩
      replace H : Hp S0 σ0 σ62 [Ch.own 0 0 (Sl a60 r57 c61) r57, Ch.ro 0 (Sl a7 r2.1.2 c8) r2.1.2, Ch.ro 0 (Sl a5 r2.1.1 c6) r2.1.1, Ch.ro n0 (Sl a5 r2.1.1 c6) r2.1.1, Ch.ro n0 (Sl a7 r2.1.2 c8) r2.1.2, Ch.bx n0 b10 0 [(Sl a5 r2.1.1 c6), (Sl a7 r2.1.2 c8)] [] [], Ch.own 0 n0 (Sl a17 r14 c18) r14] := H
      refine st (v := (I s53)) (rv_move rfl) ?_
      obtain ⟨σ63, hw64, H, -⟩ := H.pub 0 rfl (Nat.le_refl _)
      rw [← hw64]; clear hw64
      obtain ⟨r65, hx66, h'⟩ := bind_some h
      clear h
      have h := h'; clear h'
      have hc67 := c_impl_GetItem (alist_0 := a60) (clist_0 := c61) hx66
      refine st_call (cx_call hc67 (ent_f hc67.fn rfl) hn0 (show Hp S0 σ0 _ ([Ch.ro 0 (Sl a60 r57 c61) r57] ++ [Ch.ro 0 (Sl a60 r57 c61) r57, Ch.ro 0 (Sl a7 r2.1.2 c8) r2.1.2, Ch.ro 0 (Sl a5 r2.1.1 c6) r2.1.1, Ch.ro n0 (Sl a5 r2.1.1 c6) r2.1.1, Ch.ro n0 (Sl a7 r2.1.2 c8) r2.1.2, Ch.bx n0 b10 0 [(Sl a5 r2.1.1 c6), (Sl a7 r2.1.2 c8)] [] [], Ch.own 0 n0 (Sl a17 r14 c18) r14]) from (H.sel' [0, 0, 1, 2, 3, 4, 5, 6] rfl rfl))) wn ?_
      rintro _ σ70 ⟨_, ⟨a68, c69, rfl, rfl⟩, H, -⟩
      replace H : Hp S0 σ0 σ70 [Ch.own n0 n0 (Sl a68 r65.1.2.1 c69) r65.1.2.1, Ch.ro 0 (Sl a60 r57 c61) r57, Ch.ro 0 (Sl a7 r2.1.2 c8) r2.1.2, Ch.ro 0 (Sl a5 r2.1.1 c6) r2.1.1, Ch.ro n0 (Sl a5 r2.1.1 c6) r2.1.1, Ch.ro n0 (Sl a7 r2.1.2 c8) r2.1.2, Ch.bx n0 b10 0 [(Sl a5 r2.1.1 c6), (Sl a7 r2.1.2 c8)] [] [], Ch.own 0 n0 (Sl a17 r14 c18) r14] := H
      replace H : Hp S0 σ0 σ70 [Ch.own n0 n0 (Sl a68 r65.1.2.1 c69) r65.1.2.1, Ch.ro n0 (Sl a5 r2.1.1 c6) r2.1.1, Ch.ro n0 (Sl a7 r2.1.2 c8) r2.1.2, Ch.bx n0 b10 0 [(Sl a5 r2.1.1 c6), (Sl a7 r2.1.2 c8)] [] [], Ch.own 0 n0 (Sl a17 r14 c18) r14] := H.sel' [0, 4, 5, 6, 7] rfl rfl
      refine st (v := (.tuple #[(.agg #[(I r65.1.1), (Sl a68 r65.1.2.1 c69), (I r65.1.2.2)]), (B r65.2)])) (rv_move rfl) ?_
      refine st (v := (.agg #[(I r65.1.1), (Sl a68 r65.1.2.1 c69), (I r65.1.2.2)])) (rv_extract rfl rfl) ?_
      refine st (v := (B r65.2)) (rv_extract rfl rfl) ?_
      refine st_ex (ex_alloc (cs := [(I 0), (.slice none 0 0), (I 0)]) H hn0 ti41 rfl) wn ?_
      rintro _ σ72 ⟨b71, rfl, H, -⟩
      refine st_exS (ex_store_box (k := 0) (cs := [(I 0), (.slice none 0 0), (I 0)]) (vs := [(I r65.1.1), (Sl a68 r65.1.2.1 c69), (I r65.1.2.2)]) (cs' := [(I r65.1.1), (Sl a68 r65.1.2.1 c69), (I r65.1.2.2)]) H (i := 0) rfl ti41 rfl rfl rfl rfl rfl (Nat.le_of_ble_eq_true rfl) (by simp [plain]) rfl) wn ?_
      rintro σ73 ⟨H, -⟩
      refine st (v := (B r65.2)) (rv_assign rfl) ?_
      refine w_end ?_
      refine q_then ?_
      refine c_seq ?_
      refine rg ?_
      have hc74 := H.cells 4 rfl
      refine st (v := (.agg #[(Sl a5 r2.1.1 c6), (Sl a7 r2.1.2 c8)])) (rv_load (cs := [(Sl a5 r2.1.1 c6), (Sl a7 r2.1.2 c8)]) Try.underlying26 rfl ti26 rfl rfl hc74) ?_
      refine st (v := (I r2.2.2)) (rv_move rfl) ?_
      replace H := H.roLow 2 0 rfl (Nat.zero_le _)
      replace H := H.roLow 4 0 rfl (Nat.zero_le _)
      obtain ⟨r75, hx76, h'⟩ := bind_some h
      clear h
      have h := h'; clear h'
      have hc77 := c_impl_StoreAt (ah_0_0 := a5) (ch_0_0 := c6) (ah_0_1 := a7) (ch_0_1 := c8) hx76
      refine st_call (cx_call hc77 (ent_f hc77.fn rfl) hn0 (show Hp S0 σ0 _ ([Ch.ro 0 (Sl a5 r2.1.1 c6) r2.1.1, Ch.ro 0 (Sl a7 r2.1.2 c8) r2.1.2] ++ [Ch.ro 0 (Sl a7 r2.1.2 c8) r2.1.2, Ch.ro 0 (Sl a5 r2.1.1 c6) r2.1.1, Ch.bx n0 b71 0 [(I r65.1.1), (Sl a68 r65.1.2.1 c69), (I r65.1.2.2)] [] [], Ch.own n0 n0 (Sl a68 r65.1.2.1 c69) r65.1.2.1, Ch.ro n0 (Sl a5 r2.1.1 c6) r2.1.1, Ch.ro n0 (Sl a7 r2.1.2 c8) r2.1.2, Ch.bx n0 b10 0 [(Sl a5 r2.1.1 c6), (Sl a7 r2.1.2 c8)] [] [], Ch.own 0 n0 (Sl a17 r14 c18) r14]) from (H.sel' [1, 0, 0, 1, 2, 3, 4, 5, 6, 7] rfl rfl))) wn ?_
      rintro _ σ80 ⟨_, ⟨a78, c79, rfl, rfl⟩, H, -⟩
      replace H : Hp S0 σ0 σ80 [Ch.own 0 0 (Sl a78 r75 c79) r75, Ch.ro 0 (Sl a7 r2.1.2 c8) r2.1.2, Ch.ro 0 (Sl a5 r2.1.1 c6) r2.1.1, Ch.bx n0 b71 0 [(I r65.1.1), (Sl a68 r65.1.2.1 c69), (I r65.1.2.2)] [] [], Ch.own n0 n0 (Sl a68 r65.1.2.1 c69) r65.1.2.1, Ch.ro n0 (Sl a5 r2.1.1 c6) r2.1.1, Ch.ro n0 (Sl a7 r2.1.2 c8) r2.1.2, Ch.bx n0 b10 0 [(Sl a5 r2.1.1 c6), (Sl a7 r2.1.2 c8)] [] [], Ch.own 0 n0 (Sl a17 r14 c18) r14] := H
      replace H : Hp S0 σ0 σ80 [Ch.own 0 0 (Sl a78 r75 c79) r75, Ch.bx n0 b71 0 [(I r65.1.1), (Sl a68 r65.1.2.1 c69), (I r65.1.2.2)] [] [], Ch.own n0 n0 (Sl a68 r65.1.2.1 c69) r65.1.2.1, Ch.ro n0 (Sl a5 r2.1.1 c6) r2.1.1, Ch.ro n0 (Sl a7 r2.1.2 c8) r2.1.2, Ch.bx n0 b10 0 [(Sl a5 r2.1.1 c6), (Sl a7 r2.1.2 c8)] [] [], Ch.own 0 n0 (Sl a17 r14 c18) r14] := H.sel' [0, 3, 4, 5, 6, 7, 8] rfl rfl
      refine st (v := (I s53)) (rv_move rfl) ?_
      obtain ⟨σ81, hw82, H, -⟩ := H.pub 0 rfl (Nat.le_refl _)
      rw [← hw82]; clear hw82
      obtain ⟨r83, hx84, h'⟩ := bind_some h
      clear h
      have h := h'; clear h'
      have hc85 := c_impl_GetItem (alist_0 := a78) (clist_0 := c79) hx84
      refine st_call (cx_call hc85 (ent_f hc85.fn rfl) hn0 (show Hp S0 σ0 _ ([Ch.ro 0 (Sl a78 r75 c79) r75] ++ [Ch.ro 0 (Sl a78 r75 c79) r75, Ch.bx n0 b71 0 [(I r65.1.1), (Sl a68 r65.1.2.1 c69), (I r65.1.2.2)] [] [], Ch.own n0 n0 (Sl a68 r65.1.2.1 c69) r65.1.2.1, Ch.ro n0 (Sl a5 r2.1.1 c6) r2.1.1, Ch.ro n0 (Sl a7 r2.1.2 c8) r2.1.2, Ch.bx n0 b10 0 [(Sl a5 r2.1.1 c6), (Sl a7 r2.1.2 c8)] [] [], Ch.own 0 n0 (Sl a17 r14 c18) r14]) from (H.sel' [0, 0, 1, 2, 3, 4, 5, 6] rfl rfl))) wn ?_
      rintro _ σ88 ⟨_, ⟨a86, c87, rfl, rfl⟩, H, -⟩
      replace H : Hp S0 σ0 σ88 [Ch.own n0 n0 (Sl a86 r83.1.2.1 c87) r83.1.2.1, Ch.ro 0 (Sl a78 r75 c79) r75, Ch.bx n0 b71 0 [(I r65.1.1), (Sl a68 r65.1.2.1 c69), (I r65.1.2.2)] [] [], Ch.own n0 n0 (Sl a68 r65.1.2.1 c69) r65.1.2.1, Ch.ro n0 (Sl a5 r2.1.1 c6) r2.1.1, Ch.ro n0 (Sl a7 r2.1.2 c8) r2.1.2, Ch.bx n0 b10 0 [(Sl a5 r2.1.1 c6), (Sl a7 r2.1.2 c8)] [] [], Ch.own 0 n0 (Sl a17 r14 c18) r14] := H
      replace H : Hp S0 σ0 σ88 [Ch.own n0 n0 (Sl a86 r83.1.2.1 c87) r83.1.2.1, Ch.bx n0 b71 0 [(I r65.1.1), (Sl a68 r65.1.2.1 c69), (I r65.1.2.2)] [] [], Ch.own n0 n0 (Sl a68 r65.1.2.1 c69) r65.1.2.1, Ch.ro n0 (Sl a5 r2.1.1 c6) r2.1.1, Ch.ro n0 (Sl a7 r2.1.2 c8) r2.1.2, Ch.bx n0 b10 0 [(Sl a5 r2.1.1 c6), (Sl a7 r2.1.2 c8)] [] [], Ch.own 0 n0 (Sl a17 r14 c18) r14] := H.sel' [0, 2, 3, 4, 5, 6, 7] rfl rfl
      refine st (v := (.tuple #[(.agg #[(I r83.1.1), (Sl a86 r83.1.2.1 c87), (I r83.1.2.2)]), (B r83.2)])) (rv_move rfl) ?_
      refine st (v := (.agg #[(I r83.1.1), (Sl a86 r83.1.2.1 c87), (I r83.1.2.2)])) (rv_extract rfl rfl) ?_
      refine st (v := (B r83.2)) (rv_extract rfl rfl) ?_
      refine st_ex (ex_alloc (cs := [(I 0), (.slice none 0 0), (I 0)]) H hn0 ti41 rfl) wn ?_
      rintro _ σ90 ⟨b89, rfl, H, -⟩
      refine st_exS (ex_store_box (k := 0) (cs := [(I 0), (.slice none 0 0), (I 0)]) (vs := [(I r83.1.1), (Sl a86 r83.1.2.1 c87), (I r83.1.2.2)]) (cs' := [(I r83.1.1), (Sl a86 r83.1.2.1 c87), (I r83.1.2.2)]) H (i := 0) rfl ti41 rfl rfl rfl rfl rfl (Nat.le_of_ble_eq_true rfl) (by simp [plain]) rfl) wn ?_
      rintro σ91 ⟨H, -⟩
      refine st (v := (B r83.2)) (rv_assign rfl) ?_
      refine w_end ?_
      refine q_then ?_
      refine c_seq ?_
      obtain ⟨o92, hj, h'⟩ := bind_some h
      clear h
      refine c_cut (fun e a w => e = .normal ∧ ∃ (ρ : Nat → Value) (σ : St), a = fr 81 (updL ρ [(3, (pt b10 0)), (4, (I r2.2.1)), (5, (I r2.2.2)), (6, (Sl a17 r14 c18)), (7, (I s53)), (74, (B o92))]) ∧ w = σ.w ∧ Hp S0 σ0 σ [Ch.ro n0 (Sl a5 r2.1.1 c6) r2.1.1, Ch.ro n0 (Sl a7 r2.1.2 c8) r2.1.2, Ch.bx n0 b10 0 [(Sl a5 r2.1.1 c6), (Sl a7 r2.1.2 c8)] [] [], Ch.own 0 n0 (Sl a17 r14 c18) r14]) ?_ ?_
      ·clear h'
       rename _ = some o92 => h
       refine rg ?_
       refine st (v := (Sl a17 r14 c18)) (rv_move rfl) ?_
       refine st (v := (I s53)) (rv_move rfl) ?_
       obtain ⟨r93, hx94, h'⟩ := bind_some h
       clear h
       have h := h'; clear h'
       have hc95 := c_laws_isIn (alist_0 := a17) (clist_0 := c18) hx94
       have hle := Nat.le_trans hn0 H.size
       refine st_call (cx_lend (Loan.lend Loan.nil) hc95 (ent_f hc95.fn rfl) (show Hp S0 σ0 _ ([Ch.own 0 n0 (Sl a17 r14 c18) r14] ++ ([] ++ [Ch.bx n0 b89 0 [(I r83.1.1), (Sl a86 r83.1.2.1 c87), (I r83.1.2.2)] [] [], Ch.own n0 n0 (Sl a86 r83.1.2.1 c87) r83.1.2.1, Ch.bx n0 b71 0 [(I r65.1.1), (Sl a68 r65.1.2.1 c69), (I r65.1.2.2)] [] [], Ch.own n0 n0 (Sl a68 r65.1.2.1 c69) r65.1.2.1, Ch.ro n0 (Sl a5 r2.1.1 c6) r2.1.1, Ch.ro n0 (Sl a7 r2.1.2 c8) r2.1.2, Ch.bx n0 b10 0 [(Sl a5 r2.1.1 c6), (Sl a7 r2.1.2 c8)] [] []])) from (H.sel' [7, 0, 1, 2, 3, 4, 5, 6] rfl rfl)) (by rintro _ _ _ ⟨rfl, rfl⟩; exact trivial)) wn ?_
       rintro _ σ96 ⟨_, ⟨rfl, rfl⟩, H, -, -⟩
       replace H : Hp S0 σ0 σ96 [Ch.own 0 n0 (Sl a17 r14 c18) r14, Ch.bx n0 b89 0 [(I r83.1.1), (Sl a86 r83.1.2.1 c87), (I r83.1.2.2)] [] [], Ch.own n0 n0 (Sl a86 r83.1.2.1 c87) r83.1.2.1, Ch.bx n0 b71 0 [(I r65.1.1), (Sl a68 r65.1.2.1 c69), (I r65.1.2.2)] [] [], Ch.own n0 n0 (Sl a68 r65.1.2.1 c69) r65.1.2.1, Ch.ro n0 (Sl a5 r2.1.1 c6) r2.1.1, Ch.ro n0 (Sl a7 r2.1.2 c8) r2.1.2, Ch.bx n0 b10 0 [(Sl a5 r2.1.1 c6), (Sl a7 r2.1.2 c8)] [] []] := H
       clear hle
       replace H : Hp S0 σ0 σ96 [Ch.own 0 n0 (Sl a17 r14 c18) r14, Ch.bx n0 b89 0 [(I r83.1.1), (Sl a86 r83.1.2.1 c87), (I r83.1.2.2)] [] [], Ch.own n0 n0 (Sl a86 r83.1.2.1 c87) r83.1.2.1, Ch.bx n0 b71 0 [(I r65.1.1), (Sl a68 r65.1.2.1 c69), (I r65.1.2.2)] [] [], Ch.own n0 n0 (Sl a68 r65.1.2.1 c69) r65.1.2.1, Ch.ro n0 (Sl a5 r2.1.1 c6) r2.1.1, Ch.ro n0 (Sl a7 r2.1.2 c8) r2.1.2, Ch.bx n0 b10 0 [(Sl a5 r2.1.1 c6), (Sl a7 r2.1.2 c8)] [] []] := H
       refine st (v := (B r65.2)) (rv_move rfl) ?_
       refine st (v := (B r83.2)) (rv_move rfl) ?_
       refine st (v := (B (r65.2 == r83.2))) (rv_beql Try.underlying4 rfl rfl) ?_
       refine st (v := (B (r65.2 == r83.2))) (rv_move rfl) ?_
       rcases Bool.eq_false_or_eq_true (r65.2 == r83.2) with hb97 | hb97
       ·replace h := bif_t hb97 h
        have hc98 := H.cells 3 rfl
        refine st_g (v := (.agg #[(I r65.1.1), (Sl a68 r65.1.2.1 c69), (I r65.1.2.2)])) (congrArg some hb97) (rv_load (cs := [(I r65.1.1), (Sl a68 r65.1.2.1 c69), (I r65.1.2.2)]) Try.underlying41 rfl ti41 rfl rfl hc98) ?_
        have hc99 := H.cells 1 rfl
        refine st_g (v := (.agg #[(I r83.1.1), (Sl a86 r83.1.2.1 c87), (I r83.1.2.2)])) (congrArg some hb97) (rv_load (cs := [(I r83.1.1), (Sl a86 r83.1.2.1 c87), (I r83.1.2.2)]) Try.underlying41 rfl ti41 rfl rfl hc99) ?_
        obtain ⟨σ100, hw101, H, -⟩ := H.pub 4 rfl (Nat.le_refl _)
        rw [← hw101]; clear hw101
        obtain ⟨σ102, hw103, H, -⟩ := H.pub 3 rfl (Nat.le_refl _)
        rw [← hw103]; clear hw103
        replace H := H.roLow 1 0 rfl (Nat.zero_le _)
        replace H := H.roLow 1 0 rfl (Nat.zero_le _)
        obtain ⟨r104, hx105, h'⟩ := bind_some h
        clear h
        have h := h'; clear h'
        have hc106 := c_laws_equalItem (aa_0_1 := a68) (ca_0_1 := c69) (ab_1_1 := a86) (cb_1_1 := c87) hx105
        refine st_call (cx_call hc106 (ent_f hc106.fn rfl) hn0 (show Hp S0 σ0 _ ([Ch.ro 0 (Sl a68 r65.1.2.1 c69) r65.1.2.1, Ch.ro 0 (Sl a86 r83.1.2.1 c87) r83.1.2.1] ++ [Ch.ro 0 (Sl a86 r83.1.2.1 c87) r83.1.2.1, Ch.ro 0 (Sl a68 r65.1.2.1 c69) r65.1.2.1, Ch.ro n0 (Sl a86 r83.1.2.1 c87) r83.1.2.1, Ch.ro n0 (Sl a68 r65.1.2.1 c69) r65.1.2.1, Ch.own 0 n0 (Sl a17 r14 c18) r14, Ch.bx n0 b89 0 [(I r83.1.1), (Sl a86 r83.1.2.1 c87), (I r83.1.2.2)] [] [], Ch.bx n0 b71 0 [(I r65.1.1), (Sl a68 r65.1.2.1 c69), (I r65.1.2.2)] [] [], Ch.ro n0 (Sl a5 r2.1.1 c6) r2.1.1, Ch.ro n0 (Sl a7 r2.1.2 c8) r2.1.2, Ch.bx n0 b10 0 [(Sl a5 r2.1.1 c6), (Sl a7 r2.1.2 c8)] [] []]) from (H.sel' [1, 0, 0, 1, 2, 3, 4, 5, 6, 7, 8, 9] rfl rfl))) (wanted_yes rfl (by exact (congrArg some hb97))) ?_
        rintro _ σ107 ⟨_, ⟨rfl, rfl⟩, H, -⟩
        replace H : Hp S0 σ0 σ107 [Ch.ro 0 (Sl a86 r83.1.2.1 c87) r83.1.2.1, Ch.ro 0 (Sl a68 r65.1.2.1 c69) r65.1.2.1, Ch.ro n0 (Sl a86 r83.1.2.1 c87) r83.1.2.1, Ch.ro n0 (Sl a68 r65.1.2.1 c69) r65.1.2.1, Ch.own 0 n0 (Sl a17 r14 c18) r14, Ch.bx n0 b89 0 [(I r83.1.1), (Sl a86 r83.1.2.1 c87), (I r83.1.2.2)] [] [], Ch.bx n0 b71 0 [(I r65.1.1), (Sl a68 r65.1.2.1 c69), (I r65.1.2.2)] [] [], Ch.ro n0 (Sl a5 r2.1.1 c6) r2.1.1, Ch.ro n0 (Sl a7 r2.1.2 c8) r2.1.2, Ch.bx n0 b10 0 [(Sl a5 r2.1.1 c6), (Sl a7 r2.1.2 c8)] [] []] := H
        replace H : Hp S0 σ0 σ107 [Ch.own 0 n0 (Sl a17 r14 c18) r14, Ch.ro n0 (Sl a5 r2.1.1 c6) r2.1.1, Ch.ro n0 (Sl a7 r2.1.2 c8) r2.1.2, Ch.bx n0 b10 0 [(Sl a5 r2.1.1 c6), (Sl a7 r2.1.2 c8)] [] []] := H.sel' [4, 7, 8, 9] rfl rfl
        refine st (v := (B r104)) (rv_pick_t (congrArg B hb97) rfl) ?_
        refine st (v := (B (r93 == r104))) (rv_beql Try.underlying4 rfl rfl) ?_
        refine w_end ?_
        obtain rfl := Option.some.inj h
        exact ⟨rfl, _, σ107, fr_join ⟨rfl, rfl, rfl, rfl, rfl, rfl, trivial⟩, rfl, H.sel' [1, 2, 3, 0] rfl rfl⟩
       ·replace h := bif_f hb97 h
        refine st_skip (congrArg some hb97) ?_
        refine st_skip (congrArg some hb97) ?_
        refine st_skip (congrArg some hb97) ?_
        refine st (v := (B false)) (rv_pick_f (congrArg B hb97) rfl) ?_
        refine st (v := (B (r93 == false))) (rv_beql Try.underlying4 rfl rfl) ?_
        refine w_end ?_
        obtain rfl := Option.some.inj h
        exact ⟨rfl, _, σ96, fr_join ⟨rfl, rfl, rfl, rfl, rfl, rfl, trivial⟩, rfl, H.sel' [5, 6, 7, 0] rfl rfl⟩
      ·clear hj
       have h := h'
       clear h' H
       rintro e a w ⟨rfl, ρ, σ108, rfl, rfl, H⟩
       refine q_then ?_
       refine cd_cond o92 rfl (fun hb109 => ?_) (fun hb109 => ?_)
       ·replace h := bif_t hb109 h
        refine c_seq ?_
        refine rg ?_
        refine st (v := (B false)) (rv_assign rfl) ?_
        refine w_end ?_
        refine q_then ?_
        refine c_ret ?_
        refine q_blk_r ?_
        refine q_then_r ?_
        refine q_then_r ?_
        refine q_blk_r ?_
        obtain rfl := Option.some.inj h
        obtain rfl := hres _ rfl
        exact .inr (⟨_, rfl, rfl, _, σ108, fr_join ⟨rfl, trivial⟩, rfl, H.sel' [] rfl rfl⟩)
       ·replace h := bif_f hb109 h
        refine c_skip ?_
        refine q_blk ?_
        refine q_then ?_
        refine rg ?_
        refine st (v := (I s53)) (rv_move rfl) ?_
        refine st (v := (I (w64 (s53 + 1)))) (rv_add (a := s53) (b := 1) rfl rfl) ?_
        refine st (v := (I (w64 (s53 + 1)))) (rv_assign rfl) ?_
        refine w_end ?_
        refine q_then ?_
        obtain rfl := Option.some.inj h
        exact ⟨_, rfl, _, σ108, fr_join ⟨rfl, rfl, rfl, rfl, rfl, trivial⟩, rfl, H.sel' [0, 1, 2, 3] rfl rfl⟩
     ·replace h := bif_f hb55 h
      refine c_exit ?_
      refine q_then_x ?_
      refine q_then_x ?_
      refine q_blk_hit ?_
      obtain rfl := Option.some.inj h
      obtain rfl := hres _ rfl
      exact .inl ⟨_, rfl, rfl, _, σ54, fr_join ⟨rfl, rfl, rfl, rfl, trivial⟩, rfl, H.sel' [0, 1, 2, 3] rfl rfl⟩
    ·clear hj
     have h := h'
     clear h' H
     rintro e a w (⟨t110, rfl, rfl, ρ, σ111, rfl, rfl, H⟩ | ⟨t127, rfl, rfl, ρ, σ128, rfl, rfl, H⟩)
     ·replace h := selim_l h
      refine q_then ?_
      refine c_seq ?_
      refine rg ?_
      have hc112 := H.cells 2 rfl
      refine st (v := (.agg #[(Sl a5 r2.1.1 c6), (Sl a7 r2.1.2 c8)])) (rv_load (cs := [(Sl a5 r2.1.1 c6), (Sl a7 r2.1.2 c8)]) Try.underlying26 rfl ti26 rfl rfl hc112) ?_
      refine st (v := (I r2.2.2)) (rv_move rfl) ?_
      refine st (v := (I r2.2.1)) (rv_move rfl) ?_
      replace H := H.roLow 0 0 rfl (Nat.zero_le _)
      replace H := H.roLow 2 0 rfl (Nat.zero_le _)
      obtain ⟨r113, hx114, h'⟩ := bind_some h
      clear h
      have h := h'; clear h'
      have hc115 := c_impl_ChangedKeys (ah_0_0 := a5) (ch_0_0 := c6) (ah_0_1 := a7) (ch_0_1 := c8) hx114
      refine st_call (cx_call hc115 (ent_f hc115.fn rfl) hn0 (show Hp S0 σ0 _ ([Ch.ro 0 (Sl a5 r2.1.1 c6) r2.1.1, Ch.ro 0 (Sl a7 r2.1.2 c8) r2.1.2] ++ [Ch.ro 0 (Sl a7 r2.1.2 c8) r2.1.2, Ch.ro 0 (Sl a5 r2.1.1 c6) r2.1.1, Ch.ro n0 (Sl a5 r2.1.1 c6) r2.1.1, Ch.ro n0 (Sl a7 r2.1.2 c8) r2.1.2, Ch.bx n0 b10 0 [(Sl a5 r2.1.1 c6), (Sl a7 r2.1.2 c8)] [] [], Ch.own 0 n0 (Sl a17 r14 c18) r14]) from (H.sel' [1, 0, 0, 1, 2, 3, 4, 5] rfl rfl))) wn ?_
      rintro _ σ118 ⟨_, ⟨a116, c117, rfl, rfl⟩, H, -⟩
      replace H : Hp S0 σ0 σ118 [Ch.own 0 n0 (Sl a116 r113 c117) r113, Ch.ro 0 (Sl a7 r2.1.2 c8) r2.1.2, Ch.ro 0 (Sl a5 r2.1.1 c6) r2.1.1, Ch.ro n0 (Sl a5 r2.1.1 c6) r2.1.1, Ch.ro n0 (Sl a7 r2.1.2 c8) r2.1.2, Ch.bx n0 b10 0 [(Sl a5 r2.1.1 c6), (Sl a7 r2.1.2 c8)] [] [], Ch.own 0 n0 (Sl a17 r14 c18) r14] := H
      refine st (v := (Sl a17 r14 c18)) (rv_move rfl) ?_
      replace H := H.ownLow 0 0 0 rfl (Nat.le_refl _) (Nat.zero_le _)
      obtain ⟨σ119, hw120, H, -⟩ := H.pub 0 rfl (Nat.le_refl _)
      rw [← hw120]; clear hw120
      replace H := H.ownLow 6 0 0 rfl (Nat.le_refl _) (Nat.zero_le _)
      obtain ⟨σ121, hw122, H, -⟩ := H.pub 0 rfl (Nat.le_refl _)
      rw [← hw122]; clear hw122
      obtain ⟨r123, hx124, h'⟩ := bind_some h
      clear h
      have h := h'; clear h'
      have hc125 := c_laws_equalInts (aa_0 := a116) (ca_0 := c117) (ab_1 := a17) (cb_1 := c18) hx124
      refine st_call (cx_call hc125 (ent_f hc125.fn rfl) hn0 (show Hp S0 σ0 _ ([Ch.ro 0 (Sl a116 r113 c117) r113, Ch.ro 0 (Sl a17 r14 c18) r14] ++ [Ch.ro 0 (Sl a17 r14 c18) r14, Ch.ro 0 (Sl a116 r113 c117) r113, Ch.ro 0 (Sl a7 r2.1.2 c8) r2.1.2, Ch.ro 0 (Sl a5 r2.1.1 c6) r2.1.1, Ch.ro n0 (Sl a5 r2.1.1 c6) r2.1.1, Ch.ro n0 (Sl a7 r2.1.2 c8) r2.1.2, Ch.bx n0 b10 0 [(Sl a5 r2.1.1 c6), (Sl a7 r2.1.2 c8)] [] []]) from (H.sel' [1, 0, 0, 1, 2, 3, 4, 5, 6] rfl rfl))) wn ?_
      rintro _ σ126 ⟨_, ⟨rfl, rfl⟩, H, -⟩
      replace H : Hp S0 σ0 σ126 [Ch.ro 0 (Sl a17 r14 c18) r14, Ch.ro 0 (Sl a116 r113 c117) r113, Ch.ro 0 (Sl a7 r2.1.2 c8) r2.1.2, Ch.ro 0 (Sl a5 r2.1.1 c6) r2.1.1, Ch.ro n0 (Sl a5 r2.1.1 c6) r2.1.1, Ch.ro n0 (Sl a7 r2.1.2 c8) r2.1.2, Ch.bx n0 b10 0 [(Sl a5 r2.1.1 c6), (Sl a7 r2.1.2 c8)] [] []] := H
      refine st (v := (B r123)) (rv_assign rfl) ?_
      refine w_end ?_
      refine q_then ?_
      refine c_ret ?_
      obtain rfl := Option.some.inj h
      exact fin_ret (v := (B r123)) (results_ok Try.results10 (res_tmp (v := (B r123)) rfl res_nil) rfl) ⟨rfl, rfl⟩ (H.sel' [] rfl rfl)
     ·replace h := selim_r h
      refine q_then_r ?_
      obtain rfl := Option.some.inj h
      exact fin_ret (v := (B t127)) (results_ok Try.results10 (res_tmp (v := (B t127)) rfl res_nil) rfl) ⟨rfl, rfl⟩ (H.sel' [] rfl rfl)

end Go.Vs
