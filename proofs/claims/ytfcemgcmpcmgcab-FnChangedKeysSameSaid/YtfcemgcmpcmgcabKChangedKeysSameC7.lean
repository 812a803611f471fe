/- The functions compute what their models say. -/
import Derived.Test.YtfcemgcmpcmgcabKChangedKeysSameC6
set_option linter.unusedVariables false
set_option linter.unusedSimpArgs false
set_option maxRecDepth 20000
namespace Go.Vs
open Go Go.Proofs
attribute [local irreducible] Code.wp Code.wpIn wpList wpListIn wpQuiet Calls CallsIn

theorem c_laws_FnChangedKeysSame {code_0 : List UInt8} {acode_0 : Option Addr} {ccode_0 : Nat} {r : Bool} (h : M.laws_FnChangedKeysSame code_0 = some r) :
    Cal2 Try.prog 3 [(Sl acode_0 code_0 ccode_0)] [Ch.ro 0 (Sl acode_0 code_0 ccode_0) code_0] (fun n0 v L => v = (B r) ∧ L = []) := by
 refine cal2 (n := 82) Try.func3 rfl rfl rfl rfl ?_
 intro S0 σ0 n0 hn0 H
 unfold M.laws_FnChangedKeysSame at h
 refine c_seq ?_
 refine rg ?_
 refine st (v := (B false)) (rv_assign rfl) ?_
 refine w_end ?_
 refine q_then ?_
 refine c_seq ?_
 refine c_seq ?_
 refine rg ?_
 refine st (v := (Sl acode_0 code_0 ccode_0)) (rv_move rfl) ?_
 refine st (v := (I (code_0.length : Int))) (rv_len Try.underlying22 rfl) ?_
 refine st (v := (B (decide (1048576 < (code_0.length : Int))))) (rv_gtr (a := (code_0.length : Int)) (b := 1048576) rfl rfl) ?_
 refine w_end ?_
 refine q_then ?_
 refine cd_cond (decide (1048576 < (code_0.length : Int))) rfl (fun hb1 => ?_) (fun hb1 => ?_)
 ·replace h := bif_t hb1 h
  refine c_seq ?_
  refine rg ?_
  refine st (v := (B true)) (rv_assign rfl) ?_
  refine w_end ?_
  refine q_then ?_
  refine c_ret ?_
  refine q_then_r ?_
  obtain rfl := Option.some.inj h
  exact fin_ret (v := (B true)) (results_ok Try.results3 (res_tmp (v := (B true)) rfl res_nil) rfl) ⟨rfl, rfl⟩ (H.sel' [] rfl rfl)
 ·replace h := bif_f hb1 h
  refine c_skip ?_
  refine q_then ?_
  refine c_seq ?_
  refine rg ?_
  refine st (v := (Sl acode_0 code_0 ccode_0)) (rv_move rfl) ?_
  obtain ⟨r2, hx3, h'⟩ := bind_some h
  clear h
  have h := h'; clear h'
  have hc4 := c_spec_DrawChangedKeys (acode_0 := acode_0) (ccode_0 := ccode_0) hx3
  refine st_call (cx_call hc4 (ent_f hc4.fn rfl) hn0 (show Hp S0 σ0 _ ([Ch.ro 0 (Sl acode_0 code_0 ccode_0) code_0] ++ [Ch.ro 0 (Sl acode_0 code_0 ccode_0) code_0]) from (H.sel' [0, 0] rfl rfl))) wn ?_
  rintro _ σ9 ⟨_, ⟨a5, c6, a7, c8, rfl, rfl⟩, H, -⟩
  replace H : Hp S0 σ0 σ9 [Ch.ro n0 (Sl a5 r2.1.1 c6) r2.1.1, Ch.ro n0 (Sl a7 r2.1.2 c8) r2.1.2, Ch.ro 0 (Sl acode_0 code_0 ccode_0) code_0] := H
  refine st (v := (.tuple #[(.agg #[(Sl a5 r2.1.1 c6), (Sl a7 r2.1.2 c8)]), (I r2.2.1), (I r2.2.2)])) (rv_move rfl) ?_
  refine st (v := (.agg #[(Sl a5 r2.1.1 c6), (Sl a7 r2.1.2 c8)])) (rv_extract rfl rfl) ?_
  refine st (v := (I r2.2.1)) (rv_extract rfl rfl) ?_
  refine st (v := (I r2.2.2)) (rv_extract rfl rfl) ?_
  refine st_ex (ex_alloc (cs := [(.slice none 0 0), (.slice none 0 0)]) H hn0 ti26 rfl) wn ?_
  rintro _ σ11 ⟨b10, rfl, H, -⟩
  refine st_exS (ex_store_box (k := 0) (cs := [(.slice none 0 0), (.slice none 0 0)]) (vs := [(Sl a5 r2.1.1 c6), (Sl a7 r2.1.2 c8)]) (cs' := [(Sl a5 r2.1.1 c6), (Sl a7 r2.1.2 c8)]) H (i := 0) rfl ti26 rfl rfl rfl rfl rfl (Nat.le_of_ble_eq_true rfl) (by simp [plain]) rfl) wn ?_
  rintro σ12 ⟨H, -⟩
  refine st (v := (I r2.2.1)) (rv_assign rfl) ?_
  refine st (v := (I r2.2.2)) (rv_assign rfl) ?_
  refine w_end ?_
  refine q_then ?_
  refine c_seq ?_
  refine rg ?_
  have hc13 := H.cells 0 rfl
  refine st (v := (.agg #[(Sl a5 r2.1.1 c6), (Sl a7 r2.1.2 c8)])) (rv_load (cs := [(Sl a5 r2.1.1 c6), (Sl a7 r2.1.2 c8)]) Try.underlying26 rfl ti26 rfl rfl hc13) ?_
  refine st (v := (I r2.2.1)) (rv_move rfl) ?_
  refine st (v := (I r2.2.2)) (rv_move rfl) ?_
  replace H := H.roLow 1 0 rfl (Nat.zero_le _)
  replace H := H.roLow 3 0 rfl (Nat.zero_le _)
  obtain ⟨r14, hx15, h'⟩ := bind_some h
  clear h
  have h := h'; clear h'
  have hc16 := c_impl_ChangedKeys (ah_0_0 := a5) (ch_0_0 := c6) (ah_0_1 := a7) (ch_0_1 := c8) hx15
  refine st_call (cx_call hc16 (ent_f hc16.fn rfl) hn0 (show Hp S0 σ0 _ ([Ch.ro 0 (Sl a5 r2.1.1 c6) r2.1.1, Ch.ro 0 (Sl a7 r2.1.2 c8) r2.1.2] ++ [Ch.ro 0 (Sl a7 r2.1.2 c8) r2.1.2, Ch.ro 0 (Sl a5 r2.1.1 c6) r2.1.1, Ch.bx n0 b10 0 [(Sl a5 r2.1.1 c6), (Sl a7 r2.1.2 c8)] [] [], Ch.ro n0 (Sl a5 r2.1.1 c6) r2.1.1, Ch.ro n0 (Sl a7 r2.1.2 c8) r2.1.2, Ch.ro 0 (Sl acode_0 code_0 ccode_0) code_0]) from (H.sel' [1, 0, 0, 1, 2, 3, 4, 5] rfl rfl))) wn ?_
  rintro _ σ19 ⟨_, ⟨a17, c18, rfl, rfl⟩, H, -⟩
  replace H : Hp S0 σ0 σ19 [Ch.own 0 n0 (Sl a17 r14 c18) r14, Ch.ro 0 (Sl a7 r2.1.2 c8) r2.1.2, Ch.ro 0 (Sl a5 r2.1.1 c6) r2.1.1, Ch.bx n0 b10 0 [(Sl a5 r2.1.1 c6), (Sl a7 r2.1.2 c8)] [] [], Ch.ro n0 (Sl a5 r2.1.1 c6) r2.1.1, Ch.ro n0 (Sl a7 r2.1.2 c8) r2.1.2, Ch.ro 0 (Sl acode_0 code_0 ccode_0) code_0] := H
  refine st (v := (Sl a17 r14 c18)) (rv_assign rfl) ?_
  refine w_end ?_
  refine q_then ?_
  refine c_seq ?_
  refine c_seq ?_
  obtain ⟨o20, hj, h'⟩ := bind_some h
  clear h
  refine c_cut (fun e a w => e = .normal ∧ ∃ (ρ : Nat → Value) (σ : St), a = fr 82 (updL ρ [(3, (pt b10 0)), (4, (I r2.2.1)), (5, (I r2.2.2)), (6, (Sl a17 r14 c18)), (42, (B o20))]) ∧ w = σ.w ∧ Hp S0 σ0 σ [Ch.ro n0 (Sl a5 r2.1.1 c6) r2.1.1, Ch.ro n0 (Sl a7 r2.1.2 c8) r2.1.2, Ch.bx n0 b10 0 [(Sl a5 r2.1.1 c6), (Sl a7 r2.1.2 c8)] [] [], Ch.own 0 n0 (Sl a17 r14 c18) r14]) ?_ ?_
  ·clear h'
   rename _ = some o20 => h
   refine rg ?_
   refine st (v := (Sl a17 r14 c18)) (rv_move rfl) ?_
   have hc21 := H.cells 3 rfl
   refine st (v := (.agg #[(Sl a5 r2.1.1 c6), (Sl a7 r2.1.2 c8)])) (rv_load (cs := [(Sl a5 r2.1.1 c6), (Sl a7 r2.1.2 c8)]) Try.underlying26 rfl ti26 rfl rfl hc21) ?_
   refine st (v := (I r2.2.1)) (rv_move rfl) ?_
   refine st (v := (I r2.2.2)) (rv_move rfl) ?_
   replace H := H.roLow 4 0 rfl (Nat.zero_le _)
   replace H := H.roLow 6 0 rfl (Nat.zero_le _)
   obtain ⟨r22, hx23, h'⟩ := bind_some h
   clear h
   have h := h'; clear h'
   have hc24 := c_spec_ChangedKeys (ah_0_0 := a5) (ch_0_0 := c6) (ah_0_1 := a7) (ch_0_1 := c8) hx23
   refine st_call (cx_call hc24 (ent_f hc24.fn rfl) hn0 (show Hp S0 σ0 _ ([Ch.ro 0 (Sl a5 r2.1.1 c6) r2.1.1, Ch.ro 0 (Sl a7 r2.1.2 c8) r2.1.2] ++ [Ch.ro 0 (Sl a7 r2.1.2 c8) r2.1.2, Ch.ro 0 (Sl a5 r2.1.1 c6) r2.1.1, Ch.own 0 n0 (Sl a17 r14 c18) r14, Ch.ro 0 (Sl a7 r2.1.2 c8) r2.1.2, Ch.ro 0 (Sl a5 r2.1.1 c6) r2.1.1, Ch.bx n0 b10 0 [(Sl a5 r2.1.1 c6), (Sl a7 r2.1.2 c8)] [] [], Ch.ro n0 (Sl a5 r2.1.1 c6) r2.1.1, Ch.ro n0 (Sl a7 r2.1.2 c8) r2.1.2, Ch.ro 0 (Sl acode_0 code_0 ccode_0) code_0]) from (H.sel' [1, 0, 0, 1, 2, 3, 4, 5, 6, 7, 8] rfl rfl))) wn ?_
   rintro _ σ27 ⟨_, ⟨a25, c26, rfl, rfl⟩, H, -⟩
   replace H : Hp S0 σ0 σ27 [Ch.own n0 n0 (Sl a25 r22 c26) r22, Ch.ro 0 (Sl a7 r2.1.2 c8) r2.1.2, Ch.ro 0 (Sl a5 r2.1.1 c6) r2.1.1, Ch.own 0 n0 (Sl a17 r14 c18) r14, Ch.ro 0 (Sl a7 r2.1.2 c8) r2.1.2, Ch.ro 0 (Sl a5 r2.1.1 c6) r2.1.1, Ch.bx n0 b10 0 [(Sl a5 r2.1.1 c6), (Sl a7 r2.1.2 c8)] [] [], Ch.ro n0 (Sl a5 r2.1.1 c6) r2.1.1, Ch.ro n0 (Sl a7 r2.1.2 c8) r2.1.2, Ch.ro 0 (Sl acode_0 code_0 ccode_0) code_0] := H
   replace H : Hp S0 σ0 σ27 [Ch.own n0 n0 (Sl a25 r22 c26) r22, Ch.own 0 n0 (Sl a17 r14 c18) r14, Ch.bx n0 b10 0 [(Sl a5 r2.1.1 c6), (Sl a7 r2.1.2 c8)] [] [], Ch.ro n0 (Sl a5 r2.1.1 c6) r2.1.1, Ch.ro n0 (Sl a7 r2.1.2 c8) r2.1.2] := H.sel' [0, 3, 6, 7, 8] rfl rfl
   obtain ⟨σ28, hw29, H, -⟩ := H.pub 0 rfl (Nat.le_refl _)
   rw [← hw29]; clear hw29
   replace H := H.roLow 0 0 rfl (Nat.zero_le _)
   obtain ⟨r30, hx31, h'⟩ := bind_some h
   clear h
   have h := h'; clear h'
   have hc32 := c_laws_equalInts (aa_0 := a17) (ca_0 := c18) (ab_1 := a25) (cb_1 := c26) hx31
   have hle := Nat.le_trans hn0 H.size
   refine st_call (cx_lend (Loan.lend (Loan.same Loan.nil)) hc32 (ent_f hc32.fn rfl) (show Hp S0 σ0 _ ([Ch.own 0 n0 (Sl a17 r14 c18) r14] ++ ([Ch.ro 0 (Sl a25 r22 c26) r22] ++ [Ch.ro 0 (Sl a25 r22 c26) r22, Ch.ro n0 (Sl a25 r22 c26) r22, Ch.bx n0 b10 0 [(Sl a5 r2.1.1 c6), (Sl a7 r2.1.2 c8)] [] [], Ch.ro n0 (Sl a5 r2.1.1 c6) r2.1.1, Ch.ro n0 (Sl a7 r2.1.2 c8) r2.1.2])) from (H.sel' [2, 0, 0, 1, 3, 4, 5] rfl rfl)) (by rintro _ _ _ ⟨rfl, rfl⟩; exact trivial)) wn ?_
   rintro _ σ33 ⟨_, ⟨rfl, rfl⟩, H, -, -⟩
   replace H : Hp S0 σ0 σ33 [Ch.own 0 n0 (Sl a17 r14 c18) r14, Ch.ro 0 (Sl a25 r22 c26) r22, Ch.ro n0 (Sl a25 r22 c26) r22, Ch.bx n0 b10 0 [(Sl a5 r2.1.1 c6), (Sl a7 r2.1.2 c8)] [] [], Ch.ro n0 (Sl a5 r2.1.1 c6) r2.1.1, Ch.ro n0 (Sl a7 r2.1.2 c8) r2.1.2] := H
   clear hle
   replace H : Hp S0 σ0 σ33 [Ch.own 0 n0 (Sl a17 r14 c18) r14, Ch.ro 0 (Sl a25 r22 c26) r22, Ch.ro n0 (Sl a25 r22 c26) r22, Ch.bx n0 b10 0 [(Sl a5 r2.1.1 c6), (Sl a7 r2.1.2 c8)] [] [], Ch.ro n0 (Sl a5 r2.1.1 c6) r2.1.1, Ch.ro n0 (Sl a7 r2.1.2 c8) r2.1.2] := H
   refine st (v := (B (!r30))) (rv_not rfl) ?_
   refine st (v := (B (!r30))) (rv_move rfl) ?_
   rcases Bool.eq_false_or_eq_true (!r30) with hb34 | hb34
   ·replace h := bif_t hb34 h
    refine st_skip (congrArg some hb34) ?_
    refine st_skip (congrArg some hb34) ?_
    refine st_skip (congrArg some hb34) ?_
    refine st (v := (B true)) (rv_pick_t (congrArg B hb34) rfl) ?_
    refine st (v := (B true)) (rv_move rfl) ?_
    refine st_skip rfl ?_
    refine st_skip rfl ?_
    refine st (v := (B true)) (rv_pick_t rfl rfl) ?_
    refine st (v := (B true)) (rv_move rfl) ?_
    refine st_skip rfl ?_
    refine st_skip rfl ?_
    refine st (v := (B true)) (rv_pick_t rfl rfl) ?_
    refine w_end ?_
    obtain rfl := Option.some.inj h
    exact ⟨rfl, _, σ33, fr_join ⟨rfl, rfl, rfl, rfl, rfl, trivial⟩, rfl, H.sel' [4, 5, 3, 0] rfl rfl⟩
   ·replace h := bif_f hb34 h
    have hc35 := H.cells 3 rfl
    refine st_g (v := (.agg #[(Sl a5 r2.1.1 c6), (Sl a7 r2.1.2 c8)])) (congrArg some hb34) (rv_load (cs := [(Sl a5 r2.1.1 c6), (Sl a7 r2.1.2 c8)]) Try.underlying26 rfl ti26 rfl rfl hc35) ?_
    replace H := H.roLow 4 0 rfl (Nat.zero_le _)
    replace H := H.roLow 6 0 rfl (Nat.zero_le _)
    obtain ⟨r36, hx37, h'⟩ := bind_some h
    clear h
    have h := h'; clear h'
    have hc38 := c_impl_ValidHistory (ah_0_0 := a5) (ch_0_0 := c6) (ah_0_1 := a7) (ch_0_1 := c8) hx37
    refine st_call (cx_call hc38 (ent_f hc38.fn rfl) hn0 (show Hp S0 σ0 _ ([Ch.ro 0 (Sl a5 r2.1.1 c6) r2.1.1, Ch.ro 0 (Sl a7 r2.1.2 c8) r2.1.2] ++ [Ch.ro 0 (Sl a7 r2.1.2 c8) r2.1.2, Ch.ro 0 (Sl a5 r2.1.1 c6) r2.1.1, Ch.own 0 n0 (Sl a17 r14 c18) r14, Ch.ro 0 (Sl a25 r22 c26) r22, Ch.ro n0 (Sl a25 r22 c26) r22, Ch.bx n0 b10 0 [(Sl a5 r2.1.1 c6), (Sl a7 r2.1.2 c8)] [] [], Ch.ro n0 (Sl a5 r2.1.1 c6) r2.1.1, Ch.ro n0 (Sl a7 r2.1.2 c8) r2.1.2]) from (H.sel' [1, 0, 0, 1, 2, 3, 4, 5, 6, 7] rfl rfl))) (wanted_yes rfl (by exact (congrArg some hb34))) ?_
    rintro _ σ39 ⟨_, ⟨rfl, rfl⟩, H, -⟩
    replace H : Hp S0 σ0 σ39 [Ch.ro 0 (Sl a7 r2.1.2 c8) r2.1.2, Ch.ro 0 (Sl a5 r2.1.1 c6) r2.1.1, Ch.own 0 n0 (Sl a17 r14 c18) r14, Ch.ro 0 (Sl a25 r22 c26) r22, Ch.ro n0 (Sl a25 r22 c26) r22, Ch.bx n0 b10 0 [(Sl a5 r2.1.1 c6), (Sl a7 r2.1.2 c8)] [] [], Ch.ro n0 (Sl a5 r2.1.1 c6) r2.1.1, Ch.ro n0 (Sl a7 r2.1.2 c8) r2.1.2] := H
    replace H : Hp S0 σ0 σ39 [Ch.own 0 n0 (Sl a17 r14 c18) r14, Ch.bx n0 b10 0 [(Sl a5 r2.1.1 c6), (Sl a7 r2.1.2 c8)] [] [], Ch.ro n0 (Sl a5 r2.1.1 c6) r2.1.1, Ch.ro n0 (Sl a7 r2.1.2 c8) r2.1.2] := H.sel' [2, 5, 6, 7] rfl rfl
    refine st_g (v := (B (!r36))) (congrArg some hb34) (rv_not rfl) ?_
    refine st (v := (B (!r36))) (rv_pick_f (congrArg B hb34) rfl) ?_
    refine st (v := (B (!r36))) (rv_move rfl) ?_
    rcases Bool.eq_false_or_eq_true (!r36) with hb40 | hb40
    ·replace h := bif_t hb40 h
     refine st_skip (congrArg some hb40) ?_
     refine st_skip (congrArg some hb40) ?_
     refine st (v := (B true)) (rv_pick_t (congrArg B hb40) rfl) ?_
     refine st (v := (B true)) (rv_move rfl) ?_
     refine st_skip rfl ?_
     refine st_skip rfl ?_
     refine st (v := (B true)) (rv_pick_t rfl rfl) ?_
     refine w_end ?_
     obtain rfl := Option.some.inj h
     exact ⟨rfl, _, σ39, fr_join ⟨rfl, rfl, rfl, rfl, rfl, trivial⟩, rfl, H.sel' [2, 3, 1, 0] rfl rfl⟩
    ·replace h := bif_f hb40 h
     refine st_g (v := (I r2.2.2)) (congrArg some hb40) (rv_move rfl) ?_
     refine st_g (v := (B (decide (r2.2.2 < 0)))) (congrArg some hb40) (rv_lss (a := r2.2.2) (b := 0) rfl rfl) ?_
     refine st (v := (B (decide (r2.2.2 < 0)))) (rv_pick_f (congrArg B hb40) rfl) ?_
     refine st (v := (B (decide (r2.2.2 < 0)))) (rv_move rfl) ?_
     rcases Bool.eq_false_or_eq_true (decide (r2.2.2 < 0)) with hb41 | hb41
     ·replace h := bif_t hb41 h
      refine st_skip (congrArg some hb41) ?_
      refine st_skip (congrArg some hb41) ?_
      refine st (v := (B true)) (rv_pick_t (congrArg B hb41) rfl) ?_
      refine w_end ?_
      obtain rfl := Option.some.inj h
      exact ⟨rfl, _, σ39, fr_join ⟨rfl, rfl, rfl, rfl, rfl, trivial⟩, rfl, H.sel' [2, 3, 1, 0] rfl rfl⟩
     ·replace h := bif_f hb41 h
      refine st_g (v := (I r2.2.2)) (congrArg some hb41) (rv_move rfl) ?_
      refine st_g (v := (B (decide (1000 < r2.2.2)))) (congrArg some hb41) (rv_gtr (a := r2.2.2) (b := 1000) rfl rfl) ?_
      refine st (v := (B (decide (1000 < r2.2.2)))) (rv_pick_f (congrArg B hb41) rfl) ?_
      refine w_end ?_
      obtain rfl := Option.some.inj h
      exact ⟨rfl, _, σ39, fr_join ⟨rfl, rfl, rfl, rfl, rfl, trivial⟩, rfl, H.sel' [2, 3, 1, 0] rfl rfl⟩
  ·clear hj
   have h := h'
   clear h' H
   rintro e a w ⟨rfl, ρ, σ42, rfl, rfl, H⟩
   refine q_then ?_
   refine cd_cond o20 rfl (fun hb43 => ?_) (fun hb43 => ?_)
   ·replace h := bif_t hb43 h
    refine c_seq ?_
    refine rg ?_
    refine st (v := (Sl a17 r14 c18)) (rv_move rfl) ?_
    have hc44 := H.cells 2 rfl
    refine st (v := (.agg #[(Sl a5 r2.1.1 c6), (Sl a7 r2.1.2 c8)])) (rv_load (cs := [(Sl a5 r2.1.1 c6), (Sl a7 r2.1.2 c8)]) Try.underlying26 rfl ti26 rfl rfl hc44) ?_
    refine st (v := (I r2.2.1)) (rv_move rfl) ?_
    refine st (v := (I r2.2.2)) (rv_move rfl) ?_
    replace H := H.roLow 0 0 rfl (Nat.zero_le _)
    replace H := H.roLow 2 0 rfl (Nat.zero_le _)
    obtain ⟨r45, hx46, h'⟩ := bind_some h
    clear h
    have h := h'; clear h'
    have hc47 := c_spec_ChangedKeys (ah_0_0 := a5) (ch_0_0 := c6) (ah_0_1 := a7) (ch_0_1 := c8) hx46
    refine st_call (cx_call hc47 (ent_f hc47.fn rfl) hn0 (show Hp S0 σ0 _ ([Ch.ro 0 (Sl a5 r2.1.1 c6) r2.1.1, Ch.ro 0 (Sl a7 r2.1.2 c8) r2.1.2] ++ [Ch.ro 0 (Sl a7 r2.1.2 c8) r2.1.2, Ch.ro 0 (Sl a5 r2.1.1 c6) r2.1.1, Ch.ro n0 (Sl a5 r2.1.1 c6) r2.1.1, Ch.ro n0 (Sl a7 r2.1.2 c8) r2.1.2, Ch.bx n0 b10 0 [(Sl a5 r2.1.1 c6), (Sl a7 r2.1.2 c8)] [] [], Ch.own 0 n0 (Sl a17 r14 c18) r14]) from (H.sel' [1, 0, 0, 1, 2, 3, 4, 5] rfl rfl))) wn ?_
    rintro _ σ50 ⟨_, ⟨a48, c49, rfl, rfl⟩, H, -⟩
    replace H : Hp S0 σ0 σ50 [Ch.own n0 n0 (Sl a48 r45 c49) r45, Ch.ro 0 (Sl a7 r2.1.2 c8) r2.1.2, Ch.ro 0 (Sl a5 r2.1.1 c6) r2.1.1, Ch.ro n0 (Sl a5 r2.1.1 c6) r2.1.1, Ch.ro n0 (Sl a7 r2.1.2 c8) r2.1.2, Ch.bx n0 b10 0 [(Sl a5 r2.1.1 c6), (Sl a7 r2.1.2 c8)] [] [], Ch.own 0 n0 (Sl a17 r14 c18) r14] := H
    replace H := H.ownLow 6 0 0 rfl (Nat.le_refl _) (Nat.zero_le _)
    obtain ⟨σ51, hw52, H, -⟩ := H.pub 0 rfl (Nat.le_refl _)
    rw [← hw52]; clear hw52
    obtain ⟨σ53, hw54, H, -⟩ := H.pub 1 rfl (Nat.le_refl _)
    rw [← hw54]; clear hw54
    replace H := H.roLow 0 0 rfl (Nat.zero_le _)
    obtain ⟨r55, hx56, h'⟩ := bind_some h
    clear h
    have h := h'; clear h'
    have hc57 := c_laws_equalInts (aa_0 := a17) (ca_0 := c18) (ab_1 := a48) (cb_1 := c49) hx56
    refine st_call (cx_call hc57 (ent_f hc57.fn rfl) hn0 (show Hp S0 σ0 _ ([Ch.ro 0 (Sl a17 r14 c18) r14, Ch.ro 0 (Sl a48 r45 c49) r45] ++ [Ch.ro 0 (Sl a48 r45 c49) r45, Ch.ro n0 (Sl a48 r45 c49) r45, Ch.ro 0 (Sl a17 r14 c18) r14, Ch.ro 0 (Sl a7 r2.1.2 c8) r2.1.2, Ch.ro 0 (Sl a5 r2.1.1 c6) r2.1.1, Ch.ro n0 (Sl a5 r2.1.1 c6) r2.1.1, Ch.ro n0 (Sl a7 r2.1.2 c8) r2.1.2, Ch.bx n0 b10 0 [(Sl a5 r2.1.1 c6), (Sl a7 r2.1.2 c8)] [] []]) from (H.sel' [2, 0, 0, 1, 2, 3, 4, 5, 6, 7] rfl rfl))) wn ?_
    rintro _ σ58 ⟨_, ⟨rfl, rfl⟩, H, -⟩
    replace H : Hp S0 σ0 σ58 [Ch.ro 0 (Sl a48 r45 c49) r45, Ch.ro n0 (Sl a48 r45 c49) r45, Ch.ro 0 (Sl a17 r14 c18) r14, Ch.ro 0 (Sl a7 r2.1.2 c8) r2.1.2, Ch.ro 0 (Sl a5 r2.1.1 c6) r2.1.1, Ch.ro n0 (Sl a5 r2.1.1 c6) r2.1.1, Ch.ro n0 (Sl a7 r2.1.2 c8) r2.1.2, Ch.bx n0 b10 0 [(Sl a5 r2.1.1 c6), (Sl a7 r2.1.2 c8)] [] []] := H
    replace H : Hp S0 σ0 σ58 [] := H.sel' [] rfl rfl
    refine st (v := (B r55)) (rv_assign rfl) ?_
    refine w_end ?_
    refine q_then ?_
    refine c_ret ?_
    refine q_then_r ?_
    obtain rfl := Option.some.inj h
    exact fin_ret (v := (B r55)) (results_ok Try.results3 (res_tmp (v := (B r55)) rfl res_nil) rfl) ⟨rfl, rfl⟩ (H.sel' [] rfl rfl)
   ·replace h := bif_f hb43 h
    refine c_skip ?_
    refine q_then ?_
    refine c_seq ?_
    refine rg ?_
    have hc59 := H.cells 2 rfl
    refine st (v := (.agg #[(Sl a5 r2.1.1 c6), (Sl a7 r2.1.2 c8)])) (rv_load (cs := [(Sl a5 r2.1.1 c6), (Sl a7 r2.1.2 c8)]) Try.underlying26 rfl ti26 rfl rfl hc59) ?_
    refine st (v := (I r2.2.2)) (rv_move rfl) ?_
    replace H := H.roLow 0 0 rfl (Nat.zero_le _)
    replace H := H.roLow 2 0 rfl (Nat.zero_le _)
    obtain ⟨r60, hx61, h'⟩ := bind_some h
    clear h
    have h := h'; clear h'
    have hc62 := c_impl_ChangedKeys (ah_0_0 := a5) (ch_0_0 := c6) (ah_0_1 := a7) (ch_0_1 := c8) hx61
    refine st_call (cx_call hc62 (ent_f hc62.fn rfl) hn0 (show Hp S0 σ0 _ ([Ch.ro 0 (Sl a5 r2.1.1 c6) r2.1.1, Ch.ro 0 (Sl a7 r2.1.2 c8) r2.1.2] ++ [Ch.ro 0 (Sl a7 r2.1.2 c8) r2.1.2, Ch.ro 0 (Sl a5 r2.1.1 c6) r2.1.1, Ch.ro n0 (Sl a5 r2.1.1 c6) r2.1.1, Ch.ro n0 (Sl a7 r2.1.2 c8) r2.1.2, Ch.bx n0 b10 0 [(Sl a5 r2.1.1 c6), (Sl a7 r2.1.2 c8)] [] [], Ch.own 0 n0 (Sl a17 r14 c18) r14]) from (H.sel' [1, 0, 0, 1, 2, 3, 4, 5] rfl rfl))) wn ?_
    rintro _ σ65 ⟨_, ⟨a63, c64, rfl, rfl⟩, H, -⟩
    replace H : Hp S0 σ0 σ65 [Ch.own 0 n0 (Sl a63 r60 c64) r60, Ch.ro 0 (Sl a7 r2.1.2 c8) r2.1.2, Ch.ro 0 (Sl a5 r2.1.1 c6) r2.1.1, Ch.ro n0 (Sl a5 r2.1.1 c6) r2.1.1, Ch.ro n0 (Sl a7 r2.1.2 c8) r2.1.2, Ch.bx n0 b10 0 [(Sl a5 r2.1.1 c6), (Sl a7 r2.1.2 c8)] [] [], Ch.own 0 n0 (Sl a17 r14 c18) r14] := H
    refine st (v := (Sl a63 r60 c64)) (rv_assign rfl) ?_
    refine w_end ?_
    refine q_then ?_
    refine c_seq ?_
    refine rg ?_
    have hc66 := H.cells 5 rfl
    refine st (v := (.agg #[(Sl a5 r2.1.1 c6), (Sl a7 r2.1.2 c8)])) (rv_load (cs := [(Sl a5 r2.1.1 c6), (Sl a7 r2.1.2 c8)]) Try.underlying26 rfl ti26 rfl rfl hc66) ?_
    refine st (v := (I r2.2.2)) (rv_move rfl) ?_
    replace H := H.roLow 3 0 rfl (Nat.zero_le _)
    replace H := H.roLow 5 0 rfl (Nat.zero_le _)
    obtain ⟨r67, hx68, h'⟩ := bind_some h
    clear h
    have h := h'; clear h'
    have hc69 := c_impl_StoreAt (ah_0_0 := a5) (ch_0_0 := c6) (ah_0_1 := a7) (ch_0_1 := c8) hx68
    refine st_call (cx_call hc69 (ent_f hc69.fn rfl) hn0 (show Hp S0 σ0 _ ([Ch.ro 0 (Sl a5 r2.1.1 c6) r2.1.1, Ch.ro 0 (Sl a7 r2.1.2 c8) r2.1.2] ++ [Ch.ro 0 (Sl a7 r2.1.2 c8) r2.1.2, Ch.ro 0 (Sl a5 r2.1.1 c6) r2.1.1, Ch.own 0 n0 (Sl a63 r60 c64) r60, Ch.ro 0 (Sl a7 r2.1.2 c8) r2.1.2, Ch.ro 0 (Sl a5 r2.1.1 c6) r2.1.1, Ch.ro n0 (Sl a5 r2.1.1 c6) r2.1.1, Ch.ro n0 (Sl a7 r2.1.2 c8) r2.1.2, Ch.bx n0 b10 0 [(Sl a5 r2.1.1 c6), (Sl a7 r2.1.2 c8)] [] [], Ch.own 0 n0 (Sl a17 r14 c18) r14]) from (H.sel' [1, 0, 0, 1, 2, 3, 4, 5, 6, 7, 8] rfl rfl))) wn ?_
    rintro _ σ72 ⟨_, ⟨a70, c71, rfl, rfl⟩, H, -⟩
    replace H : Hp S0 σ0 σ72 [Ch.own 0 0 (Sl a70 r67 c71) r67, Ch.ro 0 (Sl a7 r2.1.2 c8) r2.1.2, Ch.ro 0 (Sl a5 r2.1.1 c6) r2.1.1, Ch.own 0 n0 (Sl a63 r60 c64) r60, Ch.ro 0 (Sl a7 r2.1.2 c8) r2.1.2, Ch.ro 0 (Sl a5 r2.1.1 c6) r2.1.1, Ch.ro n0 (Sl a5 r2.1.1 c6) r2.1.1, Ch.ro n0 (Sl a7 r2.1.2 c8) r2.1.2, Ch.bx n0 b10 0 [(Sl a5 r2.1.1 c6), (Sl a7 r2.1.2 c8)] [] [], Ch.own 0 n0 (Sl a17 r14 c18) r14] := H
    replace H : Hp S0 σ0 σ72 [Ch.own 0 0 (Sl a70 r67 c71) r67, Ch.own 0 n0 (Sl a63 r60 c64) r60, Ch.ro n0 (Sl a5 r2.1.1 c6) r2.1.1, Ch.ro n0 (Sl a7 r2.1.2 c8) r2.1.2, Ch.bx n0 b10 0 [(Sl a5 r2.1.1 c6), (Sl a7 r2.1.2 c8)] [] []] := H.sel' [0, 3, 6, 7, 8] rfl rfl
    refine st (v := (Sl a70 r67 c71)) (rv_assign rfl) ?_
    refine w_end ?_
    refine q_then ?_
    refine c_seq ?_
    refine c_seq ?_
    refine rg ?_
    refine st (v := (I 0)) (rv_assign rfl) ?_
    refine w_end ?_
    refine q_then ?_
    obtain ⟨o73, hj, h'⟩ := bind_some h
    clear h
    refine c_cut (fun e a w => (∃ t, o73 = (.inl t) ∧ e = .normal ∧ ∃ (ρ : Nat → Value) (σ : St), a = fr 82 (updL ρ [(3, (pt b10 0)), (5, (I r2.2.2)), (7, (Sl a63 r60 c64)), (8, (Sl a70 r67 c71))]) ∧ w = σ.w ∧ Hp S0 σ0 σ [Ch.ro n0 (Sl a5 r2.1.1 c6) r2.1.1, Ch.ro n0 (Sl a7 r2.1.2 c8) r2.1.2, Ch.bx n0 b10 0 [(Sl a5 r2.1.1 c6), (Sl a7 r2.1.2 c8)] [] [], Ch.own 0 n0 (Sl a63 r60 c64) r60, Ch.own 0 0 (Sl a70 r67 c71) r67]) ∨ (∃ t, o73 = (.inr t) ∧ e = .ret ∧ ∃ (ρ : Nat → Value) (σ : St), a = fr 82 (updL ρ [(2, (B t))]) ∧ w = σ.w ∧ Hp S0 σ0 σ [])) ?_ ?_
    ·clear h'
     rename _ = some o73 => h
     refine c_blk ?_
     refine wp_loopM _ h (fun s74 a w => ∃ (ρ : Nat → Value) (σ : St), a = fr 82 (updL ρ [(3, (pt b10 0)), (5, (I r2.2.2)), (7, (Sl a63 r60 c64)), (8, (Sl a70 r67 c71)), (9, (I s74))]) ∧ w = σ.w ∧ Hp S0 σ0 σ [Ch.ro n0 (Sl a5 r2.1.1 c6) r2.1.1, Ch.ro n0 (Sl a7 r2.1.2 c8) r2.1.2, Ch.bx n0 b10 0 [(Sl a5 r2.1.1 c6), (Sl a7 r2.1.2 c8)] [] [], Ch.own 0 n0 (Sl a63 r60 c64) r60, Ch.own 0 0 (Sl a70 r67 c71) r67]) ⟨_, σ72, fr_join ⟨rfl, rfl, rfl, rfl, rfl, trivial⟩, rfl, H.sel' [2, 3, 4, 1, 0] rfl rfl⟩ ?_
     clear h H
     rintro s74 a w o ⟨ρ, σ75, rfl, rfl, H⟩ h hres
     refine c_seq ?_
     refine c_seq ?_
     refine rg ?_
     refine st (v := (I s74)) (rv_move rfl) ?_
     refine st (v := (Sl a70 r67 c71)) (rv_move rfl) ?_
     refine st (v := (I (r67.length : Int))) (rv_len Try.underlying32 rfl) ?_
     refine st (v := (B (decide (s74 < (r67.length : Int))))) (rv_lss (a := s74) (b := (r67.length : Int)) rfl rfl) ?_
     refine w_end ?_
     refine q_then ?_
     refine cd_cond (decide (s74 < (r67.length : Int))) rfl (fun hb76 => ?_) (fun hb76 => ?_)
     ·replace h := bif_t hb76 h
      refine c_skip ?_
      refine q_then ?_
      refine c_seq ?_
      refine c_blk ?_
      refine c_seq ?_
      refine rg ?_
      refine st (v := (Sl a63 r60 c64)) (rv_move rfl) ?_
      refine st (v := (Sl a70 r67 c71)) (rv_move rfl) ?_
      refine st (v := (I s74)) (rv_move rfl) ?_
      obtain ⟨x77, hx78, h'⟩ := bind_some h
      clear h
      have h := h'; clear h'
      obtain ⟨b80, o81, hi79, -⟩ := (H.own 4 rfl).ix hx78
      refine st (v := (pt b80 o81)) (rv_ix Try.underlying32 ti36 rfl rfl hi79) ?_
      refine st (v := (pt b80 (o81 + 0))) (rv_fieldAddr (off := 0) (ft := 3) Try.underlying36 rfl ti3 rfl rfl) ?_
      have hc82 := ((H.own 4 rfl).at hx78 hi79).fst.int
      refine st (v := (I x77.1)) (rv_load1 Try.underlying3 rfl rfl hc82) ?_
      obtain ⟨r83, hx84, h'⟩ := bind_some h
      clear h
      have h := h'; clear h'
      have hc85 := c_laws_isIn (alist_0 := a63) (clist_0 := c64) hx84
      have hle := Nat.le_trans hn0 H.size
      refine st_call (cx_lend (Loan.lend Loan.nil) hc85 (ent_f hc85.fn rfl) (show Hp S0 σ0 _ ([Ch.own 0 n0 (Sl a63 r60 c64) r60] ++ ([] ++ [Ch.ro n0 (Sl a5 r2.1.1 c6) r2.1.1, Ch.ro n0 (Sl a7 r2.1.2 c8) r2.1.2, Ch.bx n0 b10 0 [(Sl a5 r2.1.1 c6), (Sl a7 r2.1.2 c8)] [] [], Ch.own 0 0 (Sl a70 r67 c71) r67])) from (H.sel' [3, 0, 1, 2, 4] rfl rfl)) (by rintro _ _ _ ⟨rfl, rfl⟩; exact trivial)) wn ?_
      rintro _ σ86 ⟨_, ⟨rfl, rfl⟩, H, -, -⟩
      replace H : Hp S0 σ0 σ86 [Ch.own 0 n0 (Sl a63 r60 c64) r60, Ch.ro n0 (Sl a5 r2.1.1 c6) r2.1.1, Ch.ro n0 (Sl a7 r2.1.2 c8) r2.1.2, Ch.bx n0 b10 0 [(Sl a5 r2.1.1 c6), (Sl a7 r2.1.2 c8)] [] [], Ch.own 0 0 (Sl a70 r67 c71) r67] := H
      clear hle
      replace H : Hp S0 σ0 σ86 [Ch.own 0 n0 (Sl a63 r60 c64) r60, Ch.ro n0 (Sl a5 r2.1.1 c6) r2.1.1, Ch.ro n0 (Sl a7 r2.1.2 c8) r2.1.2, Ch.bx n0 b10 0 [(Sl a5 r2.1.1 c6), (Sl a7 r2.1.2 c8)] [] [], Ch.own 0 0 (Sl a70 r67 c71) r67] := H
      refine st (v := (B (!r83))) (rv_not rfl) ?_
      refine w_end ?_
      refine q_then ?_
      refine cd_cond (!r83) rfl (fun hb87 => ?_) (fun hb87 => ?_)
      ·replace h := bif_t hb87 h
       refine c_seq ?_
       refine rg ?_
       refine st (v := (B false)) (rv_assign rfl) ?_
       refine w_end ?_
       refine q_then ?_
       refine c_ret ?_
       refine q_blk_r ?_
       refine q_then_r ?_
       refine q_then_r ?_
       refine q_blk_r ?_
       obtain rfl := Option.some.inj h
       obtain rfl := hres _ rfl
       exact .inr (⟨_, rfl, rfl, _, σ86, fr_join ⟨rfl, trivial⟩, rfl, H.sel' [] rfl rfl⟩)
      ·replace h := bif_f hb87 h
       refine c_skip ?_
       refine q_blk ?_
       refine q_then ?_
       refine rg ?_
       refine st (v := (I s74)) (rv_move rfl) ?_
       refine st (v := (I (w64 (s74 + 1)))) (rv_add (a := s74) (b := 1) rfl rfl) ?_
       refine st (v := (I (w64 (s74 + 1)))) (rv_assign rfl) ?_
       refine w_end ?_
       refine q_then ?_
       obtain rfl := Option.some.inj h
       exact ⟨_, rfl, _, σ86, fr_join ⟨rfl, rfl, rfl, rfl, rfl, trivial⟩, rfl, H.sel' [1, 2, 3, 0, 4] rfl rfl⟩
     ·replace h := bif_f hb76 h
      refine c_exit ?_
      refine q_then_x ?_
      refine q_then_x ?_
      refine q_blk_hit ?_
      obtain rfl := Option.some.inj h
      obtain rfl := hres _ rfl
      exact .inl ⟨_, rfl, rfl, _, σ75, fr_join ⟨rfl, rfl, rfl, rfl, trivial⟩, rfl, H.sel' [0, 1, 2, 3, 4] rfl rfl⟩
    ·clear hj
     have h := h'
     clear h' H
     rintro e a w (⟨t88, rfl, rfl, ρ, σ89, rfl, rfl, H⟩ | ⟨t98, rfl, rfl, ρ, σ99, rfl, rfl, H⟩)
     ·replace h := selim_l h
      refine q_then ?_
      refine c_seq ?_
      refine rg ?_
      refine st (v := (Sl a63 r60 c64)) (rv_move rfl) ?_
      refine st (v := (I (r60.length : Int))) (rv_len Try.underlying24 rfl) ?_
      refine st (v := (Sl a70 r67 c71)) (rv_move rfl) ?_
      refine st (v := (I (r67.length : Int))) (rv_len Try.underlying32 rfl) ?_
      refine st (v := (B ((r60.length : Int) == (r67.length : Int)))) (rv_eql (a := (r60.length : Int)) (b := (r67.length : Int)) rfl rfl) ?_
      refine st (v := (B ((r60.length : Int) == (r67.length : Int)))) (rv_move rfl) ?_
      rcases Bool.eq_false_or_eq_true ((r60.length : Int) == (r67.length : Int)) with hb90 | hb90
      ·replace h := bif_t hb90 h
       have hc91 := H.cells 2 rfl
       refine st_g (v := (.agg #[(Sl a5 r2.1.1 c6), (Sl a7 r2.1.2 c8)])) (congrArg some hb90) (rv_load (cs := [(Sl a5 r2.1.1 c6), (Sl a7 r2.1.2 c8)]) Try.underlying26 rfl ti26 rfl rfl hc91) ?_
       refine st_g (v := (I r2.2.2)) (congrArg some hb90) (rv_move rfl) ?_
       refine st_g (v := (I r2.2.2)) (congrArg some hb90) (rv_move rfl) ?_
       replace H := H.roLow 0 0 rfl (Nat.zero_le _)
       replace H := H.roLow 2 0 rfl (Nat.zero_le _)
       obtain ⟨r92, hx93, h'⟩ := bind_some h
       clear h
       have h := h'; clear h'
       have hc94 := c_impl_ChangedKeys (ah_0_0 := a5) (ch_0_0 := c6) (ah_0_1 := a7) (ch_0_1 := c8) hx93
       refine st_call (cx_call hc94 (ent_f hc94.fn rfl) hn0 (show Hp S0 σ0 _ ([Ch.ro 0 (Sl a5 r2.1.1 c6) r2.1.1, Ch.ro 0 (Sl a7 r2.1.2 c8) r2.1.2] ++ [Ch.ro 0 (Sl a7 r2.1.2 c8) r2.1.2, Ch.ro 0 (Sl a5 r2.1.1 c6) r2.1.1, Ch.ro n0 (Sl a5 r2.1.1 c6) r2.1.1, Ch.ro n0 (Sl a7 r2.1.2 c8) r2.1.2, Ch.bx n0 b10 0 [(Sl a5 r2.1.1 c6), (Sl a7 r2.1.2 c8)] [] [], Ch.own 0 n0 (Sl a63 r60 c64) r60, Ch.own 0 0 (Sl a70 r67 c71) r67]) from (H.sel' [1, 0, 0, 1, 2, 3, 4, 5, 6] rfl rfl))) (wanted_yes rfl (by exact (congrArg some hb90))) ?_
       rintro _ σ97 ⟨_, ⟨a95, c96, rfl, rfl⟩, H, -⟩
       replace H : Hp S0 σ0 σ97 [Ch.own 0 n0 (Sl a95 r92 c96) r92, Ch.ro 0 (Sl a7 r2.1.2 c8) r2.1.2, Ch.ro 0 (Sl a5 r2.1.1 c6) r2.1.1, Ch.ro n0 (Sl a5 r2.1.1 c6) r2.1.1, Ch.ro n0 (Sl a7 r2.1.2 c8) r2.1.2, Ch.bx n0 b10 0 [(Sl a5 r2.1.1 c6), (Sl a7 r2.1.2 c8)] [] [], Ch.own 0 n0 (Sl a63 r60 c64) r60, Ch.own 0 0 (Sl a70 r67 c71) r67] := H
       replace H : Hp S0 σ0 σ97 [Ch.own 0 n0 (Sl a95 r92 c96) r92] := H.sel' [0] rfl rfl
       refine st_g (v := (I (r92.length : Int))) (congrArg some hb90) (rv_len Try.underlying24 rfl) ?_
       refine st_g (v := (B ((r92.length : Int) == 0))) (congrArg some hb90) (rv_eql (a := (r92.length : Int)) (b := 0) rfl rfl) ?_
       refine st (v := (B ((r92.length : Int) == 0))) (rv_pick_t (congrArg B hb90) rfl) ?_
       refine st (v := (B ((r92.length : Int) == 0))) (rv_assign rfl) ?_
       refine w_end ?_
       refine q_then ?_
       refine c_ret ?_
       obtain rfl := Option.some.inj h
       exact fin_ret (v := (B ((r92.length : Int) == 0))) (results_ok Try.results3 (res_tmp (v := (B ((r92.length : Int) == 0))) rfl res_nil) rfl) ⟨rfl, rfl⟩ (H.sel' [] rfl rfl)
      ·replace h := bif_f hb90 h
       refine st_skip (congrArg some hb90) ?_
       refine st_skip (congrArg some hb90) ?_
       refine st_skip (congrArg some hb90) ?_
       refine st_skip (congrArg some hb90) ?_
       refine st_skip (congrArg some hb90) ?_
       refine st_skip (congrArg some hb90) ?_
       refine st (v := (B false)) (rv_pick_f (congrArg B hb90) rfl) ?_
       refine st (v := (B false)) (rv_assign rfl) ?_
       refine w_end ?_
       refine q_then ?_
       refine c_ret ?_
       obtain rfl := Option.some.inj h
       exact fin_ret (v := (B false)) (results_ok Try.results3 (res_tmp (v := (B false)) rfl res_nil) rfl) ⟨rfl, rfl⟩ (H.sel' [] rfl rfl)
     ·replace h := selim_r h
      refine q_then_r ?_
      obtain rfl := Option.some.inj h
      exact fin_ret (v := (B t98)) (results_ok Try.results3 (res_tmp (v := (B t98)) rfl res_nil) rfl) ⟨rfl, rfl⟩ (H.sel' [] rfl rfl)

end Go.Vs
