/- The functions compute what their models say. -/
import Derived.Test.YtgokepoinohioabKGetItemC2
set_option linter.unusedVariables false
set_option linter.unusedSimpArgs false
set_option maxRecDepth 20000
namespace Go.Vs
open Go Go.Proofs
attribute [local irreducible] Code.wp Code.wpIn wpList wpListIn wpQuiet Calls CallsIn

theorem c_laws_FnGetItem {code_0 : List UInt8} {acode_0 : Option Addr} {ccode_0 : Nat} {r : Bool} (h : M.laws_FnGetItem code_0 = some r) :
    Cal2 Try.prog 6 [(Sl acode_0 code_0 ccode_0)] [Ch.ro 0 (Sl acode_0 code_0 ccode_0) code_0] (fun n0 v L => v = (B r) ∧ L = []) := by
 refine cal2 (n := 80) Try.func6 rfl rfl rfl rfl ?_
 intro S0 σ0 n0 hn0 H
 unfold M.laws_FnGetItem at h
 refine c_seq ?_
 refine rg ?_
 refine st (v := (B false)) (rv_assign rfl) ?_
 refine w_end ?_
 refine q_then ?_
 refine c_seq ?_
 refine c_seq ?_
 refine rg ?_
 refine st (v := (Sl acode_0 code_0 ccode_0)) (rv_move rfl) ?_
 refine st (v := (I (code_0.length : Int))) (rv_len Try.underlying22 rfl) ?_
 refine st (v := (B (decide (1048576 < (code_0.length : Int))))) (rv_gtr (a := (code_0.length : Int)) (b := 1048576) rfl rfl) ?_
 refine w_end ?_
 refine q_then ?_
 refine cd_cond (decide (1048576 < (code_0.length : Int))) rfl (fun hb1 => ?_) (fun hb1 => ?_)
 ·replace h := bif_t hb1 h
  refine c_seq ?_
  refine rg ?_
  refine st (v := (B true)) (rv_assign rfl) ?_
  refine w_end ?_
  refine q_then ?_
  refine c_ret ?_
  refine q_then_r ?_
  obtain rfl := Option.some.inj h
  exact fin_ret (v := (B true)) (results_ok Try.results6 (res_tmp (v := (B true)) rfl res_nil) rfl) ⟨rfl, rfl⟩ (H.sel' [] rfl rfl)
 ·replace h := bif_f hb1 h
  refine c_skip ?_
  refine q_then ?_
  refine c_seq ?_
  refine rg ?_
  refine st (v := (Sl acode_0 code_0 ccode_0)) (rv_move rfl) ?_
  obtain ⟨r2, hx3, h'⟩ := bind_some h
  clear h
  have h := h'; clear h'
  have hc4 := c_spec_DrawGetItem (acode_0 := acode_0) (ccode_0 := ccode_0) hx3
  refine st_call (cx_call hc4 (ent_f hc4.fn rfl) hn0 (show Hp S0 σ0 _ ([Ch.ro 0 (Sl acode_0 code_0 ccode_0) code_0] ++ [Ch.ro 0 (Sl acode_0 code_0 ccode_0) code_0]) from (H.sel' [0, 0] rfl rfl))) wn ?_
  rintro _ σ7 ⟨_, ⟨a5, c6, rfl, rfl⟩, H, -⟩
  replace H : Hp S0 σ0 σ7 [Ch.ro n0 (Sl a5 r2.1 c6) r2.1, Ch.ro 0 (Sl acode_0 code_0 ccode_0) code_0] := H
  refine st (v := (.tuple #[(Sl a5 r2.1 c6), (I r2.2)])) (rv_move rfl) ?_
  refine st (v := (Sl a5 r2.1 c6)) (rv_extract rfl rfl) ?_
  refine st (v := (I r2.2)) (rv_extract rfl rfl) ?_
  refine st (v := (Sl a5 r2.1 c6)) (rv_assign rfl) ?_
  refine st (v := (I r2.2)) (rv_assign rfl) ?_
  refine w_end ?_
  refine q_then ?_
  refine c_seq ?_
  refine rg ?_
  refine st (v := (Sl a5 r2.1 c6)) (rv_move rfl) ?_
  refine st (v := (I r2.2)) (rv_move rfl) ?_
  replace H := H.roLow 0 0 rfl (Nat.zero_le _)
  obtain ⟨r8, hx9, h'⟩ := bind_some h
  clear h
  have h := h'; clear h'
  have hc10 := c_impl_GetItem (alist_0 := a5) (clist_0 := c6) hx9
  refine st_call (cx_call hc10 (ent_f hc10.fn rfl) hn0 (show Hp S0 σ0 _ ([Ch.ro 0 (Sl a5 r2.1 c6) r2.1] ++ [Ch.ro 0 (Sl a5 r2.1 c6) r2.1, Ch.ro n0 (Sl a5 r2.1 c6) r2.1, Ch.ro 0 (Sl acode_0 code_0 ccode_0) code_0]) from (H.sel' [0, 0, 1, 2] rfl rfl))) wn ?_
  rintro _ σ13 ⟨_, ⟨a11, c12, rfl, rfl⟩, H, -⟩
  replace H : Hp S0 σ0 σ13 [Ch.own n0 n0 (Sl a11 r8.1.2.1 c12) r8.1.2.1, Ch.ro 0 (Sl a5 r2.1 c6) r2.1, Ch.ro n0 (Sl a5 r2.1 c6) r2.1, Ch.ro 0 (Sl acode_0 code_0 ccode_0) code_0] := H
  refine st (v := (.tuple #[(.agg #[(I r8.1.1), (Sl a11 r8.1.2.1 c12), (I r8.1.2.2)]), (B r8.2)])) (rv_move rfl) ?_
  refine st (v := (.agg #[(I r8.1.1), (Sl a11 r8.1.2.1 c12), (I r8.1.2.2)])) (rv_extract rfl rfl) ?_
  refine st (v := (B r8.2)) (rv_extract rfl rfl) ?_
  refine st_ex (ex_alloc (cs := [(I 0), (.slice none 0 0), (I 0)]) H hn0 ti26 rfl) wn ?_
  rintro _ σ15 ⟨b14, rfl, H, -⟩
  refine st_exS (ex_store_box (k := 0) (cs := [(I 0), (.slice none 0 0), (I 0)]) (vs := [(I r8.1.1), (Sl a11 r8.1.2.1 c12), (I r8.1.2.2)]) (cs' := [(I r8.1.1), (Sl a11 r8.1.2.1 c12), (I r8.1.2.2)]) H (i := 0) rfl ti26 rfl rfl rfl rfl rfl (Nat.le_of_ble_eq_true rfl) (by simp [plain]) rfl) wn ?_
  rintro σ16 ⟨H, -⟩
  refine st (v := (B r8.2)) (rv_assign rfl) ?_
  refine w_end ?_
  refine q_then ?_
  refine c_seq ?_
  refine rg ?_
  refine st (v := (Sl a5 r2.1 c6)) (rv_move rfl) ?_
  refine st (v := (I r2.2)) (rv_move rfl) ?_
  replace H := H.roLow 3 0 rfl (Nat.zero_le _)
  obtain ⟨r17, hx18, h'⟩ := bind_some h
  clear h
  have h := h'; clear h'
  have hc19 := c_spec_GetItem (alist_0 := a5) (clist_0 := c6) hx18
  refine st_call (cx_call hc19 (ent_f hc19.fn rfl) hn0 (show Hp S0 σ0 _ ([Ch.ro 0 (Sl a5 r2.1 c6) r2.1] ++ [Ch.ro 0 (Sl a5 r2.1 c6) r2.1, Ch.bx n0 b14 0 [(I r8.1.1), (Sl a11 r8.1.2.1 c12), (I r8.1.2.2)] [] [], Ch.own n0 n0 (Sl a11 r8.1.2.1 c12) r8.1.2.1, Ch.ro 0 (Sl a5 r2.1 c6) r2.1, Ch.ro n0 (Sl a5 r2.1 c6) r2.1, Ch.ro 0 (Sl acode_0 code_0 ccode_0) code_0]) from (H.sel' [0, 0, 1, 2, 3, 4, 5] rfl rfl))) wn ?_
  rintro _ σ22 ⟨_, ⟨a20, c21, rfl, rfl⟩, H, -⟩
  replace H : Hp S0 σ0 σ22 [Ch.own n0 n0 (Sl a20 r17.1.2.1 c21) r17.1.2.1, Ch.ro 0 (Sl a5 r2.1 c6) r2.1, Ch.bx n0 b14 0 [(I r8.1.1), (Sl a11 r8.1.2.1 c12), (I r8.1.2.2)] [] [], Ch.own n0 n0 (Sl a11 r8.1.2.1 c12) r8.1.2.1, Ch.ro 0 (Sl a5 r2.1 c6) r2.1, Ch.ro n0 (Sl a5 r2.1 c6) r2.1, Ch.ro 0 (Sl acode_0 code_0 ccode_0) code_0] := H
  refine st (v := (.tuple #[(.agg #[(I r17.1.1), (Sl a20 r17.1.2.1 c21), (I r17.1.2.2)]), (B r17.2)])) (rv_move rfl) ?_
  refine st (v := (.agg #[(I r17.1.1), (Sl a20 r17.1.2.1 c21), (I r17.1.2.2)])) (rv_extract rfl rfl) ?_
  refine st (v := (B r17.2)) (rv_extract rfl rfl) ?_
  refine st_ex (ex_alloc (cs := [(I 0), (.slice none 0 0), (I 0)]) H hn0 ti26 rfl) wn ?_
  rintro _ σ24 ⟨b23, rfl, H, -⟩
  replace H : Hp S0 σ0 σ24 [Ch.bx n0 b23 0 [(I 0), (.slice none 0 0), (I 0)] [] [], Ch.own n0 n0 (Sl a20 r17.1.2.1 c21) r17.1.2.1, Ch.bx n0 b14 0 [(I r8.1.1), (Sl a11 r8.1.2.1 c12), (I r8.1.2.2)] [] [], Ch.own n0 n0 (Sl a11 r8.1.2.1 c12) r8.1.2.1, Ch.ro n0 (Sl a5 r2.1 c6) r2.1] := H.sel' [0, 1, 3, 4, 6] rfl rfl
  refine st_exS (ex_store_box (k := 0) (cs := [(I 0), (.slice none 0 0), (I 0)]) (vs := [(I r17.1.1), (Sl a20 r17.1.2.1 c21), (I r17.1.2.2)]) (cs' := [(I r17.1.1), (Sl a20 r17.1.2.1 c21), (I r17.1.2.2)]) H (i := 0) rfl ti26 rfl rfl rfl rfl rfl (Nat.le_of_ble_eq_true rfl) (by simp [plain]) rfl) wn ?_
  rintro σ25 ⟨H, -⟩
  refine st (v := (B r17.2)) (rv_assign rfl) ?_
  refine w_end ?_
  refine q_then ?_
  refine c_seq ?_
  refine c_seq ?_
  obtain ⟨o26, hj, h'⟩ := bind_some h
  clear h
  refine c_cut (fun e a w => e = .normal ∧ ∃ (ρ : Nat → Value) (σ : St), a = fr 80 (updL ρ [(3, (Sl a5 r2.1 c6)), (4, (I r2.2)), (5, (pt b14 0)), (6, (B r8.2)), (7, (pt b23 0)), (8, (B r17.2)), (44, (B o26))]) ∧ w = σ.w ∧ Hp S0 σ0 σ [Ch.ro n0 (Sl a5 r2.1 c6) r2.1, Ch.own n0 n0 (Sl a11 r8.1.2.1 c12) r8.1.2.1, Ch.bx n0 b14 0 [(I r8.1.1), (Sl a11 r8.1.2.1 c12), (I r8.1.2.2)] [] [], Ch.own n0 n0 (Sl a20 r17.1.2.1 c21) r17.1.2.1, Ch.bx n0 b23 0 [(I r17.1.1), (Sl a20 r17.1.2.1 c21), (I r17.1.2.2)] [] []]) ?_ ?_
  ·clear h'
   rename _ = some o26 => h
   refine rg ?_
   have hc27 := H.cells 2 rfl
   refine st (v := (.agg #[(I r8.1.1), (Sl a11 r8.1.2.1 c12), (I r8.1.2.2)])) (rv_load (cs := [(I r8.1.1), (Sl a11 r8.1.2.1 c12), (I r8.1.2.2)]) Try.underlying26 rfl ti26 rfl rfl hc27) ?_
   have hc28 := H.cells 0 rfl
   refine st (v := (.agg #[(I r17.1.1), (Sl a20 r17.1.2.1 c21), (I r17.1.2.2)])) (rv_load (cs := [(I r17.1.1), (Sl a20 r17.1.2.1 c21), (I r17.1.2.2)]) Try.underlying26 rfl ti26 rfl rfl hc28) ?_
   obtain ⟨r29, hx30, h'⟩ := bind_some h
   clear h
   have h := h'; clear h'
   have hc31 := c_laws_equalItem (aa_0_1 := a11) (ca_0_1 := c12) (ab_1_1 := a20) (cb_1_1 := c21) hx30
   have hle := Nat.le_trans hn0 H.size
   refine st_call (cx_lend (Loan.lend (Loan.lend Loan.nil)) hc31 (ent_f hc31.fn rfl) (show Hp S0 σ0 _ ([Ch.own n0 n0 (Sl a11 r8.1.2.1 c12) r8.1.2.1, Ch.own n0 n0 (Sl a20 r17.1.2.1 c21) r17.1.2.1] ++ ([] ++ [Ch.bx n0 b23 0 [(I r17.1.1), (Sl a20 r17.1.2.1 c21), (I r17.1.2.2)] [] [], Ch.bx n0 b14 0 [(I r8.1.1), (Sl a11 r8.1.2.1 c12), (I r8.1.2.2)] [] [], Ch.ro n0 (Sl a5 r2.1 c6) r2.1])) from (H.sel' [3, 1, 0, 2, 4] rfl rfl)) (by rintro _ _ _ ⟨rfl, rfl⟩; exact trivial)) wn ?_
   rintro _ σ32 ⟨_, ⟨rfl, rfl⟩, H, -, -⟩
   replace H : Hp S0 σ0 σ32 [Ch.own n0 n0 (Sl a11 r8.1.2.1 c12) r8.1.2.1, Ch.own n0 n0 (Sl a20 r17.1.2.1 c21) r17.1.2.1, Ch.bx n0 b23 0 [(I r17.1.1), (Sl a20 r17.1.2.1 c21), (I r17.1.2.2)] [] [], Ch.bx n0 b14 0 [(I r8.1.1), (Sl a11 r8.1.2.1 c12), (I r8.1.2.2)] [] [], Ch.ro n0 (Sl a5 r2.1 c6) r2.1] := H
   clear hle
   replace H : Hp S0 σ0 σ32 [Ch.own n0 n0 (Sl a11 r8.1.2.1 c12) r8.1.2.1, Ch.own n0 n0 (Sl a20 r17.1.2.1 c21) r17.1.2.1, Ch.bx n0 b23 0 [(I r17.1.1), (Sl a20 r17.1.2.1 c21), (I r17.1.2.2)] [] [], Ch.bx n0 b14 0 [(I r8.1.1), (Sl a11 r8.1.2.1 c12), (I r8.1.2.2)] [] [], Ch.ro n0 (Sl a5 r2.1 c6) r2.1] := H
   refine st (v := (B (!r29))) (rv_not rfl) ?_
   refine st (v := (B (!r29))) (rv_move rfl) ?_
   rcases Bool.eq_false_or_eq_true (!r29) with hb33 | hb33
   ·replace h := bif_t hb33 h
    refine st_skip (congrArg some hb33) ?_
    refine st_skip (congrArg some hb33) ?_
    refine st_skip (congrArg some hb33) ?_
    refine st (v := (B true)) (rv_pick_t (congrArg B hb33) rfl) ?_
    refine st (v := (B true)) (rv_move rfl) ?_
    refine st_skip rfl ?_
    refine st_skip rfl ?_
    refine st_skip rfl ?_
    refine st (v := (B true)) (rv_pick_t rfl rfl) ?_
    refine w_end ?_
    obtain rfl := Option.some.inj h
    exact ⟨rfl, _, σ32, fr_join ⟨rfl, rfl, rfl, rfl, rfl, rfl, rfl, trivial⟩, rfl, H.sel' [4, 0, 3, 1, 2] rfl rfl⟩
   ·replace h := bif_f hb33 h
    refine st_g (v := (B r8.2)) (congrArg some hb33) (rv_move rfl) ?_
    refine st_g (v := (B r17.2)) (congrArg some hb33) (rv_move rfl) ?_
    refine st_g (v := (B (r8.2 != r17.2))) (congrArg some hb33) (rv_bneq Try.underlying4 rfl rfl) ?_
    refine st (v := (B (r8.2 != r17.2))) (rv_pick_f (congrArg B hb33) rfl) ?_
    refine st (v := (B (r8.2 != r17.2))) (rv_move rfl) ?_
    rcases Bool.eq_false_or_eq_true (r8.2 != r17.2) with hb34 | hb34
    ·replace h := bif_t hb34 h
     refine st_skip (congrArg some hb34) ?_
     refine st_skip (congrArg some hb34) ?_
     refine st_skip (congrArg some hb34) ?_
     refine st (v := (B true)) (rv_pick_t (congrArg B hb34) rfl) ?_
     refine w_end ?_
     obtain rfl := Option.some.inj h
     exact ⟨rfl, _, σ32, fr_join ⟨rfl, rfl, rfl, rfl, rfl, rfl, rfl, trivial⟩, rfl, H.sel' [4, 0, 3, 1, 2] rfl rfl⟩
    ·replace h := bif_f hb34 h
     refine st_g (v := (Sl a5 r2.1 c6)) (congrArg some hb34) (rv_move rfl) ?_
     replace H := H.roLow 4 0 rfl (Nat.zero_le _)
     obtain ⟨r35, hx36, h'⟩ := bind_some h
     clear h
     have h := h'; clear h'
     have hc37 := c_impl_ValidStore (alist_0 := a5) (clist_0 := c6) hx36
     refine st_call (cx_call hc37 (ent_f hc37.fn rfl) hn0 (show Hp S0 σ0 _ ([Ch.ro 0 (Sl a5 r2.1 c6) r2.1] ++ [Ch.ro 0 (Sl a5 r2.1 c6) r2.1, Ch.own n0 n0 (Sl a11 r8.1.2.1 c12) r8.1.2.1, Ch.own n0 n0 (Sl a20 r17.1.2.1 c21) r17.1.2.1, Ch.bx n0 b23 0 [(I r17.1.1), (Sl a20 r17.1.2.1 c21), (I r17.1.2.2)] [] [], Ch.bx n0 b14 0 [(I r8.1.1), (Sl a11 r8.1.2.1 c12), (I r8.1.2.2)] [] [], Ch.ro n0 (Sl a5 r2.1 c6) r2.1]) from (H.sel' [0, 0, 1, 2, 3, 4, 5] rfl rfl))) (wanted_yes rfl (by exact (congrArg some hb34))) ?_
     rintro _ σ38 ⟨_, ⟨rfl, rfl⟩, H, -⟩
     replace H : Hp S0 σ0 σ38 [Ch.ro 0 (Sl a5 r2.1 c6) r2.1, Ch.own n0 n0 (Sl a11 r8.1.2.1 c12) r8.1.2.1, Ch.own n0 n0 (Sl a20 r17.1.2.1 c21) r17.1.2.1, Ch.bx n0 b23 0 [(I r17.1.1), (Sl a20 r17.1.2.1 c21), (I r17.1.2.2)] [] [], Ch.bx n0 b14 0 [(I r8.1.1), (Sl a11 r8.1.2.1 c12), (I r8.1.2.2)] [] [], Ch.ro n0 (Sl a5 r2.1 c6) r2.1] := H
     refine st_g (v := (B (!r35))) (congrArg some hb34) (rv_not rfl) ?_
     refine st (v := (B (!r35))) (rv_pick_f (congrArg B hb34) rfl) ?_
     refine w_end ?_
     obtain rfl := Option.some.inj h
     exact ⟨rfl, _, σ38, fr_join ⟨rfl, rfl, rfl, rfl, rfl, rfl, rfl, trivial⟩, rfl, H.sel' [5, 1, 4, 2, 3] rfl rfl⟩
  ·clear hj
   have h := h'
   clear h' H
   rintro e a w ⟨rfl, ρ, σ39, rfl, rfl, H⟩
   refine q_then ?_
   refine cd_cond o26 rfl (fun hb40 => ?_) (fun hb40 => ?_)
   ·replace h := bif_t hb40 h
    refine c_seq ?_
    refine rg ?_
    have hc41 := H.cells 2 rfl
    refine st (v := (.agg #[(I r8.1.1), (Sl a11 r8.1.2.1 c12), (I r8.1.2.2)])) (rv_load (cs := [(I r8.1.1), (Sl a11 r8.1.2.1 c12), (I r8.1.2.2)]) Try.underlying26 rfl ti26 rfl rfl hc41) ?_
    have hc42 := H.cells 4 rfl
    refine st (v := (.agg #[(I r17.1.1), (Sl a20 r17.1.2.1 c21), (I r17.1.2.2)])) (rv_load (cs := [(I r17.1.1), (Sl a20 r17.1.2.1 c21), (I r17.1.2.2)]) Try.underlying26 rfl ti26 rfl rfl hc42) ?_
    obtain ⟨σ43, hw44, H, -⟩ := H.pub 1 rfl (Nat.le_refl _)
    rw [← hw44]; clear hw44
    obtain ⟨σ45, hw46, H, -⟩ := H.pub 3 rfl (Nat.le_refl _)
    rw [← hw46]; clear hw46
    replace H := H.roLow 1 0 rfl (Nat.zero_le _)
    replace H := H.roLow 1 0 rfl (Nat.zero_le _)
    obtain ⟨r47, hx48, h'⟩ := bind_some h
    clear h
    have h := h'; clear h'
    have hc49 := c_laws_equalItem (aa_0_1 := a11) (ca_0_1 := c12) (ab_1_1 := a20) (cb_1_1 := c21) hx48
    refine st_call (cx_call hc49 (ent_f hc49.fn rfl) hn0 (show Hp S0 σ0 _ ([Ch.ro 0 (Sl a11 r8.1.2.1 c12) r8.1.2.1, Ch.ro 0 (Sl a20 r17.1.2.1 c21) r17.1.2.1] ++ [Ch.ro 0 (Sl a20 r17.1.2.1 c21) r17.1.2.1, Ch.ro 0 (Sl a11 r8.1.2.1 c12) r8.1.2.1, Ch.ro n0 (Sl a20 r17.1.2.1 c21) r17.1.2.1, Ch.ro n0 (Sl a11 r8.1.2.1 c12) r8.1.2.1, Ch.ro n0 (Sl a5 r2.1 c6) r2.1, Ch.bx n0 b14 0 [(I r8.1.1), (Sl a11 r8.1.2.1 c12), (I r8.1.2.2)] [] [], Ch.bx n0 b23 0 [(I r17.1.1), (Sl a20 r17.1.2.1 c21), (I r17.1.2.2)] [] []]) from (H.sel' [1, 0, 0, 1, 2, 3, 4, 5, 6] rfl rfl))) wn ?_
    rintro _ σ50 ⟨_, ⟨rfl, rfl⟩, H, -⟩
    replace H : Hp S0 σ0 σ50 [Ch.ro 0 (Sl a20 r17.1.2.1 c21) r17.1.2.1, Ch.ro 0 (Sl a11 r8.1.2.1 c12) r8.1.2.1, Ch.ro n0 (Sl a20 r17.1.2.1 c21) r17.1.2.1, Ch.ro n0 (Sl a11 r8.1.2.1 c12) r8.1.2.1, Ch.ro n0 (Sl a5 r2.1 c6) r2.1, Ch.bx n0 b14 0 [(I r8.1.1), (Sl a11 r8.1.2.1 c12), (I r8.1.2.2)] [] [], Ch.bx n0 b23 0 [(I r17.1.1), (Sl a20 r17.1.2.1 c21), (I r17.1.2.2)] [] []] := H
    refine st (v := (B r47)) (rv_move rfl) ?_
    rcases Bool.eq_false_or_eq_true r47 with hb51 | hb51
    ·replace h := bif_t hb51 h
     refine st_g (v := (B r8.2)) (congrArg some hb51) (rv_move rfl) ?_
     refine st_g (v := (B r17.2)) (congrArg some hb51) (rv_move rfl) ?_
     refine st_g (v := (B (r8.2 == r17.2))) (congrArg some hb51) (rv_beql Try.underlying4 rfl rfl) ?_
     refine st (v := (B (r8.2 == r17.2))) (rv_pick_t (congrArg B hb51) rfl) ?_
     refine st (v := (B (r8.2 == r17.2))) (rv_assign rfl) ?_
     refine w_end ?_
     refine q_then ?_
     refine c_ret ?_
     refine q_then_r ?_
     obtain rfl := Option.some.inj h
     exact fin_ret (v := (B (r8.2 == r17.2))) (results_ok Try.results6 (res_tmp (v := (B (r8.2 == r17.2))) rfl res_nil) rfl) ⟨rfl, rfl⟩ (H.sel' [] rfl rfl)
    ·replace h := bif_f hb51 h
     refine st_skip (congrArg some hb51) ?_
     refine st_skip (congrArg some hb51) ?_
     refine st_skip (congrArg some hb51) ?_
     refine st (v := (B false)) (rv_pick_f (congrArg B hb51) rfl) ?_
     refine st (v := (B false)) (rv_assign rfl) ?_
     refine w_end ?_
     refine q_then ?_
     refine c_ret ?_
     refine q_then_r ?_
     obtain rfl := Option.some.inj h
     exact fin_ret (v := (B false)) (results_ok Try.results6 (res_tmp (v := (B false)) rfl res_nil) rfl) ⟨rfl, rfl⟩ (H.sel' [] rfl rfl)
   ·replace h := bif_f hb40 h
    refine c_skip ?_
    refine q_then ?_
    refine c_seq ?_
    refine rg ?_
    refine st (v := (B false)) (rv_assign rfl) ?_
    refine w_end ?_
    refine q_then ?_
    refine c_seq ?_
    refine c_seq ?_
    refine rg ?_
    refine st (v := (I 0)) (rv_assign rfl) ?_
    refine w_end ?_
    refine q_then ?_
    obtain ⟨o52, hj, h'⟩ := bind_some h
    clear h
    refine c_cut (fun e a w => e = .normal ∧ ∃ (ρ : Nat → Value) (σ : St), a = fr 80 (updL ρ [(6, (B r8.2)), (9, (B o52))]) ∧ w = σ.w ∧ Hp S0 σ0 σ []) ?_ ?_
    ·clear h'
     rename _ = some o52 => h
     refine c_blk ?_
     refine wp_loopM _ h (fun s53 a w => ∃ (ρ : Nat → Value) (σ : St), a = fr 80 (updL ρ [(3, (Sl a5 r2.1 c6)), (4, (I r2.2)), (5, (pt b14 0)), (6, (B r8.2)), (9, (B s53.1)), (10, (I s53.2))]) ∧ w = σ.w ∧ Hp S0 σ0 σ [Ch.ro n0 (Sl a5 r2.1 c6) r2.1, Ch.own n0 n0 (Sl a11 r8.1.2.1 c12) r8.1.2.1, Ch.bx n0 b14 0 [(I r8.1.1), (Sl a11 r8.1.2.1 c12), (I r8.1.2.2)] [] []]) ⟨_, σ39, fr_join ⟨rfl, rfl, rfl, rfl, rfl, rfl, trivial⟩, rfl, H.sel' [0, 1, 2] rfl rfl⟩ ?_
     clear h H
     rintro s53 a w o ⟨ρ, σ54, rfl, rfl, H⟩ h hres
     refine c_seq ?_
     refine c_seq ?_
     refine rg ?_
     refine st (v := (I s53.2)) (rv_move rfl) ?_
     refine st (v := (Sl a5 r2.1 c6)) (rv_move rfl) ?_
     refine st (v := (I (r2.1.length : Int))) (rv_len Try.underlying23 rfl) ?_
     refine st (v := (B (decide (s53.2 < (r2.1.length : Int))))) (rv_lss (a := s53.2) (b := (r2.1.length : Int)) rfl rfl) ?_
     refine w_end ?_
     refine q_then ?_
     refine cd_cond (decide (s53.2 < (r2.1.length : Int))) rfl (fun hb55 => ?_) (fun hb55 => ?_)
     ·replace h := bif_t hb55 h
      refine c_skip ?_
      refine q_then ?_
      refine c_seq ?_
      refine c_blk ?_
      obtain ⟨o56, hj, h'⟩ := bind_some h
      clear h
      refine c_cut (fun e a w => e = .normal ∧ ∃ (ρ : Nat → Value) (σ : St), a = fr 80 (updL ρ [(3, (Sl a5 r2.1 c6)), (4, (I r2.2)), (5, (pt b14 0)), (6, (B r8.2)), (9, (B o56)), (10, (I s53.2))]) ∧ w = σ.w ∧ Hp S0 σ0 σ [Ch.ro n0 (Sl a5 r2.1 c6) r2.1, Ch.own n0 n0 (Sl a11 r8.1.2.1 c12) r8.1.2.1, Ch.bx n0 b14 0 [(I r8.1.1), (Sl a11 r8.1.2.1 c12), (I r8.1.2.2)] [] []]) ?_ ?_
      ·clear h'
       rename _ = some o56 => h
       refine rgP (σ := σ54) 15 (by kernel_rfl) (by kernel_rfl) (by kernel_rfl) ?_
       refine sq (v := (B s53.1)) (rv_move rfl) ?_
       refine sq (v := (B s53.1)) (rv_move rfl) ?_
       rcases Bool.eq_false_or_eq_true s53.1 with hb57 | hb57
       ·replace h := bif_t hb57 h
        refine sq_skip (congrArg some hb57) ?_
        refine sq_skip (congrArg some hb57) ?_
        refine sq_skip (congrArg some hb57) ?_
        refine sq_skip (congrArg some hb57) ?_
        refine sq_skip (congrArg some hb57) ?_
        refine sq_skip (congrArg some hb57) ?_
        refine sq_skip (congrArg some hb57) ?_
        refine sq_skip (congrArg some hb57) ?_
        refine sq_skip_u rfl ?_
        refine sq_skip_u rfl ?_
        refine sq_skip_u rfl ?_
        refine sq_skip_u rfl ?_
        refine sq_skip_u rfl ?_
        refine sq_end ?_
        intro σ58 hm59
        replace H := H.grow (hm59.mono fun _ h => h); clear hm59
        refine st_skip_u rfl ?_
        refine st_skip (congrArg some hb57) ?_
        refine st (v := (B true)) (rv_pick_t (congrArg B hb57) rfl) ?_
        refine st (v := (B true)) (rv_assign rfl) ?_
        refine w_end ?_
        obtain rfl := Option.some.inj h
        exact ⟨rfl, _, σ58, fr_join ⟨rfl, rfl, rfl, rfl, rfl, rfl, trivial⟩, rfl, H.sel' [0, 1, 2] rfl rfl⟩
       ·replace h := bif_f hb57 h
        refine sq_g (v := (Sl a5 r2.1 c6)) (congrArg some hb57) (rv_move rfl) ?_
        refine sq_g (v := (I s53.2)) (congrArg some hb57) (rv_move rfl) ?_
        obtain ⟨x60, hx61, h'⟩ := bind_some h
        clear h
        have h := h'; clear h'
        obtain ⟨b63, o64, hi62, -⟩ := (H.ro 0 rfl).ix hx61
        refine sq_g (v := (pt b63 o64)) (congrArg some hb57) (rv_ix Try.underlying23 ti26 rfl rfl hi62) ?_
        refine sq_g (v := (pt b63 (o64 + 0))) (congrArg some hb57) (rv_fieldAddr (off := 0) (ft := 3) Try.underlying26 rfl ti3 rfl rfl) ?_
        have hc65 := ((H.ro 0 rfl).at hx61 hi62).fst.int
        refine sq_g (v := (I x60.1)) (congrArg some hb57) (rv_load1 Try.underlying3 rfl rfl hc65) ?_
        refine sq_g (v := (I r2.2)) (congrArg some hb57) (rv_move rfl) ?_
        refine sq_g (v := (B (x60.1 == r2.2))) (congrArg some hb57) (rv_eql (a := x60.1) (b := r2.2) rfl rfl) ?_
        refine sq_g (v := (B (x60.1 == r2.2))) (congrArg some hb57) (rv_move rfl) ?_
        rcases Bool.eq_false_or_eq_true (x60.1 == r2.2) with hb66 | hb66
        ·replace h := bif_t hb66 h
         refine sq_g (v := (Sl a5 r2.1 c6)) (congrArg some hb66) (rv_move rfl) ?_
         refine sq_g (v := (I s53.2)) (congrArg some hb66) (rv_move rfl) ?_
         obtain ⟨x67, hx68, h'⟩ := bind_some h
         clear h
         have h := h'; clear h'
         obtain ⟨b70, o71, hi69, -⟩ := (H.ro 0 rfl).ix hx68
         refine sq_g (v := (pt b70 o71)) (congrArg some hb66) (rv_ix Try.underlying23 ti26 rfl rfl hi69) ?_
         obtain ⟨_, ⟨_, _, rfl, rfl, ⟨_, _, rfl, ⟨_, rfl, hR76⟩, rfl⟩⟩, hl72, hc73⟩ := ((H.ro 0 rfl).at hx68 hi69).cells
         obtain ⟨a74, c75, rfl⟩ := hR76.isSl
         replace H := H.add (d := Ch.ro n0 (Sl a74 x67.2.1 c75) x67.2.1) hR76 (fun _ h => h)
         clear hR76
         refine sq_g (v := (.agg #[(I x67.1), (Sl a74 x67.2.1 c75), (I x67.2.2)])) (congrArg some hb66) (rv_load Try.underlying26 rfl ti26 rfl hl72 hc73) ?_
         have hc77 := H.cells 3 rfl
         refine sq_g (v := (.agg #[(I r8.1.1), (Sl a11 r8.1.2.1 c12), (I r8.1.2.2)])) (congrArg some hb66) (rv_load (cs := [(I r8.1.1), (Sl a11 r8.1.2.1 c12), (I r8.1.2.2)]) Try.underlying26 rfl ti26 rfl rfl hc77) ?_
         refine sq_end ?_
         intro σ78 hm79
         replace H := H.grow (hm79.mono fun _ h => h); clear hm79
         replace H := H.roLow 0 0 rfl (Nat.zero_le _)
         obtain ⟨r80, hx81, h'⟩ := bind_some h
         clear h
         have h := h'; clear h'
         have hc82 := c_laws_equalItem (aa_0_1 := a74) (ca_0_1 := c75) (ab_1_1 := a11) (cb_1_1 := c12) hx81
         have hle := Nat.le_trans hn0 H.size
         refine st_call (cx_lend (Loan.same (Loan.lend Loan.nil)) hc82 (ent_f hc82.fn rfl) (show Hp S0 σ0 _ ([Ch.own n0 n0 (Sl a11 r8.1.2.1 c12) r8.1.2.1] ++ ([Ch.ro 0 (Sl a74 x67.2.1 c75) x67.2.1] ++ [Ch.ro 0 (Sl a74 x67.2.1 c75) x67.2.1, Ch.ro n0 (Sl a74 x67.2.1 c75) x67.2.1, Ch.ro n0 (Sl a5 r2.1 c6) r2.1, Ch.bx n0 b14 0 [(I r8.1.1), (Sl a11 r8.1.2.1 c12), (I r8.1.2.2)] [] []])) from (H.sel' [3, 0, 0, 1, 2, 4] rfl rfl)) (by rintro _ _ _ ⟨rfl, rfl⟩; exact trivial)) (wanted_yes rfl (by exact (congrArg some hb66))) ?_
         rintro _ σ83 ⟨_, ⟨rfl, rfl⟩, H, -, -⟩
         replace H : Hp S0 σ0 σ83 [Ch.own n0 n0 (Sl a11 r8.1.2.1 c12) r8.1.2.1, Ch.ro 0 (Sl a74 x67.2.1 c75) x67.2.1, Ch.ro n0 (Sl a74 x67.2.1 c75) x67.2.1, Ch.ro n0 (Sl a5 r2.1 c6) r2.1, Ch.bx n0 b14 0 [(I r8.1.1), (Sl a11 r8.1.2.1 c12), (I r8.1.2.2)] [] []] := H
         clear hle
         replace H : Hp S0 σ0 σ83 [Ch.own n0 n0 (Sl a11 r8.1.2.1 c12) r8.1.2.1, Ch.ro 0 (Sl a74 x67.2.1 c75) x67.2.1, Ch.ro n0 (Sl a74 x67.2.1 c75) x67.2.1, Ch.ro n0 (Sl a5 r2.1 c6) r2.1, Ch.bx n0 b14 0 [(I r8.1.1), (Sl a11 r8.1.2.1 c12), (I r8.1.2.2)] [] []] := H
         refine st_g (v := (B r80)) (congrArg some hb57) (rv_pick_t (congrArg B hb66) rfl) ?_
         refine st (v := (B r80)) (rv_pick_f (congrArg B hb57) rfl) ?_
         refine st (v := (B r80)) (rv_assign rfl) ?_
         refine w_end ?_
         obtain rfl := Option.some.inj h
         exact ⟨rfl, _, σ83, fr_join ⟨rfl, rfl, rfl, rfl, rfl, rfl, trivial⟩, rfl, H.sel' [3, 0, 4] rfl rfl⟩
        ·replace h := bif_f hb66 h
         refine sq_skip (congrArg some hb66) ?_
         refine sq_skip (congrArg some hb66) ?_
         refine sq_skip (congrArg some hb66) ?_
         refine sq_skip (congrArg some hb66) ?_
         refine sq_skip (congrArg some hb66) ?_
         refine sq_end ?_
         intro σ84 hm85
         replace H := H.grow (hm85.mono fun _ h => h); clear hm85
         refine st_skip (congrArg some hb66) ?_
         refine st_g (v := (B false)) (congrArg some hb57) (rv_pick_f (congrArg B hb66) rfl) ?_
         refine st (v := (B false)) (rv_pick_f (congrArg B hb57) rfl) ?_
         refine st (v := (B false)) (rv_assign rfl) ?_
         refine w_end ?_
         obtain rfl := Option.some.inj h
         exact ⟨rfl, _, σ84, fr_join ⟨rfl, rfl, rfl, rfl, rfl, rfl, trivial⟩, rfl, H.sel' [0, 1, 2] rfl rfl⟩
      ·clear hj
       have h := h'
       clear h' H
       rintro e a w ⟨rfl, ρ, σ86, rfl, rfl, H⟩
       refine q_blk ?_
       refine q_then ?_
       refine rg ?_
       refine st (v := (I s53.2)) (rv_move rfl) ?_
       refine st (v := (I (w64 (s53.2 + 1)))) (rv_add (a := s53.2) (b := 1) rfl rfl) ?_
       refine st (v := (I (w64 (s53.2 + 1)))) (rv_assign rfl) ?_
       refine w_end ?_
       refine q_then ?_
       obtain rfl := Option.some.inj h
       exact ⟨_, rfl, _, σ86, fr_join ⟨rfl, rfl, rfl, rfl, rfl, rfl, trivial⟩, rfl, H.sel' [0, 1, 2] rfl rfl⟩
     ·replace h := bif_f hb55 h
      refine c_exit ?_
      refine q_then_x ?_
      refine q_then_x ?_
      refine q_blk_hit ?_
      obtain rfl := Option.some.inj h
      obtain rfl := hres _ rfl
      exact ⟨rfl, _, σ54, fr_join ⟨rfl, rfl, trivial⟩, rfl, H.sel' [] rfl rfl⟩
    ·clear hj
     have h := h'
     clear h' H
     rintro e a w ⟨rfl, ρ, σ87, rfl, rfl, H⟩
     refine q_then ?_
     refine c_seq ?_
     refine rg ?_
     refine st (v := (B o52)) (rv_move rfl) ?_
     refine st (v := (B r8.2)) (rv_move rfl) ?_
     refine st (v := (B (o52 == r8.2))) (rv_beql Try.underlying4 rfl rfl) ?_
     refine st (v := (B (o52 == r8.2))) (rv_assign rfl) ?_
     refine w_end ?_
     refine q_then ?_
     refine c_ret ?_
     obtain rfl := Option.some.inj h
     exact fin_ret (v := (B (o52 == r8.2))) (results_ok Try.results6 (res_tmp (v := (B (o52 == r8.2))) rfl res_nil) rfl) ⟨rfl, rfl⟩ (H.sel' [] rfl rfl)

end Go.Vs
