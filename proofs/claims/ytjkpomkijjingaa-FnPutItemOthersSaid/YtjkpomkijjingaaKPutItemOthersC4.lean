/- The functions compute what their models say. -/
import Derived.Test.YtjkpomkijjingaaKPutItemOthersC3
set_option linter.unusedVariables false
set_option linter.unusedSimpArgs false
set_option maxRecDepth 20000
namespace Go.Vs
open Go Go.Proofs
attribute [local irreducible] Code.wp wpList wpQuiet Calls

theorem c_laws_FnPutItemOthers {code_0 : List UInt8} {acode_0 : Option Addr} {ccode_0 : Nat} {r : Bool} (h : M.laws_FnPutItemOthers code_0 = some r) :
    Cal2 Try.prog 5 [(Sl acode_0 code_0 ccode_0)] [Ch.ro 0 (Sl acode_0 code_0 ccode_0) code_0] (fun n0 v L => v = (B r) ∧ L = []) := by
  refine cal2 (n := 86) Try.func5 rfl rfl rfl rfl ?_
  intro S0 σ0 n0 hn0 H
  unfold M.laws_FnPutItemOthers at h
  refine c_seq ?_
  refine rg ?_
  refine st (v := (B false)) (rv_assign rfl) ?_
  refine w_end ?_
  refine q_then ?_
  refine c_seq ?_
  refine c_seq ?_
  refine rg ?_
  refine st (v := (Sl acode_0 code_0 ccode_0)) (rv_move rfl) ?_
  refine st (v := (I (code_0.length : Int))) (rv_len Try.underlying22 rfl) ?_
  refine st (v := (B (decide (1048576 < (code_0.length : Int))))) (rv_gtr (a := (code_0.length : Int)) (b := 1048576) rfl rfl) ?_
  refine w_end ?_
  refine q_then ?_
  refine cd_cond (decide (1048576 < (code_0.length : Int))) rfl (fun hb1 => ?_) (fun hb1 => ?_)
  · replace h := bif_t hb1 h
    refine c_seq ?_
    refine rg ?_
    refine st (v := (B true)) (rv_assign rfl) ?_
    refine w_end ?_
    refine q_then ?_
    refine c_ret ?_
    refine q_then_r ?_
    obtain rfl := Option.some.inj h
    exact fin_ret (v := (B true)) (results_ok Try.results5 (res_tmp (v := (B true)) rfl res_nil) rfl) ⟨rfl, rfl⟩ (H.sel' [] rfl rfl)
  · replace h := bif_f hb1 h
    refine c_skip ?_
    refine q_then ?_
    refine c_seq ?_
    refine rg ?_
    refine st (v := (Sl acode_0 code_0 ccode_0)) (rv_move rfl) ?_
    obtain ⟨r2, hx3, h'⟩ := bind_some h
    clear h
    have h := h'; clear h'
    have hc4 := c_spec_DrawPutItem (acode_0 := acode_0) (ccode_0 := ccode_0) hx3
    refine st_call (cx_call hc4 (ent_f hc4.fn rfl) hn0 (show Hp S0 σ0 _ ([Ch.ro 0 (Sl acode_0 code_0 ccode_0) code_0] ++ [Ch.ro 0 (Sl acode_0 code_0 ccode_0) code_0]) from (H.sel' [0, 0] rfl rfl))) (wanted_none _ rfl _) ?_
    rintro _ σ9 ⟨_, ⟨a5, c6, a7, c8, rfl, rfl⟩, H, -⟩
    replace H : Hp S0 σ0 σ9 [Ch.own n0 n0 (Sl a5 r2.1 c6) r2.1, Ch.own n0 n0 (Sl a7 r2.2.2.1 c8) r2.2.2.1, Ch.ro 0 (Sl acode_0 code_0 ccode_0) code_0] := H
    refine st (v := (.tuple #[(Sl a5 r2.1 c6), (.agg #[(I r2.2.1), (Sl a7 r2.2.2.1 c8), (I r2.2.2.2)])])) (rv_move rfl) ?_
    refine st (v := (Sl a5 r2.1 c6)) (rv_extract rfl rfl) ?_
    refine st (v := (.agg #[(I r2.2.1), (Sl a7 r2.2.2.1 c8), (I r2.2.2.2)])) (rv_extract rfl rfl) ?_
    refine st_ex (ex_alloc (cs := [(I 0), (.slice none 0 0), (I 0)]) H hn0 ti29 rfl) (wanted_none _ rfl _) ?_
    rintro _ σ11 ⟨b10, rfl, H, -⟩
    refine st (v := (Sl a5 r2.1 c6)) (rv_assign rfl) ?_
    refine st_exS (ex_store_box (k := 0) (cs := [(I 0), (.slice none 0 0), (I 0)]) (vs := [(I r2.2.1), (Sl a7 r2.2.2.1 c8), (I r2.2.2.2)]) (cs' := [(I r2.2.1), (Sl a7 r2.2.2.1 c8), (I r2.2.2.2)]) H (i := 0) rfl ti29 rfl rfl rfl rfl rfl (Nat.le_of_ble_eq_true rfl) (by simp [plain]) rfl) (wanted_none _ rfl _) ?_
    rintro σ12 ⟨H, -⟩
    refine w_end ?_
    refine q_then ?_
    refine c_seq ?_
    refine rg ?_
    refine st (v := (Sl a5 r2.1 c6)) (rv_move rfl) ?_
    have hc13 := H.cells 0 rfl
    refine st (v := (.agg #[(I r2.2.1), (Sl a7 r2.2.2.1 c8), (I r2.2.2.2)])) (rv_load (cs := [(I r2.2.1), (Sl a7 r2.2.2.1 c8), (I r2.2.2.2)]) Try.underlying29 rfl ti29 rfl rfl hc13) ?_
    obtain ⟨σ14, hw15, H, -⟩ := H.pub 1 rfl (Nat.le_refl _)
    rw [← hw15]; clear hw15
    obtain ⟨σ16, hw17, H, -⟩ := H.pub 2 rfl (Nat.le_refl _)
    rw [← hw17]; clear hw17
    replace H := H.roLow 1 0 rfl (Nat.zero_le _)
    replace H := H.roLow 1 0 rfl (Nat.zero_le _)
    obtain ⟨r18, hx19, h'⟩ := bind_some h
    clear h
    have h := h'; clear h'
    have hc20 := c_impl_PutItem (alist_0 := a5) (clist_0 := c6) (ax_1_1 := a7) (cx_1_1 := c8) hx19
    refine st_call (cx_call hc20 (ent_f hc20.fn rfl) hn0 (show Hp S0 σ0 _ ([Ch.ro 0 (Sl a5 r2.1 c6) r2.1, Ch.ro 0 (Sl a7 r2.2.2.1 c8) r2.2.2.1] ++ [Ch.ro 0 (Sl a7 r2.2.2.1 c8) r2.2.2.1, Ch.ro 0 (Sl a5 r2.1 c6) r2.1, Ch.ro n0 (Sl a7 r2.2.2.1 c8) r2.2.2.1, Ch.ro n0 (Sl a5 r2.1 c6) r2.1, Ch.bx n0 b10 0 [(I r2.2.1), (Sl a7 r2.2.2.1 c8), (I r2.2.2.2)] [] [], Ch.ro 0 (Sl acode_0 code_0 ccode_0) code_0]) from (H.sel' [1, 0, 0, 1, 2, 3, 4, 5] rfl rfl))) (wanted_none _ rfl _) ?_
    rintro _ σ23 ⟨_, ⟨a21, c22, rfl, rfl⟩, H, -⟩
    replace H : Hp S0 σ0 σ23 [Ch.own 0 0 (Sl a21 r18.1 c22) r18.1, Ch.ro 0 (Sl a7 r2.2.2.1 c8) r2.2.2.1, Ch.ro 0 (Sl a5 r2.1 c6) r2.1, Ch.ro n0 (Sl a7 r2.2.2.1 c8) r2.2.2.1, Ch.ro n0 (Sl a5 r2.1 c6) r2.1, Ch.bx n0 b10 0 [(I r2.2.1), (Sl a7 r2.2.2.1 c8), (I r2.2.2.2)] [] [], Ch.ro 0 (Sl acode_0 code_0 ccode_0) code_0] := H
    refine st (v := (.tuple #[(Sl a21 r18.1 c22), (B r18.2)])) (rv_move rfl) ?_
    refine st (v := (Sl a21 r18.1 c22)) (rv_extract rfl rfl) ?_
    refine st (v := (B r18.2)) (rv_extract rfl rfl) ?_
    refine st (v := (Sl a21 r18.1 c22)) (rv_assign rfl) ?_
    refine st (v := (B r18.2)) (rv_assign rfl) ?_
    refine w_end ?_
    refine q_then ?_
    refine c_seq ?_
    refine rg ?_
    refine st (v := (Sl a5 r2.1 c6)) (rv_move rfl) ?_
    have hc24 := H.cells 5 rfl
    refine st (v := (.agg #[(I r2.2.1), (Sl a7 r2.2.2.1 c8), (I r2.2.2.2)])) (rv_load (cs := [(I r2.2.1), (Sl a7 r2.2.2.1 c8), (I r2.2.2.2)]) Try.underlying29 rfl ti29 rfl rfl hc24) ?_
    replace H := H.roLow 4 0 rfl (Nat.zero_le _)
    replace H := H.roLow 4 0 rfl (Nat.zero_le _)
    obtain ⟨r25, hx26, h'⟩ := bind_some h
    clear h
    have h := h'; clear h'
    have hc27 := c_spec_PutItem (alist_0 := a5) (clist_0 := c6) (ax_1_1 := a7) (cx_1_1 := c8) hx26
    refine st_call (cx_call hc27 (ent_f hc27.fn rfl) hn0 (show Hp S0 σ0 _ ([Ch.ro 0 (Sl a5 r2.1 c6) r2.1, Ch.ro 0 (Sl a7 r2.2.2.1 c8) r2.2.2.1] ++ [Ch.ro 0 (Sl a7 r2.2.2.1 c8) r2.2.2.1, Ch.ro 0 (Sl a5 r2.1 c6) r2.1, Ch.own 0 0 (Sl a21 r18.1 c22) r18.1, Ch.ro 0 (Sl a7 r2.2.2.1 c8) r2.2.2.1, Ch.ro 0 (Sl a5 r2.1 c6) r2.1, Ch.ro n0 (Sl a7 r2.2.2.1 c8) r2.2.2.1, Ch.ro n0 (Sl a5 r2.1 c6) r2.1, Ch.bx n0 b10 0 [(I r2.2.1), (Sl a7 r2.2.2.1 c8), (I r2.2.2.2)] [] [], Ch.ro 0 (Sl acode_0 code_0 ccode_0) code_0]) from (H.sel' [1, 0, 0, 1, 2, 3, 4, 5, 6, 7, 8] rfl rfl))) (wanted_none _ rfl _) ?_
    rintro _ σ30 ⟨_, ⟨a28, c29, rfl, rfl⟩, H, -⟩
    replace H : Hp S0 σ0 σ30 [Ch.own n0 n0 (Sl a28 r25.1 c29) r25.1, Ch.ro 0 (Sl a7 r2.2.2.1 c8) r2.2.2.1, Ch.ro 0 (Sl a5 r2.1 c6) r2.1, Ch.own 0 0 (Sl a21 r18.1 c22) r18.1, Ch.ro 0 (Sl a7 r2.2.2.1 c8) r2.2.2.1, Ch.ro 0 (Sl a5 r2.1 c6) r2.1, Ch.ro n0 (Sl a7 r2.2.2.1 c8) r2.2.2.1, Ch.ro n0 (Sl a5 r2.1 c6) r2.1, Ch.bx n0 b10 0 [(I r2.2.1), (Sl a7 r2.2.2.1 c8), (I r2.2.2.2)] [] [], Ch.ro 0 (Sl acode_0 code_0 ccode_0) code_0] := H
    replace H : Hp S0 σ0 σ30 [Ch.own n0 n0 (Sl a28 r25.1 c29) r25.1, Ch.own 0 0 (Sl a21 r18.1 c22) r18.1, Ch.ro n0 (Sl a7 r2.2.2.1 c8) r2.2.2.1, Ch.ro n0 (Sl a5 r2.1 c6) r2.1, Ch.bx n0 b10 0 [(I r2.2.1), (Sl a7 r2.2.2.1 c8), (I r2.2.2.2)] [] []] := H.sel' [0, 3, 6, 7, 8] rfl rfl
    refine st (v := (.tuple #[(Sl a28 r25.1 c29), (B r25.2)])) (rv_move rfl) ?_
    refine st (v := (Sl a28 r25.1 c29)) (rv_extract rfl rfl) ?_
    refine st (v := (B r25.2)) (rv_extract rfl rfl) ?_
    refine st (v := (Sl a28 r25.1 c29)) (rv_assign rfl) ?_
    refine st (v := (B r25.2)) (rv_assign rfl) ?_
    refine w_end ?_
    refine q_then ?_
    refine c_seq ?_
    refine c_seq ?_
    obtain ⟨o31, hj, h'⟩ := bind_some h
    clear h
    refine c_cut (fun e a w => e = .normal ∧ ∃ (ρ : Nat → Value) (σ : St), a = fr 86 (updL ρ [(3, (Sl a5 r2.1 c6)), (4, (pt b10 0)), (5, (Sl a21 r18.1 c22)), (6, (B r18.2)), (7, (Sl a28 r25.1 c29)), (8, (B r25.2)), (46, (B o31))]) ∧ w = σ.w ∧ Hp S0 σ0 σ [Ch.ro n0 (Sl a5 r2.1 c6) r2.1, Ch.ro n0 (Sl a7 r2.2.2.1 c8) r2.2.2.1, Ch.bx n0 b10 0 [(I r2.2.1), (Sl a7 r2.2.2.1 c8), (I r2.2.2.2)] [] [], Ch.own 0 0 (Sl a21 r18.1 c22) r18.1, Ch.own n0 n0 (Sl a28 r25.1 c29) r25.1]) ?_ ?_
    · clear h'
      rename _ = some o31 => h
      refine rg ?_
      refine st (v := (Sl a21 r18.1 c22)) (rv_move rfl) ?_
      refine st (v := (Sl a28 r25.1 c29)) (rv_move rfl) ?_
      obtain ⟨r32, hx33, h'⟩ := bind_some h
      clear h
      have h := h'; clear h'
      have hc34 := c_laws_equalItems (aa_0 := a21) (ca_0 := c22) (ab_1 := a28) (cb_1 := c29) hx33
      have hle := Nat.le_trans hn0 H.size
      refine st_call (cx_lend (Loan.lend (Loan.lend Loan.nil)) hc34 (ent_f hc34.fn rfl) (show Hp S0 σ0 _ ([Ch.own 0 0 (Sl a21 r18.1 c22) r18.1, Ch.own n0 n0 (Sl a28 r25.1 c29) r25.1] ++ ([] ++ [Ch.ro n0 (Sl a7 r2.2.2.1 c8) r2.2.2.1, Ch.ro n0 (Sl a5 r2.1 c6) r2.1, Ch.bx n0 b10 0 [(I r2.2.1), (Sl a7 r2.2.2.1 c8), (I r2.2.2.2)] [] []])) from (H.sel' [1, 0, 2, 3, 4] rfl rfl)) (by rintro _ _ _ ⟨rfl, rfl⟩; exact trivial)) (wanted_none _ rfl _) ?_
      rintro _ σ35 ⟨_, ⟨rfl, rfl⟩, H, -, -⟩
      replace H : Hp S0 σ0 σ35 [Ch.own 0 0 (Sl a21 r18.1 c22) r18.1, Ch.own n0 n0 (Sl a28 r25.1 c29) r25.1, Ch.ro n0 (Sl a7 r2.2.2.1 c8) r2.2.2.1, Ch.ro n0 (Sl a5 r2.1 c6) r2.1, Ch.bx n0 b10 0 [(I r2.2.1), (Sl a7 r2.2.2.1 c8), (I r2.2.2.2)] [] []] := H
      clear hle
      replace H : Hp S0 σ0 σ35 [Ch.own 0 0 (Sl a21 r18.1 c22) r18.1, Ch.own n0 n0 (Sl a28 r25.1 c29) r25.1, Ch.ro n0 (Sl a7 r2.2.2.1 c8) r2.2.2.1, Ch.ro n0 (Sl a5 r2.1 c6) r2.1, Ch.bx n0 b10 0 [(I r2.2.1), (Sl a7 r2.2.2.1 c8), (I r2.2.2.2)] [] []] := H
      refine st (v := (B (!r32))) (rv_not rfl) ?_
      refine st (v := (B (!r32))) (rv_move rfl) ?_
      rcases Bool.eq_false_or_eq_true (!r32) with hb36 | hb36
      · replace h := bif_t hb36 h
        refine st_skip (congrArg some hb36) ?_
        refine st_skip (congrArg some hb36) ?_
        refine st_skip (congrArg some hb36) ?_
        refine st (v := (B true)) (rv_pick_t (congrArg B hb36) rfl) ?_
        refine st (v := (B true)) (rv_move rfl) ?_
        refine st_skip rfl ?_
        refine st_skip rfl ?_
        refine st (v := (B true)) (rv_pick_t rfl rfl) ?_
        refine w_end ?_
        obtain rfl := Option.some.inj h
        exact ⟨rfl, _, σ35, fr_join ⟨rfl, rfl, rfl, rfl, rfl, rfl, rfl, trivial⟩, rfl, H.sel' [3, 2, 4, 0, 1] rfl rfl⟩
      · replace h := bif_f hb36 h
        refine st_g (v := (B r18.2)) (congrArg some hb36) (rv_move rfl) ?_
        refine st_g (v := (B r25.2)) (congrArg some hb36) (rv_move rfl) ?_
        refine st_g (v := (B (r18.2 != r25.2))) (congrArg some hb36) (rv_bneq Try.underlying4 rfl rfl) ?_
        refine st (v := (B (r18.2 != r25.2))) (rv_pick_f (congrArg B hb36) rfl) ?_
        refine st (v := (B (r18.2 != r25.2))) (rv_move rfl) ?_
        rcases Bool.eq_false_or_eq_true (r18.2 != r25.2) with hb37 | hb37
        · replace h := bif_t hb37 h
          refine st_skip (congrArg some hb37) ?_
          refine st_skip (congrArg some hb37) ?_
          refine st (v := (B true)) (rv_pick_t (congrArg B hb37) rfl) ?_
          refine w_end ?_
          obtain rfl := Option.some.inj h
          exact ⟨rfl, _, σ35, fr_join ⟨rfl, rfl, rfl, rfl, rfl, rfl, rfl, trivial⟩, rfl, H.sel' [3, 2, 4, 0, 1] rfl rfl⟩
        · replace h := bif_f hb37 h
          refine st_g (v := (B r18.2)) (congrArg some hb37) (rv_move rfl) ?_
          refine st_g (v := (B (!r18.2))) (congrArg some hb37) (rv_not rfl) ?_
          refine st (v := (B (!r18.2))) (rv_pick_f (congrArg B hb37) rfl) ?_
          refine w_end ?_
          obtain rfl := Option.some.inj h
          exact ⟨rfl, _, σ35, fr_join ⟨rfl, rfl, rfl, rfl, rfl, rfl, rfl, trivial⟩, rfl, H.sel' [3, 2, 4, 0, 1] rfl rfl⟩
    · clear hj
      have h := h'
      clear h' H
      rintro e a w ⟨rfl, ρ, σ38, rfl, rfl, H⟩
      refine q_then ?_
      refine cd_cond o31 rfl (fun hb39 => ?_) (fun hb39 => ?_)
      · replace h := bif_t hb39 h
        refine c_seq ?_
        refine rg ?_
        refine st (v := (Sl a21 r18.1 c22)) (rv_move rfl) ?_
        refine st (v := (Sl a28 r25.1 c29)) (rv_move rfl) ?_
        obtain ⟨σ40, hw41, H, -⟩ := H.pub 3 rfl (Nat.le_refl _)
        rw [← hw41]; clear hw41
        obtain ⟨σ42, hw43, H, -⟩ := H.pub 4 rfl (Nat.le_refl _)
        rw [← hw43]; clear hw43
        replace H := H.roLow 0 0 rfl (Nat.zero_le _)
        obtain ⟨r44, hx45, h'⟩ := bind_some h
        clear h
        have h := h'; clear h'
        have hc46 := c_laws_equalItems (aa_0 := a21) (ca_0 := c22) (ab_1 := a28) (cb_1 := c29) hx45
        refine st_call (cx_call hc46 (ent_f hc46.fn rfl) hn0 (show Hp S0 σ0 _ ([Ch.ro 0 (Sl a21 r18.1 c22) r18.1, Ch.ro 0 (Sl a28 r25.1 c29) r25.1] ++ [Ch.ro 0 (Sl a28 r25.1 c29) r25.1, Ch.ro n0 (Sl a28 r25.1 c29) r25.1, Ch.ro 0 (Sl a21 r18.1 c22) r18.1, Ch.ro n0 (Sl a5 r2.1 c6) r2.1, Ch.ro n0 (Sl a7 r2.2.2.1 c8) r2.2.2.1, Ch.bx n0 b10 0 [(I r2.2.1), (Sl a7 r2.2.2.1 c8), (I r2.2.2.2)] [] []]) from (H.sel' [2, 0, 0, 1, 2, 3, 4, 5] rfl rfl))) (wanted_none _ rfl _) ?_
        rintro _ σ47 ⟨_, ⟨rfl, rfl⟩, H, -⟩
        replace H : Hp S0 σ0 σ47 [Ch.ro 0 (Sl a28 r25.1 c29) r25.1, Ch.ro n0 (Sl a28 r25.1 c29) r25.1, Ch.ro 0 (Sl a21 r18.1 c22) r18.1, Ch.ro n0 (Sl a5 r2.1 c6) r2.1, Ch.ro n0 (Sl a7 r2.2.2.1 c8) r2.2.2.1, Ch.bx n0 b10 0 [(I r2.2.1), (Sl a7 r2.2.2.1 c8), (I r2.2.2.2)] [] []] := H
        refine st (v := (B r44)) (rv_move rfl) ?_
        rcases Bool.eq_false_or_eq_true r44 with hb48 | hb48
        · replace h := bif_t hb48 h
          refine st_g (v := (B r18.2)) (congrArg some hb48) (rv_move rfl) ?_
          refine st_g (v := (B r25.2)) (congrArg some hb48) (rv_move rfl) ?_
          refine st_g (v := (B (r18.2 == r25.2))) (congrArg some hb48) (rv_beql Try.underlying4 rfl rfl) ?_
          refine st (v := (B (r18.2 == r25.2))) (rv_pick_t (congrArg B hb48) rfl) ?_
          refine st (v := (B (r18.2 == r25.2))) (rv_assign rfl) ?_
          refine w_end ?_
          refine q_then ?_
          refine c_ret ?_
          refine q_then_r ?_
          obtain rfl := Option.some.inj h
          exact fin_ret (v := (B (r18.2 == r25.2))) (results_ok Try.results5 (res_tmp (v := (B (r18.2 == r25.2))) rfl res_nil) rfl) ⟨rfl, rfl⟩ (H.sel' [] rfl rfl)
        · replace h := bif_f hb48 h
          refine st_skip (congrArg some hb48) ?_
          refine st_skip (congrArg some hb48) ?_
          refine st_skip (congrArg some hb48) ?_
          refine st (v := (B false)) (rv_pick_f (congrArg B hb48) rfl) ?_
          refine st (v := (B false)) (rv_assign rfl) ?_
          refine w_end ?_
          refine q_then ?_
          refine c_ret ?_
          refine q_then_r ?_
          obtain rfl := Option.some.inj h
          exact fin_ret (v := (B false)) (results_ok Try.results5 (res_tmp (v := (B false)) rfl res_nil) rfl) ⟨rfl, rfl⟩ (H.sel' [] rfl rfl)
      · replace h := bif_f hb39 h
        refine c_skip ?_
        refine q_then ?_
        refine c_seq ?_
        refine c_seq ?_
        refine rg ?_
        refine st (v := (I 1)) (rv_assign rfl) ?_
        refine w_end ?_
        refine q_then ?_
        obtain ⟨o49, hj, h'⟩ := bind_some h
        clear h
        refine c_cut (fun e a w => (∃ t, o49 = (.inl t) ∧ e = .normal ∧ ∃ (ρ : Nat → Value) (σ : St), a = fr 86 (updL ρ []) ∧ w = σ.w ∧ Hp S0 σ0 σ []) ∨ (∃ t, o49 = (.inr t) ∧ e = .ret ∧ ∃ (ρ : Nat → Value) (σ : St), a = fr 86 (updL ρ [(2, (B t))]) ∧ w = σ.w ∧ Hp S0 σ0 σ [])) ?_ ?_
        · clear h'
          rename _ = some o49 => h
          refine c_blk ?_
          refine wp_loopM _ h (fun s50 a w => ∃ (ρ : Nat → Value) (σ : St), a = fr 86 (updL ρ [(3, (Sl a5 r2.1 c6)), (4, (pt b10 0)), (5, (Sl a21 r18.1 c22)), (9, (I s50))]) ∧ w = σ.w ∧ Hp S0 σ0 σ [Ch.ro n0 (Sl a5 r2.1 c6) r2.1, Ch.ro n0 (Sl a7 r2.2.2.1 c8) r2.2.2.1, Ch.bx n0 b10 0 [(I r2.2.1), (Sl a7 r2.2.2.1 c8), (I r2.2.2.2)] [] [], Ch.own 0 0 (Sl a21 r18.1 c22) r18.1]) ⟨_, σ38, fr_join ⟨rfl, rfl, rfl, rfl, trivial⟩, rfl, H.sel' [0, 1, 2, 3] rfl rfl⟩ ?_
          clear h H
          rintro s50 a w o ⟨ρ, σ51, rfl, rfl, H⟩ h hres
          refine c_seq ?_
          refine c_seq ?_
          refine rg ?_
          refine st (v := (I s50)) (rv_move rfl) ?_
          refine st (v := (B (decide (s50 ≤ 99)))) (rv_leq (a := s50) (b := 99) rfl rfl) ?_
          refine w_end ?_
          refine q_then ?_
          refine cd_cond (decide (s50 ≤ 99)) rfl (fun hb52 => ?_) (fun hb52 => ?_)
          · replace h := bif_t hb52 h
            refine c_skip ?_
            refine q_then ?_
            refine c_seq ?_
            refine c_blk ?_
            refine c_seq ?_
            refine rg ?_
            refine st (v := (Sl a5 r2.1 c6)) (rv_move rfl) ?_
            refine st (v := (I s50)) (rv_move rfl) ?_
            replace H := H.roLow 0 0 rfl (Nat.zero_le _)
            obtain ⟨r53, hx54, h'⟩ := bind_some h
            clear h
            have h := h'; clear h'
            have hc55 := c_impl_GetItem (alist_0 := a5) (clist_0 := c6) hx54
            refine st_call (cx_call hc55 (ent_f hc55.fn rfl) hn0 (show Hp S0 σ0 _ ([Ch.ro 0 (Sl a5 r2.1 c6) r2.1] ++ [Ch.ro 0 (Sl a5 r2.1 c6) r2.1, Ch.ro n0 (Sl a5 r2.1 c6) r2.1, Ch.ro n0 (Sl a7 r2.2.2.1 c8) r2.2.2.1, Ch.bx n0 b10 0 [(I r2.2.1), (Sl a7 r2.2.2.1 c8), (I r2.2.2.2)] [] [], Ch.own 0 0 (Sl a21 r18.1 c22) r18.1]) from (H.sel' [0, 0, 1, 2, 3, 4] rfl rfl))) (wanted_none _ rfl _) ?_
            rintro _ σ58 ⟨_, ⟨a56, c57, rfl, rfl⟩, H, -⟩
            replace H : Hp S0 σ0 σ58 [Ch.own n0 n0 (Sl a56 r53.1.2.1 c57) r53.1.2.1, Ch.ro 0 (Sl a5 r2.1 c6) r2.1, Ch.ro n0 (Sl a5 r2.1 c6) r2.1, Ch.ro n0 (Sl a7 r2.2.2.1 c8) r2.2.2.1, Ch.bx n0 b10 0 [(I r2.2.1), (Sl a7 r2.2.2.1 c8), (I r2.2.2.2)] [] [], Ch.own 0 0 (Sl a21 r18.1 c22) r18.1] := H
            refine st (v := (.tuple #[(.agg #[(I r53.1.1), (Sl a56 r53.1.2.1 c57), (I r53.1.2.2)]), (B r53.2)])) (rv_move rfl) ?_
            refine st (v := (.agg #[(I r53.1.1), (Sl a56 r53.1.2.1 c57), (I r53.1.2.2)])) (rv_extract rfl rfl) ?_
            refine st (v := (B r53.2)) (rv_extract rfl rfl) ?_
            refine st_ex (ex_alloc (cs := [(I 0), (.slice none 0 0), (I 0)]) H hn0 ti29 rfl) (wanted_none _ rfl _) ?_
            rintro _ σ60 ⟨b59, rfl, H, -⟩
            refine st_exS (ex_store_box (k := 0) (cs := [(I 0), (.slice none 0 0), (I 0)]) (vs := [(I r53.1.1), (Sl a56 r53.1.2.1 c57), (I r53.1.2.2)]) (cs' := [(I r53.1.1), (Sl a56 r53.1.2.1 c57), (I r53.1.2.2)]) H (i := 0) rfl ti29 rfl rfl rfl rfl rfl (Nat.le_of_ble_eq_true rfl) (by simp [plain]) rfl) (wanted_none _ rfl _) ?_
            rintro σ61 ⟨H, -⟩
            refine st (v := (B r53.2)) (rv_assign rfl) ?_
            refine w_end ?_
            refine q_then ?_
            refine c_seq ?_
            refine rg ?_
            refine st (v := (Sl a21 r18.1 c22)) (rv_move rfl) ?_
            refine st (v := (I s50)) (rv_move rfl) ?_
            obtain ⟨r62, hx63, h'⟩ := bind_some h
            clear h
            have h := h'; clear h'
            have hc64 := c_impl_GetItem (alist_0 := a21) (clist_0 := c22) hx63
            have hle := Nat.le_trans hn0 H.size
            refine st_call (cx_lend (Loan.lend Loan.nil) hc64 (ent_f hc64.fn rfl) (show Hp S0 σ0 _ ([Ch.own 0 0 (Sl a21 r18.1 c22) r18.1] ++ ([] ++ [Ch.bx n0 b59 0 [(I r53.1.1), (Sl a56 r53.1.2.1 c57), (I r53.1.2.2)] [] [], Ch.own n0 n0 (Sl a56 r53.1.2.1 c57) r53.1.2.1, Ch.ro 0 (Sl a5 r2.1 c6) r2.1, Ch.ro n0 (Sl a5 r2.1 c6) r2.1, Ch.ro n0 (Sl a7 r2.2.2.1 c8) r2.2.2.1, Ch.bx n0 b10 0 [(I r2.2.1), (Sl a7 r2.2.2.1 c8), (I r2.2.2.2)] [] []])) from (H.sel' [6, 0, 1, 2, 3, 4, 5] rfl rfl)) (by rintro _ _ _ ⟨_, _, rfl, rfl⟩; exact ⟨Ab.ownSc, trivial⟩)) (wanted_none _ rfl _) ?_
            rintro _ σ67 ⟨_, ⟨a65, c66, rfl, rfl⟩, H, -, -⟩
            replace H : Hp S0 σ0 σ67 [Ch.own σ61.size σ61.size (Sl a65 r62.1.2.1 c66) r62.1.2.1, Ch.own 0 0 (Sl a21 r18.1 c22) r18.1, Ch.bx n0 b59 0 [(I r53.1.1), (Sl a56 r53.1.2.1 c57), (I r53.1.2.2)] [] [], Ch.own n0 n0 (Sl a56 r53.1.2.1 c57) r53.1.2.1, Ch.ro 0 (Sl a5 r2.1 c6) r2.1, Ch.ro n0 (Sl a5 r2.1 c6) r2.1, Ch.ro n0 (Sl a7 r2.2.2.1 c8) r2.2.2.1, Ch.bx n0 b10 0 [(I r2.2.1), (Sl a7 r2.2.2.1 c8), (I r2.2.2.2)] [] []] := H
            replace H := H.ownLow 0 n0 n0 rfl hle hle
            clear hle
            replace H : Hp S0 σ0 σ67 [Ch.own n0 n0 (Sl a65 r62.1.2.1 c66) r62.1.2.1, Ch.own 0 0 (Sl a21 r18.1 c22) r18.1, Ch.bx n0 b59 0 [(I r53.1.1), (Sl a56 r53.1.2.1 c57), (I r53.1.2.2)] [] [], Ch.own n0 n0 (Sl a56 r53.1.2.1 c57) r53.1.2.1, Ch.ro 0 (Sl a5 r2.1 c6) r2.1, Ch.ro n0 (Sl a5 r2.1 c6) r2.1, Ch.ro n0 (Sl a7 r2.2.2.1 c8) r2.2.2.1, Ch.bx n0 b10 0 [(I r2.2.1), (Sl a7 r2.2.2.1 c8), (I r2.2.2.2)] [] []] := H
            replace H : Hp S0 σ0 σ67 [Ch.own n0 n0 (Sl a65 r62.1.2.1 c66) r62.1.2.1, Ch.own 0 0 (Sl a21 r18.1 c22) r18.1, Ch.bx n0 b59 0 [(I r53.1.1), (Sl a56 r53.1.2.1 c57), (I r53.1.2.2)] [] [], Ch.own n0 n0 (Sl a56 r53.1.2.1 c57) r53.1.2.1, Ch.ro n0 (Sl a5 r2.1 c6) r2.1, Ch.ro n0 (Sl a7 r2.2.2.1 c8) r2.2.2.1, Ch.bx n0 b10 0 [(I r2.2.1), (Sl a7 r2.2.2.1 c8), (I r2.2.2.2)] [] []] := H.sel' [0, 1, 2, 3, 5, 6, 7] rfl rfl
            refine st (v := (.tuple #[(.agg #[(I r62.1.1), (Sl a65 r62.1.2.1 c66), (I r62.1.2.2)]), (B r62.2)])) (rv_move rfl) ?_
            refine st (v := (.agg #[(I r62.1.1), (Sl a65 r62.1.2.1 c66), (I r62.1.2.2)])) (rv_extract rfl rfl) ?_
            refine st (v := (B r62.2)) (rv_extract rfl rfl) ?_
            refine st_ex (ex_alloc (cs := [(I 0), (.slice none 0 0), (I 0)]) H hn0 ti29 rfl) (wanted_none _ rfl _) ?_
            rintro _ σ69 ⟨b68, rfl, H, -⟩
            refine st_exS (ex_store_box (k := 0) (cs := [(I 0), (.slice none 0 0), (I 0)]) (vs := [(I r62.1.1), (Sl a65 r62.1.2.1 c66), (I r62.1.2.2)]) (cs' := [(I r62.1.1), (Sl a65 r62.1.2.1 c66), (I r62.1.2.2)]) H (i := 0) rfl ti29 rfl rfl rfl rfl rfl (Nat.le_of_ble_eq_true rfl) (by simp [plain]) rfl) (wanted_none _ rfl _) ?_
            rintro σ70 ⟨H, -⟩
            refine st (v := (B r62.2)) (rv_assign rfl) ?_
            refine w_end ?_
            refine q_then ?_
            refine c_seq ?_
            obtain ⟨o71, hj, h'⟩ := bind_some h
            clear h
            refine c_cut (fun e a w => e = .normal ∧ ∃ (ρ : Nat → Value) (σ : St), a = fr 86 (updL ρ [(3, (Sl a5 r2.1 c6)), (4, (pt b10 0)), (5, (Sl a21 r18.1 c22)), (9, (I s50)), (85, (B o71))]) ∧ w = σ.w ∧ Hp S0 σ0 σ [Ch.ro n0 (Sl a5 r2.1 c6) r2.1, Ch.ro n0 (Sl a7 r2.2.2.1 c8) r2.2.2.1, Ch.bx n0 b10 0 [(I r2.2.1), (Sl a7 r2.2.2.1 c8), (I r2.2.2.2)] [] [], Ch.own 0 0 (Sl a21 r18.1 c22) r18.1]) ?_ ?_
            · clear h'
              rename _ = some o71 => h
              refine rg ?_
              refine st (v := (I s50)) (rv_move rfl) ?_
              refine st (v := (pt b10 0)) (rv_fieldAddr (off := 0) (ft := 3) Try.underlying29 rfl ti3 rfl rfl) ?_
              have hc72 := H.cell (u := (I r2.2.1)) (o' := 0) 7 0 rfl rfl rfl
              refine st (v := (I r2.2.1)) (rv_load1 Try.underlying3 rfl rfl hc72) ?_
              refine st (v := (B (s50 != r2.2.1))) (rv_neq (a := s50) (b := r2.2.1) rfl rfl) ?_
              refine st (v := (B (s50 != r2.2.1))) (rv_move rfl) ?_
              rcases Bool.eq_false_or_eq_true (s50 != r2.2.1) with hb73 | hb73
              · replace h := bif_t hb73 h
                refine st_g (v := (B r53.2)) (congrArg some hb73) (rv_move rfl) ?_
                refine st_g (v := (B r62.2)) (congrArg some hb73) (rv_move rfl) ?_
                refine st_g (v := (B (r53.2 != r62.2))) (congrArg some hb73) (rv_bneq Try.underlying4 rfl rfl) ?_
                refine st_g (v := (B (r53.2 != r62.2))) (congrArg some hb73) (rv_move rfl) ?_
                rcases Bool.eq_false_or_eq_true (r53.2 != r62.2) with hb74 | hb74
                · replace h := bif_t hb74 h
                  refine st_skip (congrArg some hb74) ?_
                  refine st_skip (congrArg some hb74) ?_
                  refine st_skip (congrArg some hb74) ?_
                  refine st_skip (congrArg some hb74) ?_
                  refine st_g (v := (B true)) (congrArg some hb73) (rv_pick_t (congrArg B hb74) rfl) ?_
                  refine st (v := (B true)) (rv_pick_t (congrArg B hb73) rfl) ?_
                  refine w_end ?_
                  obtain rfl := Option.some.inj h
                  exact ⟨rfl, _, σ70, fr_join ⟨rfl, rfl, rfl, rfl, rfl, trivial⟩, rfl, H.sel' [5, 6, 7, 2] rfl rfl⟩
                · replace h := bif_f hb74 h
                  have hc75 := H.cells 3 rfl
                  refine st_g (v := (.agg #[(I r53.1.1), (Sl a56 r53.1.2.1 c57), (I r53.1.2.2)])) (congrArg some hb74) (rv_load (cs := [(I r53.1.1), (Sl a56 r53.1.2.1 c57), (I r53.1.2.2)]) Try.underlying29 rfl ti29 rfl rfl hc75) ?_
                  have hc76 := H.cells 0 rfl
                  refine st_g (v := (.agg #[(I r62.1.1), (Sl a65 r62.1.2.1 c66), (I r62.1.2.2)])) (congrArg some hb74) (rv_load (cs := [(I r62.1.1), (Sl a65 r62.1.2.1 c66), (I r62.1.2.2)]) Try.underlying29 rfl ti29 rfl rfl hc76) ?_
                  obtain ⟨σ77, hw78, H, -⟩ := H.pub 4 rfl (Nat.le_refl _)
                  rw [← hw78]; clear hw78
                  obtain ⟨σ79, hw80, H, -⟩ := H.pub 2 rfl (Nat.le_refl _)
                  rw [← hw80]; clear hw80
                  replace H := H.roLow 1 0 rfl (Nat.zero_le _)
                  replace H := H.roLow 1 0 rfl (Nat.zero_le _)
                  obtain ⟨r81, hx82, h'⟩ := bind_some h
                  clear h
                  have h := h'; clear h'
                  have hc83 := c_laws_equalItem (aa_0_1 := a56) (ca_0_1 := c57) (ab_1_1 := a65) (cb_1_1 := c66) hx82
                  refine st_call (cx_call hc83 (ent_f hc83.fn rfl) hn0 (show Hp S0 σ0 _ ([Ch.ro 0 (Sl a56 r53.1.2.1 c57) r53.1.2.1, Ch.ro 0 (Sl a65 r62.1.2.1 c66) r62.1.2.1] ++ [Ch.ro 0 (Sl a65 r62.1.2.1 c66) r62.1.2.1, Ch.ro 0 (Sl a56 r53.1.2.1 c57) r53.1.2.1, Ch.ro n0 (Sl a65 r62.1.2.1 c66) r62.1.2.1, Ch.ro n0 (Sl a56 r53.1.2.1 c57) r53.1.2.1, Ch.bx n0 b68 0 [(I r62.1.1), (Sl a65 r62.1.2.1 c66), (I r62.1.2.2)] [] [], Ch.own 0 0 (Sl a21 r18.1 c22) r18.1, Ch.bx n0 b59 0 [(I r53.1.1), (Sl a56 r53.1.2.1 c57), (I r53.1.2.2)] [] [], Ch.ro n0 (Sl a5 r2.1 c6) r2.1, Ch.ro n0 (Sl a7 r2.2.2.1 c8) r2.2.2.1, Ch.bx n0 b10 0 [(I r2.2.1), (Sl a7 r2.2.2.1 c8), (I r2.2.2.2)] [] []]) from (H.sel' [1, 0, 0, 1, 2, 3, 4, 5, 6, 7, 8, 9] rfl rfl))) (wanted_yes rfl (by exact (congrArg some hb74))) ?_
                  rintro _ σ84 ⟨_, ⟨rfl, rfl⟩, H, -⟩
                  replace H : Hp S0 σ0 σ84 [Ch.ro 0 (Sl a65 r62.1.2.1 c66) r62.1.2.1, Ch.ro 0 (Sl a56 r53.1.2.1 c57) r53.1.2.1, Ch.ro n0 (Sl a65 r62.1.2.1 c66) r62.1.2.1, Ch.ro n0 (Sl a56 r53.1.2.1 c57) r53.1.2.1, Ch.bx n0 b68 0 [(I r62.1.1), (Sl a65 r62.1.2.1 c66), (I r62.1.2.2)] [] [], Ch.own 0 0 (Sl a21 r18.1 c22) r18.1, Ch.bx n0 b59 0 [(I r53.1.1), (Sl a56 r53.1.2.1 c57), (I r53.1.2.2)] [] [], Ch.ro n0 (Sl a5 r2.1 c6) r2.1, Ch.ro n0 (Sl a7 r2.2.2.1 c8) r2.2.2.1, Ch.bx n0 b10 0 [(I r2.2.1), (Sl a7 r2.2.2.1 c8), (I r2.2.2.2)] [] []] := H
                  replace H : Hp S0 σ0 σ84 [Ch.own 0 0 (Sl a21 r18.1 c22) r18.1, Ch.ro n0 (Sl a5 r2.1 c6) r2.1, Ch.ro n0 (Sl a7 r2.2.2.1 c8) r2.2.2.1, Ch.bx n0 b10 0 [(I r2.2.1), (Sl a7 r2.2.2.1 c8), (I r2.2.2.2)] [] []] := H.sel' [5, 7, 8, 9] rfl rfl
                  refine st_g (v := (B (!r81))) (congrArg some hb74) (rv_not rfl) ?_
                  refine st_g (v := (B (!r81))) (congrArg some hb73) (rv_pick_f (congrArg B hb74) rfl) ?_
                  refine st (v := (B (!r81))) (rv_pick_t (congrArg B hb73) rfl) ?_
                  refine w_end ?_
                  obtain rfl := Option.some.inj h
                  exact ⟨rfl, _, σ84, fr_join ⟨rfl, rfl, rfl, rfl, rfl, trivial⟩, rfl, H.sel' [1, 2, 3, 0] rfl rfl⟩
              · replace h := bif_f hb73 h
                refine st_skip (congrArg some hb73) ?_
                refine st_skip (congrArg some hb73) ?_
                refine st_skip (congrArg some hb73) ?_
                refine st_skip (congrArg some hb73) ?_
                refine st_skip_u rfl ?_
                refine st_skip_u rfl ?_
                refine st_skip_u rfl ?_
                refine st_skip_u rfl ?_
                refine st_skip (congrArg some hb73) ?_
                refine st (v := (B false)) (rv_pick_f (congrArg B hb73) rfl) ?_
                refine w_end ?_
                obtain rfl := Option.some.inj h
                exact ⟨rfl, _, σ70, fr_join ⟨rfl, rfl, rfl, rfl, rfl, trivial⟩, rfl, H.sel' [5, 6, 7, 2] rfl rfl⟩
            · clear hj
              have h := h'
              clear h' H
              rintro e a w ⟨rfl, ρ, σ85, rfl, rfl, H⟩
              refine q_then ?_
              refine cd_cond o71 rfl (fun hb86 => ?_) (fun hb86 => ?_)
              · replace h := bif_t hb86 h
                refine c_seq ?_
                refine rg ?_
                refine st (v := (B false)) (rv_assign rfl) ?_
                refine w_end ?_
                refine q_then ?_
                refine c_ret ?_
                refine q_blk_r ?_
                refine q_then_r ?_
                refine q_then_r ?_
                refine q_blk_r ?_
                obtain rfl := Option.some.inj h
                obtain rfl := hres _ rfl
                exact .inr (⟨_, rfl, rfl, _, σ85, fr_join ⟨rfl, trivial⟩, rfl, H.sel' [] rfl rfl⟩)
              · replace h := bif_f hb86 h
                refine c_skip ?_
                refine q_blk ?_
                refine q_then ?_
                refine rg ?_
                refine st (v := (I s50)) (rv_move rfl) ?_
                refine st (v := (I (w64 (s50 + 1)))) (rv_add (a := s50) (b := 1) rfl rfl) ?_
                refine st (v := (I (w64 (s50 + 1)))) (rv_assign rfl) ?_
                refine w_end ?_
                refine q_then ?_
                obtain rfl := Option.some.inj h
                exact ⟨_, rfl, _, σ85, fr_join ⟨rfl, rfl, rfl, rfl, trivial⟩, rfl, H.sel' [0, 1, 2, 3] rfl rfl⟩
          · replace h := bif_f hb52 h
            refine c_exit ?_
            refine q_then_x ?_
            refine q_then_x ?_
            refine q_blk_hit ?_
            obtain rfl := Option.some.inj h
            obtain rfl := hres _ rfl
            exact .inl ⟨_, rfl, rfl, _, σ51, fr_join trivial, rfl, H.sel' [] rfl rfl⟩
        · clear hj
          have h := h'
          clear h' H
          rintro e a w (⟨t87, rfl, rfl, ρ, σ88, rfl, rfl, H⟩ | ⟨t89, rfl, rfl, ρ, σ90, rfl, rfl, H⟩)
          · replace h := selim_l h
            refine q_then ?_
            refine c_seq ?_
            refine rg ?_
            refine st (v := (B true)) (rv_assign rfl) ?_
            refine w_end ?_
            refine q_then ?_
            refine c_ret ?_
            obtain rfl := Option.some.inj h
            exact fin_ret (v := (B true)) (results_ok Try.results5 (res_tmp (v := (B true)) rfl res_nil) rfl) ⟨rfl, rfl⟩ (H.sel' [] rfl rfl)
          · replace h := selim_r h
            refine q_then_r ?_
            obtain rfl := Option.some.inj h
            exact fin_ret (v := (B t89)) (results_ok Try.results5 (res_tmp (v := (B t89)) rfl res_nil) rfl) ⟨rfl, rfl⟩ (H.sel' [] rfl rfl)

end Go.Vs
