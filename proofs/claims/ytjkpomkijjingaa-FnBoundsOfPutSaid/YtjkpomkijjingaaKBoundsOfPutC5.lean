/- The functions compute what their models say. -/
import Derived.Test.YtjkpomkijjingaaKBoundsOfPutC4
set_option linter.unusedVariables false
set_option linter.unusedSimpArgs false
set_option maxRecDepth 20000
namespace Go.Vs
open Go Go.Proofs
attribute [local irreducible] Code.wp wpList wpQuiet Calls

theorem c_laws_FnBoundsOfPut {code_0 : List UInt8} {acode_0 : Option Addr} {ccode_0 : Nat} {r : Bool} (h : M.laws_FnBoundsOfPut code_0 = some r) :
    Cal2 Try.prog 12 [(Sl acode_0 code_0 ccode_0)] [Ch.ro 0 (Sl acode_0 code_0 ccode_0) code_0] (fun n0 v L => v = (B r) ∧ L = []) := by
  refine cal2 (n := 125) Try.func12 rfl rfl rfl rfl ?_
  intro S0 σ0 n0 hn0 H
  unfold M.laws_FnBoundsOfPut at h
  refine c_seq ?_
  refine rg ?_
  refine st (v := (B false)) (rv_assign rfl) ?_
  refine w_end ?_
  refine q_then ?_
  refine c_seq ?_
  refine c_seq ?_
  refine rg ?_
  refine st (v := (Sl acode_0 code_0 ccode_0)) (rv_move rfl) ?_
  refine st (v := (I (code_0.length : Int))) (rv_len Try.underlying22 rfl) ?_
  refine st (v := (B (decide (1048576 < (code_0.length : Int))))) (rv_gtr (a := (code_0.length : Int)) (b := 1048576) rfl rfl) ?_
  refine w_end ?_
  refine q_then ?_
  refine cd_cond (decide (1048576 < (code_0.length : Int))) rfl (fun hb1 => ?_) (fun hb1 => ?_)
  · replace h := bif_t hb1 h
    refine c_seq ?_
    refine rg ?_
    refine st (v := (B true)) (rv_assign rfl) ?_
    refine w_end ?_
    refine q_then ?_
    refine c_ret ?_
    refine q_then_r ?_
    obtain rfl := Option.some.inj h
    exact fin_ret (v := (B true)) (results_ok Try.results12 (res_tmp (v := (B true)) rfl res_nil) rfl) ⟨rfl, rfl⟩ (H.sel' [] rfl rfl)
  · replace h := bif_f hb1 h
    refine c_skip ?_
    refine q_then ?_
    refine c_seq ?_
    refine rg ?_
    refine st (v := (Sl acode_0 code_0 ccode_0)) (rv_move rfl) ?_
    obtain ⟨r2, hx3, h'⟩ := bind_some h
    clear h
    have h := h'; clear h'
    have hc4 := c_spec_DrawPutItem (acode_0 := acode_0) (ccode_0 := ccode_0) hx3
    refine st_call (cx_call hc4 (ent_f hc4.fn rfl) hn0 (show Hp S0 σ0 _ ([Ch.ro 0 (Sl acode_0 code_0 ccode_0) code_0] ++ [Ch.ro 0 (Sl acode_0 code_0 ccode_0) code_0]) from (H.sel' [0, 0] rfl rfl))) (wanted_none _ rfl _) ?_
    rintro _ σ9 ⟨_, ⟨a5, c6, a7, c8, rfl, rfl⟩, H, -⟩
    replace H : Hp S0 σ0 σ9 [Ch.own n0 n0 (Sl a5 r2.1 c6) r2.1, Ch.own n0 n0 (Sl a7 r2.2.2.1 c8) r2.2.2.1, Ch.ro 0 (Sl acode_0 code_0 ccode_0) code_0] := H
    refine st (v := (.tuple #[(Sl a5 r2.1 c6), (.agg #[(I r2.2.1), (Sl a7 r2.2.2.1 c8), (I r2.2.2.2)])])) (rv_move rfl) ?_
    refine st (v := (Sl a5 r2.1 c6)) (rv_extract rfl rfl) ?_
    refine st (v := (.agg #[(I r2.2.1), (Sl a7 r2.2.2.1 c8), (I r2.2.2.2)])) (rv_extract rfl rfl) ?_
    refine st_ex (ex_alloc (cs := [(I 0), (.slice none 0 0), (I 0)]) H hn0 ti29 rfl) (wanted_none _ rfl _) ?_
    rintro _ σ11 ⟨b10, rfl, H, -⟩
    refine st (v := (Sl a5 r2.1 c6)) (rv_assign rfl) ?_
    refine st_exS (ex_store_box (k := 0) (cs := [(I 0), (.slice none 0 0), (I 0)]) (vs := [(I r2.2.1), (Sl a7 r2.2.2.1 c8), (I r2.2.2.2)]) (cs' := [(I r2.2.1), (Sl a7 r2.2.2.1 c8), (I r2.2.2.2)]) H (i := 0) rfl ti29 rfl rfl rfl rfl rfl (Nat.le_of_ble_eq_true rfl) (by simp [plain]) rfl) (wanted_none _ rfl _) ?_
    rintro σ12 ⟨H, -⟩
    refine w_end ?_
    refine q_then ?_
    refine c_seq ?_
    refine rg ?_
    refine st (v := (Sl a5 r2.1 c6)) (rv_move rfl) ?_
    have hc13 := H.cells 0 rfl
    refine st (v := (.agg #[(I r2.2.1), (Sl a7 r2.2.2.1 c8), (I r2.2.2.2)])) (rv_load (cs := [(I r2.2.1), (Sl a7 r2.2.2.1 c8), (I r2.2.2.2)]) Try.underlying29 rfl ti29 rfl rfl hc13) ?_
    obtain ⟨σ14, hw15, H, -⟩ := H.pub 1 rfl (Nat.le_refl _)
    rw [← hw15]; clear hw15
    obtain ⟨σ16, hw17, H, -⟩ := H.pub 2 rfl (Nat.le_refl _)
    rw [← hw17]; clear hw17
    replace H := H.roLow 1 0 rfl (Nat.zero_le _)
    replace H := H.roLow 1 0 rfl (Nat.zero_le _)
    obtain ⟨r18, hx19, h'⟩ := bind_some h
    clear h
    have h := h'; clear h'
    have hc20 := c_impl_PutItem (alist_0 := a5) (clist_0 := c6) (ax_1_1 := a7) (cx_1_1 := c8) hx19
    refine st_call (cx_call hc20 (ent_f hc20.fn rfl) hn0 (show Hp S0 σ0 _ ([Ch.ro 0 (Sl a5 r2.1 c6) r2.1, Ch.ro 0 (Sl a7 r2.2.2.1 c8) r2.2.2.1] ++ [Ch.ro 0 (Sl a7 r2.2.2.1 c8) r2.2.2.1, Ch.ro 0 (Sl a5 r2.1 c6) r2.1, Ch.ro n0 (Sl a7 r2.2.2.1 c8) r2.2.2.1, Ch.ro n0 (Sl a5 r2.1 c6) r2.1, Ch.bx n0 b10 0 [(I r2.2.1), (Sl a7 r2.2.2.1 c8), (I r2.2.2.2)] [] [], Ch.ro 0 (Sl acode_0 code_0 ccode_0) code_0]) from (H.sel' [1, 0, 0, 1, 2, 3, 4, 5] rfl rfl))) (wanted_none _ rfl _) ?_
    rintro _ σ23 ⟨_, ⟨a21, c22, rfl, rfl⟩, H, -⟩
    replace H : Hp S0 σ0 σ23 [Ch.own 0 0 (Sl a21 r18.1 c22) r18.1, Ch.ro 0 (Sl a7 r2.2.2.1 c8) r2.2.2.1, Ch.ro 0 (Sl a5 r2.1 c6) r2.1, Ch.ro n0 (Sl a7 r2.2.2.1 c8) r2.2.2.1, Ch.ro n0 (Sl a5 r2.1 c6) r2.1, Ch.bx n0 b10 0 [(I r2.2.1), (Sl a7 r2.2.2.1 c8), (I r2.2.2.2)] [] [], Ch.ro 0 (Sl acode_0 code_0 ccode_0) code_0] := H
    refine st (v := (.tuple #[(Sl a21 r18.1 c22), (B r18.2)])) (rv_move rfl) ?_
    refine st (v := (Sl a21 r18.1 c22)) (rv_extract rfl rfl) ?_
    refine st (v := (B r18.2)) (rv_extract rfl rfl) ?_
    refine st (v := (Sl a21 r18.1 c22)) (rv_assign rfl) ?_
    refine st (v := (B r18.2)) (rv_assign rfl) ?_
    refine w_end ?_
    refine q_then ?_
    refine c_seq ?_
    refine rg ?_
    refine st (v := (Sl a5 r2.1 c6)) (rv_move rfl) ?_
    have hc24 := H.cells 5 rfl
    refine st (v := (.agg #[(I r2.2.1), (Sl a7 r2.2.2.1 c8), (I r2.2.2.2)])) (rv_load (cs := [(I r2.2.1), (Sl a7 r2.2.2.1 c8), (I r2.2.2.2)]) Try.underlying29 rfl ti29 rfl rfl hc24) ?_
    replace H := H.roLow 4 0 rfl (Nat.zero_le _)
    replace H := H.roLow 4 0 rfl (Nat.zero_le _)
    obtain ⟨r25, hx26, h'⟩ := bind_some h
    clear h
    have h := h'; clear h'
    have hc27 := c_spec_PutItem (alist_0 := a5) (clist_0 := c6) (ax_1_1 := a7) (cx_1_1 := c8) hx26
    refine st_call (cx_call hc27 (ent_f hc27.fn rfl) hn0 (show Hp S0 σ0 _ ([Ch.ro 0 (Sl a5 r2.1 c6) r2.1, Ch.ro 0 (Sl a7 r2.2.2.1 c8) r2.2.2.1] ++ [Ch.ro 0 (Sl a7 r2.2.2.1 c8) r2.2.2.1, Ch.ro 0 (Sl a5 r2.1 c6) r2.1, Ch.own 0 0 (Sl a21 r18.1 c22) r18.1, Ch.ro 0 (Sl a7 r2.2.2.1 c8) r2.2.2.1, Ch.ro 0 (Sl a5 r2.1 c6) r2.1, Ch.ro n0 (Sl a7 r2.2.2.1 c8) r2.2.2.1, Ch.ro n0 (Sl a5 r2.1 c6) r2.1, Ch.bx n0 b10 0 [(I r2.2.1), (Sl a7 r2.2.2.1 c8), (I r2.2.2.2)] [] [], Ch.ro 0 (Sl acode_0 code_0 ccode_0) code_0]) from (H.sel' [1, 0, 0, 1, 2, 3, 4, 5, 6, 7, 8] rfl rfl))) (wanted_none _ rfl _) ?_
    rintro _ σ30 ⟨_, ⟨a28, c29, rfl, rfl⟩, H, -⟩
    replace H : Hp S0 σ0 σ30 [Ch.own n0 n0 (Sl a28 r25.1 c29) r25.1, Ch.ro 0 (Sl a7 r2.2.2.1 c8) r2.2.2.1, Ch.ro 0 (Sl a5 r2.1 c6) r2.1, Ch.own 0 0 (Sl a21 r18.1 c22) r18.1, Ch.ro 0 (Sl a7 r2.2.2.1 c8) r2.2.2.1, Ch.ro 0 (Sl a5 r2.1 c6) r2.1, Ch.ro n0 (Sl a7 r2.2.2.1 c8) r2.2.2.1, Ch.ro n0 (Sl a5 r2.1 c6) r2.1, Ch.bx n0 b10 0 [(I r2.2.1), (Sl a7 r2.2.2.1 c8), (I r2.2.2.2)] [] [], Ch.ro 0 (Sl acode_0 code_0 ccode_0) code_0] := H
    replace H : Hp S0 σ0 σ30 [Ch.own n0 n0 (Sl a28 r25.1 c29) r25.1, Ch.own 0 0 (Sl a21 r18.1 c22) r18.1, Ch.ro n0 (Sl a7 r2.2.2.1 c8) r2.2.2.1, Ch.ro n0 (Sl a5 r2.1 c6) r2.1, Ch.bx n0 b10 0 [(I r2.2.1), (Sl a7 r2.2.2.1 c8), (I r2.2.2.2)] [] []] := H.sel' [0, 3, 6, 7, 8] rfl rfl
    refine st (v := (.tuple #[(Sl a28 r25.1 c29), (B r25.2)])) (rv_move rfl) ?_
    refine st (v := (Sl a28 r25.1 c29)) (rv_extract rfl rfl) ?_
    refine st (v := (B r25.2)) (rv_extract rfl rfl) ?_
    refine st (v := (Sl a28 r25.1 c29)) (rv_assign rfl) ?_
    refine st (v := (B r25.2)) (rv_assign rfl) ?_
    refine w_end ?_
    refine q_then ?_
    refine c_seq ?_
    refine c_seq ?_
    obtain ⟨o31, hj, h'⟩ := bind_some h
    clear h
    refine c_cut (fun e a w => e = .normal ∧ ∃ (ρ : Nat → Value) (σ : St), a = fr 125 (updL ρ [(3, (Sl a5 r2.1 c6)), (4, (pt b10 0)), (5, (Sl a21 r18.1 c22)), (6, (B r18.2)), (7, (Sl a28 r25.1 c29)), (8, (B r25.2)), (60, (B o31))]) ∧ w = σ.w ∧ Hp S0 σ0 σ [Ch.ro n0 (Sl a5 r2.1 c6) r2.1, Ch.ro n0 (Sl a7 r2.2.2.1 c8) r2.2.2.1, Ch.bx n0 b10 0 [(I r2.2.1), (Sl a7 r2.2.2.1 c8), (I r2.2.2.2)] [] [], Ch.own 0 0 (Sl a21 r18.1 c22) r18.1, Ch.own n0 n0 (Sl a28 r25.1 c29) r25.1]) ?_ ?_
    · clear h'
      rename _ = some o31 => h
      refine rg ?_
      refine st (v := (Sl a21 r18.1 c22)) (rv_move rfl) ?_
      refine st (v := (Sl a28 r25.1 c29)) (rv_move rfl) ?_
      obtain ⟨r32, hx33, h'⟩ := bind_some h
      clear h
      have h := h'; clear h'
      have hc34 := c_laws_equalItems (aa_0 := a21) (ca_0 := c22) (ab_1 := a28) (cb_1 := c29) hx33
      have hle := Nat.le_trans hn0 H.size
      refine st_call (cx_lend (Loan.lend (Loan.lend Loan.nil)) hc34 (ent_f hc34.fn rfl) (show Hp S0 σ0 _ ([Ch.own 0 0 (Sl a21 r18.1 c22) r18.1, Ch.own n0 n0 (Sl a28 r25.1 c29) r25.1] ++ ([] ++ [Ch.ro n0 (Sl a7 r2.2.2.1 c8) r2.2.2.1, Ch.ro n0 (Sl a5 r2.1 c6) r2.1, Ch.bx n0 b10 0 [(I r2.2.1), (Sl a7 r2.2.2.1 c8), (I r2.2.2.2)] [] []])) from (H.sel' [1, 0, 2, 3, 4] rfl rfl)) (by rintro _ _ _ ⟨rfl, rfl⟩; exact trivial)) (wanted_none _ rfl _) ?_
      rintro _ σ35 ⟨_, ⟨rfl, rfl⟩, H, -, -⟩
      replace H : Hp S0 σ0 σ35 [Ch.own 0 0 (Sl a21 r18.1 c22) r18.1, Ch.own n0 n0 (Sl a28 r25.1 c29) r25.1, Ch.ro n0 (Sl a7 r2.2.2.1 c8) r2.2.2.1, Ch.ro n0 (Sl a5 r2.1 c6) r2.1, Ch.bx n0 b10 0 [(I r2.2.1), (Sl a7 r2.2.2.1 c8), (I r2.2.2.2)] [] []] := H
      clear hle
      replace H : Hp S0 σ0 σ35 [Ch.own 0 0 (Sl a21 r18.1 c22) r18.1, Ch.own n0 n0 (Sl a28 r25.1 c29) r25.1, Ch.ro n0 (Sl a7 r2.2.2.1 c8) r2.2.2.1, Ch.ro n0 (Sl a5 r2.1 c6) r2.1, Ch.bx n0 b10 0 [(I r2.2.1), (Sl a7 r2.2.2.1 c8), (I r2.2.2.2)] [] []] := H
      refine st (v := (B (!r32))) (rv_not rfl) ?_
      refine st (v := (B (!r32))) (rv_move rfl) ?_
      rcases Bool.eq_false_or_eq_true (!r32) with hb36 | hb36
      · replace h := bif_t hb36 h
        refine st_skip (congrArg some hb36) ?_
        refine st_skip (congrArg some hb36) ?_
        refine st_skip (congrArg some hb36) ?_
        refine st (v := (B true)) (rv_pick_t (congrArg B hb36) rfl) ?_
        refine st (v := (B true)) (rv_move rfl) ?_
        refine st_skip rfl ?_
        refine st_skip rfl ?_
        refine st (v := (B true)) (rv_pick_t rfl rfl) ?_
        refine st (v := (B true)) (rv_move rfl) ?_
        refine st_skip rfl ?_
        refine st_skip rfl ?_
        refine st_skip rfl ?_
        refine st (v := (B true)) (rv_pick_t rfl rfl) ?_
        refine st (v := (B true)) (rv_move rfl) ?_
        refine st_skip rfl ?_
        refine st_skip rfl ?_
        refine st_skip rfl ?_
        refine st_skip rfl ?_
        refine st_skip rfl ?_
        refine st (v := (B true)) (rv_pick_t rfl rfl) ?_
        refine w_end ?_
        obtain rfl := Option.some.inj h
        exact ⟨rfl, _, σ35, fr_join ⟨rfl, rfl, rfl, rfl, rfl, rfl, rfl, trivial⟩, rfl, H.sel' [3, 2, 4, 0, 1] rfl rfl⟩
      · replace h := bif_f hb36 h
        refine st_g (v := (B r18.2)) (congrArg some hb36) (rv_move rfl) ?_
        refine st_g (v := (B r25.2)) (congrArg some hb36) (rv_move rfl) ?_
        refine st_g (v := (B (r18.2 != r25.2))) (congrArg some hb36) (rv_bneq Try.underlying4 rfl rfl) ?_
        refine st (v := (B (r18.2 != r25.2))) (rv_pick_f (congrArg B hb36) rfl) ?_
        refine st (v := (B (r18.2 != r25.2))) (rv_move rfl) ?_
        rcases Bool.eq_false_or_eq_true (r18.2 != r25.2) with hb37 | hb37
        · replace h := bif_t hb37 h
          refine st_skip (congrArg some hb37) ?_
          refine st_skip (congrArg some hb37) ?_
          refine st (v := (B true)) (rv_pick_t (congrArg B hb37) rfl) ?_
          refine st (v := (B true)) (rv_move rfl) ?_
          refine st_skip rfl ?_
          refine st_skip rfl ?_
          refine st_skip rfl ?_
          refine st (v := (B true)) (rv_pick_t rfl rfl) ?_
          refine st (v := (B true)) (rv_move rfl) ?_
          refine st_skip rfl ?_
          refine st_skip rfl ?_
          refine st_skip rfl ?_
          refine st_skip rfl ?_
          refine st_skip rfl ?_
          refine st (v := (B true)) (rv_pick_t rfl rfl) ?_
          refine w_end ?_
          obtain rfl := Option.some.inj h
          exact ⟨rfl, _, σ35, fr_join ⟨rfl, rfl, rfl, rfl, rfl, rfl, rfl, trivial⟩, rfl, H.sel' [3, 2, 4, 0, 1] rfl rfl⟩
        · replace h := bif_f hb37 h
          refine st_g (v := (B r18.2)) (congrArg some hb37) (rv_move rfl) ?_
          refine st_g (v := (B (!r18.2))) (congrArg some hb37) (rv_not rfl) ?_
          refine st (v := (B (!r18.2))) (rv_pick_f (congrArg B hb37) rfl) ?_
          refine st (v := (B (!r18.2))) (rv_move rfl) ?_
          rcases Bool.eq_false_or_eq_true (!r18.2) with hb38 | hb38
          · replace h := bif_t hb38 h
            refine st_skip (congrArg some hb38) ?_
            refine st_skip (congrArg some hb38) ?_
            refine st_skip (congrArg some hb38) ?_
            refine st (v := (B true)) (rv_pick_t (congrArg B hb38) rfl) ?_
            refine st (v := (B true)) (rv_move rfl) ?_
            refine st_skip rfl ?_
            refine st_skip rfl ?_
            refine st_skip rfl ?_
            refine st_skip rfl ?_
            refine st_skip rfl ?_
            refine st (v := (B true)) (rv_pick_t rfl rfl) ?_
            refine w_end ?_
            obtain rfl := Option.some.inj h
            exact ⟨rfl, _, σ35, fr_join ⟨rfl, rfl, rfl, rfl, rfl, rfl, rfl, trivial⟩, rfl, H.sel' [3, 2, 4, 0, 1] rfl rfl⟩
          · replace h := bif_f hb38 h
            refine st_g (v := (Sl a5 r2.1 c6)) (congrArg some hb38) (rv_move rfl) ?_
            refine st_g (v := (I (r2.1.length : Int))) (congrArg some hb38) (rv_len Try.underlying23 rfl) ?_
            refine st_g (v := (B ((r2.1.length : Int) == 0))) (congrArg some hb38) (rv_eql (a := (r2.1.length : Int)) (b := 0) rfl rfl) ?_
            refine st (v := (B ((r2.1.length : Int) == 0))) (rv_pick_f (congrArg B hb38) rfl) ?_
            refine st (v := (B ((r2.1.length : Int) == 0))) (rv_move rfl) ?_
            rcases Bool.eq_false_or_eq_true ((r2.1.length : Int) == 0) with hb39 | hb39
            · replace h := bif_t hb39 h
              refine st_skip (congrArg some hb39) ?_
              refine st_skip (congrArg some hb39) ?_
              refine st_skip (congrArg some hb39) ?_
              refine st_skip (congrArg some hb39) ?_
              refine st_skip (congrArg some hb39) ?_
              refine st (v := (B true)) (rv_pick_t (congrArg B hb39) rfl) ?_
              refine w_end ?_
              obtain rfl := Option.some.inj h
              exact ⟨rfl, _, σ35, fr_join ⟨rfl, rfl, rfl, rfl, rfl, rfl, rfl, trivial⟩, rfl, H.sel' [3, 2, 4, 0, 1] rfl rfl⟩
            · replace h := bif_f hb39 h
              refine st_g (v := (Sl a21 r18.1 c22)) (congrArg some hb39) (rv_move rfl) ?_
              refine st_g (v := (I (r18.1.length : Int))) (congrArg some hb39) (rv_len Try.underlying23 rfl) ?_
              refine st_g (v := (Sl a5 r2.1 c6)) (congrArg some hb39) (rv_move rfl) ?_
              refine st_g (v := (I (r2.1.length : Int))) (congrArg some hb39) (rv_len Try.underlying23 rfl) ?_
              refine st_g (v := (B ((r18.1.length : Int) == (r2.1.length : Int)))) (congrArg some hb39) (rv_eql (a := (r18.1.length : Int)) (b := (r2.1.length : Int)) rfl rfl) ?_
              refine st (v := (B ((r18.1.length : Int) == (r2.1.length : Int)))) (rv_pick_f (congrArg B hb39) rfl) ?_
              refine w_end ?_
              obtain rfl := Option.some.inj h
              exact ⟨rfl, _, σ35, fr_join ⟨rfl, rfl, rfl, rfl, rfl, rfl, rfl, trivial⟩, rfl, H.sel' [3, 2, 4, 0, 1] rfl rfl⟩
    · clear hj
      have h := h'
      clear h' H
      rintro e a w ⟨rfl, ρ, σ40, rfl, rfl, H⟩
      refine q_then ?_
      refine cd_cond o31 rfl (fun hb41 => ?_) (fun hb41 => ?_)
      · replace h := bif_t hb41 h
        refine c_seq ?_
        refine rg ?_
        refine st (v := (Sl a21 r18.1 c22)) (rv_move rfl) ?_
        refine st (v := (Sl a28 r25.1 c29)) (rv_move rfl) ?_
        obtain ⟨σ42, hw43, H, -⟩ := H.pub 3 rfl (Nat.le_refl _)
        rw [← hw43]; clear hw43
        obtain ⟨σ44, hw45, H, -⟩ := H.pub 4 rfl (Nat.le_refl _)
        rw [← hw45]; clear hw45
        replace H := H.roLow 0 0 rfl (Nat.zero_le _)
        obtain ⟨r46, hx47, h'⟩ := bind_some h
        clear h
        have h := h'; clear h'
        have hc48 := c_laws_equalItems (aa_0 := a21) (ca_0 := c22) (ab_1 := a28) (cb_1 := c29) hx47
        refine st_call (cx_call hc48 (ent_f hc48.fn rfl) hn0 (show Hp S0 σ0 _ ([Ch.ro 0 (Sl a21 r18.1 c22) r18.1, Ch.ro 0 (Sl a28 r25.1 c29) r25.1] ++ [Ch.ro 0 (Sl a28 r25.1 c29) r25.1, Ch.ro n0 (Sl a28 r25.1 c29) r25.1, Ch.ro 0 (Sl a21 r18.1 c22) r18.1, Ch.ro n0 (Sl a5 r2.1 c6) r2.1, Ch.ro n0 (Sl a7 r2.2.2.1 c8) r2.2.2.1, Ch.bx n0 b10 0 [(I r2.2.1), (Sl a7 r2.2.2.1 c8), (I r2.2.2.2)] [] []]) from (H.sel' [2, 0, 0, 1, 2, 3, 4, 5] rfl rfl))) (wanted_none _ rfl _) ?_
        rintro _ σ49 ⟨_, ⟨rfl, rfl⟩, H, -⟩
        replace H : Hp S0 σ0 σ49 [Ch.ro 0 (Sl a28 r25.1 c29) r25.1, Ch.ro n0 (Sl a28 r25.1 c29) r25.1, Ch.ro 0 (Sl a21 r18.1 c22) r18.1, Ch.ro n0 (Sl a5 r2.1 c6) r2.1, Ch.ro n0 (Sl a7 r2.2.2.1 c8) r2.2.2.1, Ch.bx n0 b10 0 [(I r2.2.1), (Sl a7 r2.2.2.1 c8), (I r2.2.2.2)] [] []] := H
        refine st (v := (B r46)) (rv_move rfl) ?_
        rcases Bool.eq_false_or_eq_true r46 with hb50 | hb50
        · replace h := bif_t hb50 h
          refine st_g (v := (B r18.2)) (congrArg some hb50) (rv_move rfl) ?_
          refine st_g (v := (B r25.2)) (congrArg some hb50) (rv_move rfl) ?_
          refine st_g (v := (B (r18.2 == r25.2))) (congrArg some hb50) (rv_beql Try.underlying4 rfl rfl) ?_
          refine st (v := (B (r18.2 == r25.2))) (rv_pick_t (congrArg B hb50) rfl) ?_
          refine st (v := (B (r18.2 == r25.2))) (rv_assign rfl) ?_
          refine w_end ?_
          refine q_then ?_
          refine c_ret ?_
          refine q_then_r ?_
          obtain rfl := Option.some.inj h
          exact fin_ret (v := (B (r18.2 == r25.2))) (results_ok Try.results12 (res_tmp (v := (B (r18.2 == r25.2))) rfl res_nil) rfl) ⟨rfl, rfl⟩ (H.sel' [] rfl rfl)
        · replace h := bif_f hb50 h
          refine st_skip (congrArg some hb50) ?_
          refine st_skip (congrArg some hb50) ?_
          refine st_skip (congrArg some hb50) ?_
          refine st (v := (B false)) (rv_pick_f (congrArg B hb50) rfl) ?_
          refine st (v := (B false)) (rv_assign rfl) ?_
          refine w_end ?_
          refine q_then ?_
          refine c_ret ?_
          refine q_then_r ?_
          obtain rfl := Option.some.inj h
          exact fin_ret (v := (B false)) (results_ok Try.results12 (res_tmp (v := (B false)) rfl res_nil) rfl) ⟨rfl, rfl⟩ (H.sel' [] rfl rfl)
      · replace h := bif_f hb41 h
        refine c_skip ?_
        refine q_then ?_
        refine c_seq ?_
        refine rg ?_
        refine st (v := (Sl a5 r2.1 c6)) (rv_move rfl) ?_
        replace H := H.roLow 0 0 rfl (Nat.zero_le _)
        obtain ⟨r51, hx52, h'⟩ := bind_some h
        clear h
        have h := h'; clear h'
        have hc53 := c_impl_BoundsOf (alist_0 := a5) (clist_0 := c6) hx52
        refine st_call (cx_call hc53 (ent_f hc53.fn rfl) hn0 (show Hp S0 σ0 _ ([Ch.ro 0 (Sl a5 r2.1 c6) r2.1] ++ [Ch.ro 0 (Sl a5 r2.1 c6) r2.1, Ch.ro n0 (Sl a5 r2.1 c6) r2.1, Ch.ro n0 (Sl a7 r2.2.2.1 c8) r2.2.2.1, Ch.bx n0 b10 0 [(I r2.2.1), (Sl a7 r2.2.2.1 c8), (I r2.2.2.2)] [] [], Ch.own 0 0 (Sl a21 r18.1 c22) r18.1, Ch.own n0 n0 (Sl a28 r25.1 c29) r25.1]) from (H.sel' [0, 0, 1, 2, 3, 4, 5] rfl rfl))) (wanted_none _ rfl _) ?_
        rintro _ σ60 ⟨_, ⟨a54, c55, a57, c58, rfl, rfl, ht56, ht59⟩, H, -⟩
        replace H : Hp S0 σ0 σ60 [Ch.own n0 n0 (Sl a54 r51.1 c55) r51.1, Ch.own n0 n0 (Sl a57 r51.2.1 c58) r51.2.1, Ch.ro 0 (Sl a5 r2.1 c6) r2.1, Ch.ro n0 (Sl a5 r2.1 c6) r2.1, Ch.ro n0 (Sl a7 r2.2.2.1 c8) r2.2.2.1, Ch.bx n0 b10 0 [(I r2.2.1), (Sl a7 r2.2.2.1 c8), (I r2.2.2.2)] [] [], Ch.own 0 0 (Sl a21 r18.1 c22) r18.1, Ch.own n0 n0 (Sl a28 r25.1 c29) r25.1] := H
        replace H : Hp S0 σ0 σ60 [Ch.own n0 n0 (Sl a54 r51.1 c55) r51.1, Ch.own n0 n0 (Sl a57 r51.2.1 c58) r51.2.1, Ch.ro n0 (Sl a7 r2.2.2.1 c8) r2.2.2.1, Ch.bx n0 b10 0 [(I r2.2.1), (Sl a7 r2.2.2.1 c8), (I r2.2.2.2)] [] [], Ch.own 0 0 (Sl a21 r18.1 c22) r18.1] := H.sel' [0, 1, 4, 5, 6] rfl rfl
        refine st (v := (.tuple #[(Sl a54 r51.1 c55), (Sl a57 r51.2.1 c58), (B r51.2.2)])) (rv_move rfl) ?_
        refine st (v := (Sl a54 r51.1 c55)) (rv_extract rfl rfl) ?_
        refine st (v := (Sl a57 r51.2.1 c58)) (rv_extract rfl rfl) ?_
        refine st (v := (B r51.2.2)) (rv_extract rfl rfl) ?_
        refine st (v := (Sl a54 r51.1 c55)) (rv_assign rfl) ?_
        refine st (v := (Sl a57 r51.2.1 c58)) (rv_assign rfl) ?_
        refine st (v := (B r51.2.2)) (rv_assign rfl) ?_
        refine w_end ?_
        refine q_then ?_
        refine c_seq ?_
        refine rg ?_
        refine st (v := (Sl a21 r18.1 c22)) (rv_move rfl) ?_
        obtain ⟨σ61, hw62, H, -⟩ := H.pub 4 rfl (Nat.le_refl _)
        rw [← hw62]; clear hw62
        obtain ⟨r63, hx64, h'⟩ := bind_some h
        clear h
        have h := h'; clear h'
        have hc65 := c_impl_BoundsOf (alist_0 := a21) (clist_0 := c22) hx64
        refine st_call (cx_call hc65 (ent_f hc65.fn rfl) hn0 (show Hp S0 σ0 _ ([Ch.ro 0 (Sl a21 r18.1 c22) r18.1] ++ [Ch.ro 0 (Sl a21 r18.1 c22) r18.1, Ch.own n0 n0 (Sl a54 r51.1 c55) r51.1, Ch.own n0 n0 (Sl a57 r51.2.1 c58) r51.2.1, Ch.ro n0 (Sl a7 r2.2.2.1 c8) r2.2.2.1, Ch.bx n0 b10 0 [(I r2.2.1), (Sl a7 r2.2.2.1 c8), (I r2.2.2.2)] [] []]) from (H.sel' [0, 0, 1, 2, 3, 4] rfl rfl))) (wanted_none _ rfl _) ?_
        rintro _ σ72 ⟨_, ⟨a66, c67, a69, c70, rfl, rfl, ht68, ht71⟩, H, -⟩
        replace H : Hp S0 σ0 σ72 [Ch.own n0 n0 (Sl a66 r63.1 c67) r63.1, Ch.own n0 n0 (Sl a69 r63.2.1 c70) r63.2.1, Ch.ro 0 (Sl a21 r18.1 c22) r18.1, Ch.own n0 n0 (Sl a54 r51.1 c55) r51.1, Ch.own n0 n0 (Sl a57 r51.2.1 c58) r51.2.1, Ch.ro n0 (Sl a7 r2.2.2.1 c8) r2.2.2.1, Ch.bx n0 b10 0 [(I r2.2.1), (Sl a7 r2.2.2.1 c8), (I r2.2.2.2)] [] []] := H
        refine st (v := (.tuple #[(Sl a66 r63.1 c67), (Sl a69 r63.2.1 c70), (B r63.2.2)])) (rv_move rfl) ?_
        refine st (v := (Sl a66 r63.1 c67)) (rv_extract rfl rfl) ?_
        refine st (v := (Sl a69 r63.2.1 c70)) (rv_extract rfl rfl) ?_
        refine st (v := (B r63.2.2)) (rv_extract rfl rfl) ?_
        refine st (v := (Sl a66 r63.1 c67)) (rv_assign rfl) ?_
        refine st (v := (Sl a69 r63.2.1 c70)) (rv_assign rfl) ?_
        refine st (v := (B r63.2.2)) (rv_assign rfl) ?_
        refine w_end ?_
        refine q_then ?_
        refine c_seq ?_
        refine c_seq ?_
        refine rg ?_
        refine st (v := (I 0)) (rv_assign rfl) ?_
        refine w_end ?_
        refine q_then ?_
        obtain ⟨o73, hj, h'⟩ := bind_some h
        clear h
        refine c_cut (fun e a w => (∃ t, o73 = (.inl t) ∧ e = .normal ∧ ∃ (ρ : Nat → Value) (σ : St), a = fr 125 (updL ρ []) ∧ w = σ.w ∧ Hp S0 σ0 σ []) ∨ (∃ t, o73 = (.inr t) ∧ e = .ret ∧ ∃ (ρ : Nat → Value) (σ : St), a = fr 125 (updL ρ [(2, (B t))]) ∧ w = σ.w ∧ Hp S0 σ0 σ [])) ?_ ?_
        · clear h'
          rename _ = some o73 => h
          refine c_blk ?_
          refine wp_loopM _ h (fun s74 a w => ∃ (ρ : Nat → Value) (σ : St), a = fr 125 (updL ρ [(4, (pt b10 0)), (9, (Sl a54 r51.1 c55)), (10, (Sl a57 r51.2.1 c58)), (11, (B r51.2.2)), (12, (Sl a66 r63.1 c67)), (13, (Sl a69 r63.2.1 c70)), (14, (B r63.2.2)), (15, (I s74))]) ∧ w = σ.w ∧ Hp S0 σ0 σ [Ch.ro n0 (Sl a7 r2.2.2.1 c8) r2.2.2.1, Ch.bx n0 b10 0 [(I r2.2.1), (Sl a7 r2.2.2.1 c8), (I r2.2.2.2)] [] [], Ch.own n0 n0 (Sl a54 r51.1 c55) r51.1, Ch.own n0 n0 (Sl a57 r51.2.1 c58) r51.2.1, Ch.own n0 n0 (Sl a66 r63.1 c67) r63.1, Ch.own n0 n0 (Sl a69 r63.2.1 c70) r63.2.1]) ⟨_, σ72, fr_join ⟨rfl, rfl, rfl, rfl, rfl, rfl, rfl, rfl, trivial⟩, rfl, H.sel' [5, 6, 3, 4, 0, 1] rfl rfl⟩ ?_
          clear h H
          rintro s74 a w o ⟨ρ, σ75, rfl, rfl, H⟩ h hres
          refine c_seq ?_
          refine c_seq ?_
          refine rg ?_
          refine st (v := (I s74)) (rv_move rfl) ?_
          refine st (v := (B (decide (s74 < 4)))) (rv_lss (a := s74) (b := 4) rfl rfl) ?_
          refine w_end ?_
          refine q_then ?_
          refine cd_cond (decide (s74 < 4)) rfl (fun hb76 => ?_) (fun hb76 => ?_)
          · replace h := bif_t hb76 h
            refine c_skip ?_
            refine q_then ?_
            refine c_seq ?_
            refine c_blk ?_
            refine c_seq ?_
            obtain ⟨o77, hj, h'⟩ := bind_some h
            clear h
            refine c_cut (fun e a w => e = .normal ∧ ∃ (ρ : Nat → Value) (σ : St), a = fr 125 (updL ρ [(4, (pt b10 0)), (9, (Sl a54 r51.1 c55)), (10, (Sl a57 r51.2.1 c58)), (11, (B r51.2.2)), (12, (Sl a66 r63.1 c67)), (13, (Sl a69 r63.2.1 c70)), (14, (B r63.2.2)), (15, (I s74)), (124, (B o77))]) ∧ w = σ.w ∧ Hp S0 σ0 σ [Ch.ro n0 (Sl a7 r2.2.2.1 c8) r2.2.2.1, Ch.bx n0 b10 0 [(I r2.2.1), (Sl a7 r2.2.2.1 c8), (I r2.2.2.2)] [] [], Ch.own n0 n0 (Sl a54 r51.1 c55) r51.1, Ch.own n0 n0 (Sl a57 r51.2.1 c58) r51.2.1, Ch.own n0 n0 (Sl a66 r63.1 c67) r63.1, Ch.own n0 n0 (Sl a69 r63.2.1 c70) r63.2.1]) ?_ ?_
            · clear h'
              rename _ = some o77 => h
              rcases Bool.eq_false_or_eq_true (!r51.2.2) with hb78 | hb78
              · replace h := bif_t hb78 h
                have Hs := H
                refine rg2 (σ := σ75) (Nm := Unit) 38 [] [[]] [[(0, 0)], [(0, 0)], [(0, 0)], [(0, 0)], [(0, 0)], [(0, 0)], [(0, 0)], [(0, 0)], [(0, 0)], [(0, 0)], [(0, 0)], [(0, 0)], [(0, 0)], [(0, 0)], [(0, 0)], [(0, 0)], [(0, 0)], [(0, 0)], [(0, 0)], [(0, 0)], [(0, 0)], [(0, 0)], [(0, 0)], [(0, 0)], [(0, 0)], [(0, 0)], [(0, 0)], [(0, 0)], [(0, 0)], [(0, 0)], [(0, 0)], [(0, 0)], [(0, 0)], [(0, 0)], [(0, 0)], [(0, 0)], [(0, 0)], [(0, 0)]] 0 [fun (_nm : Unit) => fun σm => Hp S0 σ0 σm [Ch.ro n0 (Sl a7 r2.2.2.1 c8) r2.2.2.1, Ch.bx n0 b10 0 [(I r2.2.1), (Sl a7 r2.2.2.1 c8), (I r2.2.2.2)] [] [], Ch.own n0 n0 (Sl a54 r51.1 c55) r51.1, Ch.own n0 n0 (Sl a57 r51.2.1 c58) r51.2.1, Ch.own n0 n0 (Sl a66 r63.1 c67) r63.1, Ch.own n0 n0 (Sl a69 r63.2.1 c70) r63.2.1] ∧ Md (cov []) σ75 σm] [fun (_nm : Unit) => (B r51.2.2), fun (_nm : Unit) => (B (!r51.2.2)), fun (_nm : Unit) => (B (!r51.2.2)), fun (_nm : Unit) => undef, fun (_nm : Unit) => undef, fun (_nm : Unit) => (B true), fun (_nm : Unit) => (B true), fun (_nm : Unit) => undef, fun (_nm : Unit) => undef, fun (_nm : Unit) => undef, fun (_nm : Unit) => undef, fun (_nm : Unit) => undef, fun (_nm : Unit) => undef, fun (_nm : Unit) => undef, fun (_nm : Unit) => undef, fun (_nm : Unit) => undef, fun (_nm : Unit) => undef, fun (_nm : Unit) => undef, fun (_nm : Unit) => undef, fun (_nm : Unit) => undef, fun (_nm : Unit) => undef, fun (_nm : Unit) => undef, fun (_nm : Unit) => (B true), fun (_nm : Unit) => (B true), fun (_nm : Unit) => undef, fun (_nm : Unit) => undef, fun (_nm : Unit) => undef, fun (_nm : Unit) => undef, fun (_nm : Unit) => undef, fun (_nm : Unit) => undef, fun (_nm : Unit) => undef, fun (_nm : Unit) => undef, fun (_nm : Unit) => undef, fun (_nm : Unit) => undef, fun (_nm : Unit) => undef, fun (_nm : Unit) => undef, fun (_nm : Unit) => undef, fun (_nm : Unit) => undef] () (by kernel_rfl) (by kernel_rfl) ?_ ?_ ?_
                · intro σm m0
                  exact ⟨H.grow (m0.mono fun _ h => h.elim), m0⟩
                · refine all_cons (obs_v rfl (by
                      intro k; intro _nm ρ σm hJ hoff hdep
                      have e11 : look 125 ρ 11 = (B r51.2.2) := look_off (hoff 11 rfl) rfl
                      exact dp_v (v := (B r51.2.2)) (wanted_none _ rfl _) (rv_move e11) rfl hJ)) ?_
                  refine all_cons (obs_v rfl (by
                      intro k; intro _nm ρ σm hJ hoff hdep
                      have e85 : look 125 ρ 85 = (B r51.2.2) := hdep 0 rfl rfl 85 rfl
                      exact dp_v (v := (B (!r51.2.2))) (wanted_none _ rfl _) (rv_not e85) rfl hJ)) ?_
                  refine all_cons (obs_v rfl (by
                      intro k; intro _nm ρ σm hJ hoff hdep
                      have e86 : look 125 ρ 86 = (B (!r51.2.2)) := hdep 1 rfl rfl 86 rfl
                      exact dp_v (v := (B (!r51.2.2))) (wanted_none _ rfl _) (rv_move e86) rfl hJ)) ?_
                  refine all_cons (obs_v rfl (by
                      intro k; intro _nm ρ σm hJ hoff hdep
                      have e87 : look 125 ρ 87 = (B (!r51.2.2)) := hdep 2 rfl rfl 87 rfl
                      exact dp_skip (wanted_no rfl (yv_of rfl (e87.trans (congrArg B hb78)))) rfl hJ)) ?_
                  refine all_cons (obs_v rfl (by
                      intro k; intro _nm ρ σm hJ hoff hdep
                      have e87 : look 125 ρ 87 = (B (!r51.2.2)) := hdep 2 rfl rfl 87 rfl
                      exact dp_skip (wanted_no rfl (yv_of rfl (e87.trans (congrArg B hb78)))) rfl hJ)) ?_
                  refine all_cons (obs_v rfl (by
                      intro k; intro _nm ρ σm hJ hoff hdep
                      have e87 : look 125 ρ 87 = (B (!r51.2.2)) := hdep 2 rfl rfl 87 rfl
                      exact dp_v (v := (B true)) (wanted_none _ rfl _) (rv_pick_t (e87.trans (congrArg B hb78)) rfl) rfl hJ)) ?_
                  refine all_cons (obs_v rfl (by
                      intro k; intro _nm ρ σm hJ hoff hdep
                      have e90 : look 125 ρ 90 = (B true) := hdep 5 rfl rfl 90 rfl
                      exact dp_v (v := (B true)) (wanted_none _ rfl _) (rv_move e90) rfl hJ)) ?_
                  refine all_cons (obs_v rfl (by
                      intro k; intro _nm ρ σm hJ hoff hdep
                      have e91 : look 125 ρ 91 = (B true) := hdep 6 rfl rfl 91 rfl
                      exact dp_skip (wanted_no rfl (yv_of rfl e91)) rfl hJ)) ?_
                  refine all_cons (obs_v rfl (by
                      intro k; intro _nm ρ σm hJ hoff hdep
                      have e91 : look 125 ρ 91 = (B true) := hdep 6 rfl rfl 91 rfl
                      exact dp_skip (wanted_no rfl (yv_of rfl e91)) rfl hJ)) ?_
                  refine all_cons (obs_v rfl (by
                      intro k; intro _nm ρ σm hJ hoff hdep
                      have e91 : look 125 ρ 91 = (B true) := hdep 6 rfl rfl 91 rfl
                      exact dp_skip (wanted_no rfl (yv_of rfl e91)) rfl hJ)) ?_
                  refine all_cons (obs_v rfl (by
                      intro k; intro _nm ρ σm hJ hoff hdep
                      have e91 : look 125 ρ 91 = (B true) := hdep 6 rfl rfl 91 rfl
                      exact dp_skip (wanted_no rfl (yv_of rfl e91)) rfl hJ)) ?_
                  refine all_cons (obs_v rfl (by
                      intro k; intro _nm ρ σm hJ hoff hdep
                      have e91 : look 125 ρ 91 = (B true) := hdep 6 rfl rfl 91 rfl
                      exact dp_skip (wanted_no rfl (yv_of rfl e91)) rfl hJ)) ?_
                  refine all_cons (obs_v rfl (by
                      intro k; intro _nm ρ σm hJ hoff hdep
                      have e91 : look 125 ρ 91 = (B true) := hdep 6 rfl rfl 91 rfl
                      exact dp_skip (wanted_no rfl (yv_of rfl e91)) rfl hJ)) ?_
                  refine all_cons (obs_v rfl (by
                      intro k; intro _nm ρ σm hJ hoff hdep
                      have e91 : look 125 ρ 91 = (B true) := hdep 6 rfl rfl 91 rfl
                      exact dp_skip (wanted_no rfl (yv_of rfl e91)) rfl hJ)) ?_
                  refine all_cons (obs_v rfl (by
                      intro k; intro _nm ρ σm hJ hoff hdep
                      have e91 : look 125 ρ 91 = (B true) := hdep 6 rfl rfl 91 rfl
                      exact dp_skip (wanted_no rfl (yv_of rfl e91)) rfl hJ)) ?_
                  refine all_cons (obs_v rfl (by
                      intro k; intro _nm ρ σm hJ hoff hdep
                      have e91 : look 125 ρ 91 = (B true) := hdep 6 rfl rfl 91 rfl
                      exact dp_skip (wanted_no rfl (yv_of rfl e91)) rfl hJ)) ?_
                  refine all_cons (obs_v rfl (by
                      intro k; intro _nm ρ σm hJ hoff hdep
                      have e91 : look 125 ρ 91 = (B true) := hdep 6 rfl rfl 91 rfl
                      exact dp_skip (wanted_no rfl (yv_of rfl e91)) rfl hJ)) ?_
                  refine all_cons (obs_v rfl (by
                      intro k; intro _nm ρ σm hJ hoff hdep
                      have e91 : look 125 ρ 91 = (B true) := hdep 6 rfl rfl 91 rfl
                      exact dp_skip (wanted_no rfl (yv_of rfl e91)) rfl hJ)) ?_
                  refine all_cons (obs_v rfl (by
                      intro k; intro _nm ρ σm hJ hoff hdep
                      have e91 : look 125 ρ 91 = (B true) := hdep 6 rfl rfl 91 rfl
                      exact dp_skip (wanted_no rfl (yv_of rfl e91)) rfl hJ)) ?_
                  refine all_cons (obs_v rfl (by
                      intro k; intro _nm ρ σm hJ hoff hdep
                      have e91 : look 125 ρ 91 = (B true) := hdep 6 rfl rfl 91 rfl
                      exact dp_skip (wanted_no rfl (yv_of rfl e91)) rfl hJ)) ?_
                  refine all_cons (obs_v rfl (by
                      intro k; intro _nm ρ σm hJ hoff hdep
                      have e91 : look 125 ρ 91 = (B true) := hdep 6 rfl rfl 91 rfl
                      exact dp_skip (wanted_no rfl (yv_of rfl e91)) rfl hJ)) ?_
                  refine all_cons (obs_v rfl (by
                      intro k; intro _nm ρ σm hJ hoff hdep
                      have e91 : look 125 ρ 91 = (B true) := hdep 6 rfl rfl 91 rfl
                      exact dp_skip (wanted_no rfl (yv_of rfl e91)) rfl hJ)) ?_
                  refine all_cons (obs_v rfl (by
                      intro k; intro _nm ρ σm hJ hoff hdep
                      have e91 : look 125 ρ 91 = (B true) := hdep 6 rfl rfl 91 rfl
                      exact dp_v (v := (B true)) (wanted_none _ rfl _) (rv_pick_t e91 rfl) rfl hJ)) ?_
                  refine all_cons (obs_v rfl (by
                      intro k; intro _nm ρ σm hJ hoff hdep
                      have e107 : look 125 ρ 107 = (B true) := hdep 22 rfl rfl 107 rfl
                      exact dp_v (v := (B true)) (wanted_none _ rfl _) (rv_move e107) rfl hJ)) ?_
                  refine all_cons (obs_v rfl (by
                      intro k; intro _nm ρ σm hJ hoff hdep
                      have e108 : look 125 ρ 108 = (B true) := hdep 23 rfl rfl 108 rfl
                      exact dp_skip (wanted_no rfl (yv_of rfl e108)) rfl hJ)) ?_
                  refine all_cons (obs_v rfl (by
                      intro k; intro _nm ρ σm hJ hoff hdep
                      have e108 : look 125 ρ 108 = (B true) := hdep 23 rfl rfl 108 rfl
                      exact dp_skip (wanted_no rfl (yv_of rfl e108)) rfl hJ)) ?_
                  refine all_cons (obs_v rfl (by
                      intro k; intro _nm ρ σm hJ hoff hdep
                      have e108 : look 125 ρ 108 = (B true) := hdep 23 rfl rfl 108 rfl
                      exact dp_skip (wanted_no rfl (yv_of rfl e108)) rfl hJ)) ?_
                  refine all_cons (obs_v rfl (by
                      intro k; intro _nm ρ σm hJ hoff hdep
                      have e108 : look 125 ρ 108 = (B true) := hdep 23 rfl rfl 108 rfl
                      exact dp_skip (wanted_no rfl (yv_of rfl e108)) rfl hJ)) ?_
                  refine all_cons (obs_v rfl (by
                      intro k; intro _nm ρ σm hJ hoff hdep
                      have e108 : look 125 ρ 108 = (B true) := hdep 23 rfl rfl 108 rfl
                      exact dp_skip (wanted_no rfl (yv_of rfl e108)) rfl hJ)) ?_
                  refine all_cons (obs_v rfl (by
                      intro k; intro _nm ρ σm hJ hoff hdep
                      have e108 : look 125 ρ 108 = (B true) := hdep 23 rfl rfl 108 rfl
                      exact dp_skip (wanted_no rfl (yv_of rfl e108)) rfl hJ)) ?_
                  refine all_cons (obs_v rfl (by
                      intro k; intro _nm ρ σm hJ hoff hdep
                      have e108 : look 125 ρ 108 = (B true) := hdep 23 rfl rfl 108 rfl
                      exact dp_skip (wanted_no rfl (yv_of rfl e108)) rfl hJ)) ?_
                  refine all_cons (obs_v rfl (by
                      intro k; intro _nm ρ σm hJ hoff hdep
                      have e108 : look 125 ρ 108 = (B true) := hdep 23 rfl rfl 108 rfl
                      exact dp_skip (wanted_no rfl (yv_of rfl e108)) rfl hJ)) ?_
                  refine all_cons (obs_v rfl (by
                      intro k; intro _nm ρ σm hJ hoff hdep
                      have e108 : look 125 ρ 108 = (B true) := hdep 23 rfl rfl 108 rfl
                      exact dp_skip (wanted_no rfl (yv_of rfl e108)) rfl hJ)) ?_
                  refine all_cons (obs_v rfl (by
                      intro k; intro _nm ρ σm hJ hoff hdep
                      have e108 : look 125 ρ 108 = (B true) := hdep 23 rfl rfl 108 rfl
                      exact dp_skip (wanted_no rfl (yv_of rfl e108)) rfl hJ)) ?_
                  refine all_cons (obs_v rfl (by
                      intro k; intro _nm ρ σm hJ hoff hdep
                      have e108 : look 125 ρ 108 = (B true) := hdep 23 rfl rfl 108 rfl
                      exact dp_skip (wanted_no rfl (yv_of rfl e108)) rfl hJ)) ?_
                  refine all_cons (obs_v rfl (by
                      intro k; intro _nm ρ σm hJ hoff hdep
                      have e108 : look 125 ρ 108 = (B true) := hdep 23 rfl rfl 108 rfl
                      exact dp_skip (wanted_no rfl (yv_of rfl e108)) rfl hJ)) ?_
                  refine all_cons (obs_v rfl (by
                      intro k; intro _nm ρ σm hJ hoff hdep
                      have e108 : look 125 ρ 108 = (B true) := hdep 23 rfl rfl 108 rfl
                      exact dp_skip (wanted_no rfl (yv_of rfl e108)) rfl hJ)) ?_
                  refine all_cons (obs_v rfl (by
                      intro k; intro _nm ρ σm hJ hoff hdep
                      have e108 : look 125 ρ 108 = (B true) := hdep 23 rfl rfl 108 rfl
                      exact dp_skip (wanted_no rfl (yv_of rfl e108)) rfl hJ)) ?_
                  exact all_nil
                · intro _nm ρ σ79 hJ hoff hrel
                  have e4 : look 125 ρ 4 = (pt b10 0) := look_off (hoff 4 rfl) rfl
                  have e9 : look 125 ρ 9 = (Sl a54 r51.1 c55) := look_off (hoff 9 rfl) rfl
                  have e10 : look 125 ρ 10 = (Sl a57 r51.2.1 c58) := look_off (hoff 10 rfl) rfl
                  have e11 : look 125 ρ 11 = (B r51.2.2) := look_off (hoff 11 rfl) rfl
                  have e12 : look 125 ρ 12 = (Sl a66 r63.1 c67) := look_off (hoff 12 rfl) rfl
                  have e13 : look 125 ρ 13 = (Sl a69 r63.2.1 c70) := look_off (hoff 13 rfl) rfl
                  have e14 : look 125 ρ 14 = (B r63.2.2) := look_off (hoff 14 rfl) rfl
                  have e15 : look 125 ρ 15 = (I s74) := look_off (hoff 15 rfl) rfl
                  have e108 : look 125 ρ 108 = (B true) := hrel 23 rfl 108 rfl
                  have e112 : look 125 ρ 112 = undef := hrel 27 rfl 112 rfl
                  have e122 : look 125 ρ 122 = undef := hrel 37 rfl 122 rfl
                  obtain ⟨H, -⟩ := (show Hp S0 σ0 σ79 [Ch.ro n0 (Sl a7 r2.2.2.1 c8) r2.2.2.1, Ch.bx n0 b10 0 [(I r2.2.1), (Sl a7 r2.2.2.1 c8), (I r2.2.2.2)] [] [], Ch.own n0 n0 (Sl a54 r51.1 c55) r51.1, Ch.own n0 n0 (Sl a57 r51.2.1 c58) r51.2.1, Ch.own n0 n0 (Sl a66 r63.1 c67) r63.1, Ch.own n0 n0 (Sl a69 r63.2.1 c70) r63.2.1] ∧ Md (cov []) σ75 σ79 from hJ)
                  clear hJ Hs
                  rw [fr_lookL (L := [(4, (pt b10 0)), (9, (Sl a54 r51.1 c55)), (10, (Sl a57 r51.2.1 c58)), (11, (B r51.2.2)), (12, (Sl a66 r63.1 c67)), (13, (Sl a69 r63.2.1 c70)), (14, (B r63.2.2)), (15, (I s74)), (108, (B true)), (112, undef), (122, undef)]) ⟨e4, e9, e10, e11, e12, e13, e14, e15, e108, e112, e122, trivial⟩]
                  clear hoff hrel e4 e9 e10 e11 e12 e13 e14 e15 e108 e112 e122
                  refine st_skip rfl ?_
                  refine st (v := (B true)) (rv_pick_t rfl rfl) ?_
                  refine w_end ?_
                  obtain rfl := Option.some.inj h
                  exact ⟨rfl, _, σ79, fr_join ⟨rfl, rfl, rfl, rfl, rfl, rfl, rfl, rfl, rfl, trivial⟩, rfl, H.sel' [0, 1, 2, 3, 4, 5] rfl rfl⟩
              · replace h := bif_f hb78 h
                rcases Bool.eq_false_or_eq_true (!r63.2.2) with hb80 | hb80
                · replace h := bif_t hb80 h
                  have Hs := H
                  refine rg2 (σ := σ75) (Nm := Unit) 38 [] [[]] [[(0, 0)], [(0, 0)], [(0, 0)], [(0, 0)], [(0, 0)], [(0, 0)], [(0, 0)], [(0, 0)], [(0, 0)], [(0, 0)], [(0, 0)], [(0, 0)], [(0, 0)], [(0, 0)], [(0, 0)], [(0, 0)], [(0, 0)], [(0, 0)], [(0, 0)], [(0, 0)], [(0, 0)], [(0, 0)], [(0, 0)], [(0, 0)], [(0, 0)], [(0, 0)], [(0, 0)], [(0, 0)], [(0, 0)], [(0, 0)], [(0, 0)], [(0, 0)], [(0, 0)], [(0, 0)], [(0, 0)], [(0, 0)], [(0, 0)], [(0, 0)]] 0 [fun (_nm : Unit) => fun σm => Hp S0 σ0 σm [Ch.ro n0 (Sl a7 r2.2.2.1 c8) r2.2.2.1, Ch.bx n0 b10 0 [(I r2.2.1), (Sl a7 r2.2.2.1 c8), (I r2.2.2.2)] [] [], Ch.own n0 n0 (Sl a54 r51.1 c55) r51.1, Ch.own n0 n0 (Sl a57 r51.2.1 c58) r51.2.1, Ch.own n0 n0 (Sl a66 r63.1 c67) r63.1, Ch.own n0 n0 (Sl a69 r63.2.1 c70) r63.2.1] ∧ Md (cov []) σ75 σm] [fun (_nm : Unit) => (B r51.2.2), fun (_nm : Unit) => (B (!r51.2.2)), fun (_nm : Unit) => (B (!r51.2.2)), fun (_nm : Unit) => (B r63.2.2), fun (_nm : Unit) => (B (!r63.2.2)), fun (_nm : Unit) => (B (!r63.2.2)), fun (_nm : Unit) => (B (!r63.2.2)), fun (_nm : Unit) => undef, fun (_nm : Unit) => undef, fun (_nm : Unit) => undef, fun (_nm : Unit) => undef, fun (_nm : Unit) => undef, fun (_nm : Unit) => undef, fun (_nm : Unit) => undef, fun (_nm : Unit) => undef, fun (_nm : Unit) => undef, fun (_nm : Unit) => undef, fun (_nm : Unit) => undef, fun (_nm : Unit) => undef, fun (_nm : Unit) => undef, fun (_nm : Unit) => undef, fun (_nm : Unit) => undef, fun (_nm : Unit) => (B true), fun (_nm : Unit) => (B true), fun (_nm : Unit) => undef, fun (_nm : Unit) => undef, fun (_nm : Unit) => undef, fun (_nm : Unit) => undef, fun (_nm : Unit) => undef, fun (_nm : Unit) => undef, fun (_nm : Unit) => undef, fun (_nm : Unit) => undef, fun (_nm : Unit) => undef, fun (_nm : Unit) => undef, fun (_nm : Unit) => undef, fun (_nm : Unit) => undef, fun (_nm : Unit) => undef, fun (_nm : Unit) => undef] () (by kernel_rfl) (by kernel_rfl) ?_ ?_ ?_
                  · intro σm m0
                    exact ⟨H.grow (m0.mono fun _ h => h.elim), m0⟩
                  · refine all_cons (obs_v rfl (by
                        intro k; intro _nm ρ σm hJ hoff hdep
                        have e11 : look 125 ρ 11 = (B r51.2.2) := look_off (hoff 11 rfl) rfl
                        exact dp_v (v := (B r51.2.2)) (wanted_none _ rfl _) (rv_move e11) rfl hJ)) ?_
                    refine all_cons (obs_v rfl (by
                        intro k; intro _nm ρ σm hJ hoff hdep
                        have e85 : look 125 ρ 85 = (B r51.2.2) := hdep 0 rfl rfl 85 rfl
                        exact dp_v (v := (B (!r51.2.2))) (wanted_none _ rfl _) (rv_not e85) rfl hJ)) ?_
                    refine all_cons (obs_v rfl (by
                        intro k; intro _nm ρ σm hJ hoff hdep
                        have e86 : look 125 ρ 86 = (B (!r51.2.2)) := hdep 1 rfl rfl 86 rfl
                        exact dp_v (v := (B (!r51.2.2))) (wanted_none _ rfl _) (rv_move e86) rfl hJ)) ?_
                    refine all_cons (obs_v rfl (by
                        intro k; intro _nm ρ σm hJ hoff hdep
                        have e14 : look 125 ρ 14 = (B r63.2.2) := look_off (hoff 14 rfl) rfl
                        have e87 : look 125 ρ 87 = (B (!r51.2.2)) := hdep 2 rfl rfl 87 rfl
                        exact dp_v (v := (B r63.2.2)) (wanted_yes rfl (yv_of rfl (e87.trans (congrArg B hb78)))) (rv_move e14) rfl hJ)) ?_
                    refine all_cons (obs_v rfl (by
                        intro k; intro _nm ρ σm hJ hoff hdep
                        have e88 : look 125 ρ 88 = (B r63.2.2) := hdep 3 rfl rfl 88 rfl
                        have e87 : look 125 ρ 87 = (B (!r51.2.2)) := hdep 2 rfl rfl 87 rfl
                        exact dp_v (v := (B (!r63.2.2))) (wanted_yes rfl (yv_of rfl (e87.trans (congrArg B hb78)))) (rv_not e88) rfl hJ)) ?_
                    refine all_cons (obs_v rfl (by
                        intro k; intro _nm ρ σm hJ hoff hdep
                        have e87 : look 125 ρ 87 = (B (!r51.2.2)) := hdep 2 rfl rfl 87 rfl
                        have e89 : look 125 ρ 89 = (B (!r63.2.2)) := hdep 4 rfl rfl 89 rfl
                        exact dp_v (v := (B (!r63.2.2))) (wanted_none _ rfl _) (rv_pick_f (e87.trans (congrArg B hb78)) e89) rfl hJ)) ?_
                    refine all_cons (obs_v rfl (by
                        intro k; intro _nm ρ σm hJ hoff hdep
                        have e90 : look 125 ρ 90 = (B (!r63.2.2)) := hdep 5 rfl rfl 90 rfl
                        exact dp_v (v := (B (!r63.2.2))) (wanted_none _ rfl _) (rv_move e90) rfl hJ)) ?_
                    refine all_cons (obs_v rfl (by
                        intro k; intro _nm ρ σm hJ hoff hdep
                        have e91 : look 125 ρ 91 = (B (!r63.2.2)) := hdep 6 rfl rfl 91 rfl
                        exact dp_skip (wanted_no rfl (yv_of rfl (e91.trans (congrArg B hb80)))) rfl hJ)) ?_
                    refine all_cons (obs_v rfl (by
                        intro k; intro _nm ρ σm hJ hoff hdep
                        have e91 : look 125 ρ 91 = (B (!r63.2.2)) := hdep 6 rfl rfl 91 rfl
                        exact dp_skip (wanted_no rfl (yv_of rfl (e91.trans (congrArg B hb80)))) rfl hJ)) ?_
                    refine all_cons (obs_v rfl (by
                        intro k; intro _nm ρ σm hJ hoff hdep
                        have e91 : look 125 ρ 91 = (B (!r63.2.2)) := hdep 6 rfl rfl 91 rfl
                        exact dp_skip (wanted_no rfl (yv_of rfl (e91.trans (congrArg B hb80)))) rfl hJ)) ?_
                    refine all_cons (obs_v rfl (by
                        intro k; intro _nm ρ σm hJ hoff hdep
                        have e91 : look 125 ρ 91 = (B (!r63.2.2)) := hdep 6 rfl rfl 91 rfl
                        exact dp_skip (wanted_no rfl (yv_of rfl (e91.trans (congrArg B hb80)))) rfl hJ)) ?_
                    refine all_cons (obs_v rfl (by
                        intro k; intro _nm ρ σm hJ hoff hdep
                        have e91 : look 125 ρ 91 = (B (!r63.2.2)) := hdep 6 rfl rfl 91 rfl
                        exact dp_skip (wanted_no rfl (yv_of rfl (e91.trans (congrArg B hb80)))) rfl hJ)) ?_
                    refine all_cons (obs_v rfl (by
                        intro k; intro _nm ρ σm hJ hoff hdep
                        have e91 : look 125 ρ 91 = (B (!r63.2.2)) := hdep 6 rfl rfl 91 rfl
                        exact dp_skip (wanted_no rfl (yv_of rfl (e91.trans (congrArg B hb80)))) rfl hJ)) ?_
                    refine all_cons (obs_v rfl (by
                        intro k; intro _nm ρ σm hJ hoff hdep
                        have e91 : look 125 ρ 91 = (B (!r63.2.2)) := hdep 6 rfl rfl 91 rfl
                        exact dp_skip (wanted_no rfl (yv_of rfl (e91.trans (congrArg B hb80)))) rfl hJ)) ?_
                    refine all_cons (obs_v rfl (by
                        intro k; intro _nm ρ σm hJ hoff hdep
                        have e91 : look 125 ρ 91 = (B (!r63.2.2)) := hdep 6 rfl rfl 91 rfl
                        exact dp_skip (wanted_no rfl (yv_of rfl (e91.trans (congrArg B hb80)))) rfl hJ)) ?_
                    refine all_cons (obs_v rfl (by
                        intro k; intro _nm ρ σm hJ hoff hdep
                        have e91 : look 125 ρ 91 = (B (!r63.2.2)) := hdep 6 rfl rfl 91 rfl
                        exact dp_skip (wanted_no rfl (yv_of rfl (e91.trans (congrArg B hb80)))) rfl hJ)) ?_
                    refine all_cons (obs_v rfl (by
                        intro k; intro _nm ρ σm hJ hoff hdep
                        have e91 : look 125 ρ 91 = (B (!r63.2.2)) := hdep 6 rfl rfl 91 rfl
                        exact dp_skip (wanted_no rfl (yv_of rfl (e91.trans (congrArg B hb80)))) rfl hJ)) ?_
                    refine all_cons (obs_v rfl (by
                        intro k; intro _nm ρ σm hJ hoff hdep
                        have e91 : look 125 ρ 91 = (B (!r63.2.2)) := hdep 6 rfl rfl 91 rfl
                        exact dp_skip (wanted_no rfl (yv_of rfl (e91.trans (congrArg B hb80)))) rfl hJ)) ?_
                    refine all_cons (obs_v rfl (by
                        intro k; intro _nm ρ σm hJ hoff hdep
                        have e91 : look 125 ρ 91 = (B (!r63.2.2)) := hdep 6 rfl rfl 91 rfl
                        exact dp_skip (wanted_no rfl (yv_of rfl (e91.trans (congrArg B hb80)))) rfl hJ)) ?_
                    refine all_cons (obs_v rfl (by
                        intro k; intro _nm ρ σm hJ hoff hdep
                        have e91 : look 125 ρ 91 = (B (!r63.2.2)) := hdep 6 rfl rfl 91 rfl
                        exact dp_skip (wanted_no rfl (yv_of rfl (e91.trans (congrArg B hb80)))) rfl hJ)) ?_
                    refine all_cons (obs_v rfl (by
                        intro k; intro _nm ρ σm hJ hoff hdep
                        have e91 : look 125 ρ 91 = (B (!r63.2.2)) := hdep 6 rfl rfl 91 rfl
                        exact dp_skip (wanted_no rfl (yv_of rfl (e91.trans (congrArg B hb80)))) rfl hJ)) ?_
                    refine all_cons (obs_v rfl (by
                        intro k; intro _nm ρ σm hJ hoff hdep
                        have e91 : look 125 ρ 91 = (B (!r63.2.2)) := hdep 6 rfl rfl 91 rfl
                        exact dp_skip (wanted_no rfl (yv_of rfl (e91.trans (congrArg B hb80)))) rfl hJ)) ?_
                    refine all_cons (obs_v rfl (by
                        intro k; intro _nm ρ σm hJ hoff hdep
                        have e91 : look 125 ρ 91 = (B (!r63.2.2)) := hdep 6 rfl rfl 91 rfl
                        exact dp_v (v := (B true)) (wanted_none _ rfl _) (rv_pick_t (e91.trans (congrArg B hb80)) rfl) rfl hJ)) ?_
                    refine all_cons (obs_v rfl (by
                        intro k; intro _nm ρ σm hJ hoff hdep
                        have e107 : look 125 ρ 107 = (B true) := hdep 22 rfl rfl 107 rfl
                        exact dp_v (v := (B true)) (wanted_none _ rfl _) (rv_move e107) rfl hJ)) ?_
                    refine all_cons (obs_v rfl (by
                        intro k; intro _nm ρ σm hJ hoff hdep
                        have e108 : look 125 ρ 108 = (B true) := hdep 23 rfl rfl 108 rfl
                        exact dp_skip (wanted_no rfl (yv_of rfl e108)) rfl hJ)) ?_
                    refine all_cons (obs_v rfl (by
                        intro k; intro _nm ρ σm hJ hoff hdep
                        have e108 : look 125 ρ 108 = (B true) := hdep 23 rfl rfl 108 rfl
                        exact dp_skip (wanted_no rfl (yv_of rfl e108)) rfl hJ)) ?_
                    refine all_cons (obs_v rfl (by
                        intro k; intro _nm ρ σm hJ hoff hdep
                        have e108 : look 125 ρ 108 = (B true) := hdep 23 rfl rfl 108 rfl
                        exact dp_skip (wanted_no rfl (yv_of rfl e108)) rfl hJ)) ?_
                    refine all_cons (obs_v rfl (by
                        intro k; intro _nm ρ σm hJ hoff hdep
                        have e108 : look 125 ρ 108 = (B true) := hdep 23 rfl rfl 108 rfl
                        exact dp_skip (wanted_no rfl (yv_of rfl e108)) rfl hJ)) ?_
                    refine all_cons (obs_v rfl (by
                        intro k; intro _nm ρ σm hJ hoff hdep
                        have e108 : look 125 ρ 108 = (B true) := hdep 23 rfl rfl 108 rfl
                        exact dp_skip (wanted_no rfl (yv_of rfl e108)) rfl hJ)) ?_
                    refine all_cons (obs_v rfl (by
                        intro k; intro _nm ρ σm hJ hoff hdep
                        have e108 : look 125 ρ 108 = (B true) := hdep 23 rfl rfl 108 rfl
                        exact dp_skip (wanted_no rfl (yv_of rfl e108)) rfl hJ)) ?_
                    refine all_cons (obs_v rfl (by
                        intro k; intro _nm ρ σm hJ hoff hdep
                        have e108 : look 125 ρ 108 = (B true) := hdep 23 rfl rfl 108 rfl
                        exact dp_skip (wanted_no rfl (yv_of rfl e108)) rfl hJ)) ?_
                    refine all_cons (obs_v rfl (by
                        intro k; intro _nm ρ σm hJ hoff hdep
                        have e108 : look 125 ρ 108 = (B true) := hdep 23 rfl rfl 108 rfl
                        exact dp_skip (wanted_no rfl (yv_of rfl e108)) rfl hJ)) ?_
                    refine all_cons (obs_v rfl (by
                        intro k; intro _nm ρ σm hJ hoff hdep
                        have e108 : look 125 ρ 108 = (B true) := hdep 23 rfl rfl 108 rfl
                        exact dp_skip (wanted_no rfl (yv_of rfl e108)) rfl hJ)) ?_
                    refine all_cons (obs_v rfl (by
                        intro k; intro _nm ρ σm hJ hoff hdep
                        have e108 : look 125 ρ 108 = (B true) := hdep 23 rfl rfl 108 rfl
                        exact dp_skip (wanted_no rfl (yv_of rfl e108)) rfl hJ)) ?_
                    refine all_cons (obs_v rfl (by
                        intro k; intro _nm ρ σm hJ hoff hdep
                        have e108 : look 125 ρ 108 = (B true) := hdep 23 rfl rfl 108 rfl
                        exact dp_skip (wanted_no rfl (yv_of rfl e108)) rfl hJ)) ?_
                    refine all_cons (obs_v rfl (by
                        intro k; intro _nm ρ σm hJ hoff hdep
                        have e108 : look 125 ρ 108 = (B true) := hdep 23 rfl rfl 108 rfl
                        exact dp_skip (wanted_no rfl (yv_of rfl e108)) rfl hJ)) ?_
                    refine all_cons (obs_v rfl (by
                        intro k; intro _nm ρ σm hJ hoff hdep
                        have e108 : look 125 ρ 108 = (B true) := hdep 23 rfl rfl 108 rfl
                        exact dp_skip (wanted_no rfl (yv_of rfl e108)) rfl hJ)) ?_
                    refine all_cons (obs_v rfl (by
                        intro k; intro _nm ρ σm hJ hoff hdep
                        have e108 : look 125 ρ 108 = (B true) := hdep 23 rfl rfl 108 rfl
                        exact dp_skip (wanted_no rfl (yv_of rfl e108)) rfl hJ)) ?_
                    exact all_nil
                  · intro _nm ρ σ81 hJ hoff hrel
                    have e4 : look 125 ρ 4 = (pt b10 0) := look_off (hoff 4 rfl) rfl
                    have e9 : look 125 ρ 9 = (Sl a54 r51.1 c55) := look_off (hoff 9 rfl) rfl
                    have e10 : look 125 ρ 10 = (Sl a57 r51.2.1 c58) := look_off (hoff 10 rfl) rfl
                    have e11 : look 125 ρ 11 = (B r51.2.2) := look_off (hoff 11 rfl) rfl
                    have e12 : look 125 ρ 12 = (Sl a66 r63.1 c67) := look_off (hoff 12 rfl) rfl
                    have e13 : look 125 ρ 13 = (Sl a69 r63.2.1 c70) := look_off (hoff 13 rfl) rfl
                    have e14 : look 125 ρ 14 = (B r63.2.2) := look_off (hoff 14 rfl) rfl
                    have e15 : look 125 ρ 15 = (I s74) := look_off (hoff 15 rfl) rfl
                    have e108 : look 125 ρ 108 = (B true) := hrel 23 rfl 108 rfl
                    have e112 : look 125 ρ 112 = undef := hrel 27 rfl 112 rfl
                    have e122 : look 125 ρ 122 = undef := hrel 37 rfl 122 rfl
                    obtain ⟨H, -⟩ := (show Hp S0 σ0 σ81 [Ch.ro n0 (Sl a7 r2.2.2.1 c8) r2.2.2.1, Ch.bx n0 b10 0 [(I r2.2.1), (Sl a7 r2.2.2.1 c8), (I r2.2.2.2)] [] [], Ch.own n0 n0 (Sl a54 r51.1 c55) r51.1, Ch.own n0 n0 (Sl a57 r51.2.1 c58) r51.2.1, Ch.own n0 n0 (Sl a66 r63.1 c67) r63.1, Ch.own n0 n0 (Sl a69 r63.2.1 c70) r63.2.1] ∧ Md (cov []) σ75 σ81 from hJ)
                    clear hJ Hs
                    rw [fr_lookL (L := [(4, (pt b10 0)), (9, (Sl a54 r51.1 c55)), (10, (Sl a57 r51.2.1 c58)), (11, (B r51.2.2)), (12, (Sl a66 r63.1 c67)), (13, (Sl a69 r63.2.1 c70)), (14, (B r63.2.2)), (15, (I s74)), (108, (B true)), (112, undef), (122, undef)]) ⟨e4, e9, e10, e11, e12, e13, e14, e15, e108, e112, e122, trivial⟩]
                    clear hoff hrel e4 e9 e10 e11 e12 e13 e14 e15 e108 e112 e122
                    refine st_skip rfl ?_
                    refine st (v := (B true)) (rv_pick_t rfl rfl) ?_
                    refine w_end ?_
                    obtain rfl := Option.some.inj h
                    exact ⟨rfl, _, σ81, fr_join ⟨rfl, rfl, rfl, rfl, rfl, rfl, rfl, rfl, rfl, trivial⟩, rfl, H.sel' [0, 1, 2, 3, 4, 5] rfl rfl⟩
                · replace h := bif_f hb80 h
                  obtain ⟨x82, hx83, h'⟩ := bind_some h
                  clear h
                  have h := h'; clear h'
                  obtain ⟨b85, o86, hi84, -⟩ := (H.own 4 rfl).ix hx83
                  have hc87 := ((H.own 4 rfl).at hx83 hi84).int
                  obtain ⟨x88, hx89, h'⟩ := bind_some h
                  clear h
                  have h := h'; clear h'
                  obtain ⟨b91, o92, hi90, -⟩ := (H.own 2 rfl).ix hx89
                  have hc93 := ((H.own 2 rfl).at hx89 hi90).int
                  have hc94 := H.cell (u := (Sl a7 r2.2.2.1 c8)) (o' := 1) 1 1 rfl rfl rfl
                  obtain ⟨x95, hx96, h'⟩ := bind_some h
                  clear h
                  have h := h'; clear h'
                  obtain ⟨b98, o99, hi97, -⟩ := (H.ro 0 rfl).ix hx96
                  have hc100 := ((H.ro 0 rfl).at hx96 hi97).int
                  rcases Bool.eq_false_or_eq_true (x82 != (min x88 x95)) with hb101 | hb101
                  · replace h := bif_t hb101 h
                    have Hs := H
                    refine rg2 (σ := σ75) (Nm := Unit) 38 [] [[]] [[(0, 0)], [(0, 0)], [(0, 0)], [(0, 0)], [(0, 0)], [(0, 0)], [(0, 0)], [(0, 0)], [(0, 0)], [(0, 0)], [(0, 0)], [(0, 0)], [(0, 0)], [(0, 0)], [(0, 0)], [(0, 0)], [(0, 0)], [(0, 0)], [(0, 0)], [(0, 0)], [(0, 0)], [(0, 0)], [(0, 0)], [(0, 0)], [(0, 0)], [(0, 0)], [(0, 0)], [(0, 0)], [(0, 0)], [(0, 0)], [(0, 0)], [(0, 0)], [(0, 0)], [(0, 0)], [(0, 0)], [(0, 0)], [(0, 0)], [(0, 0)]] 0 [fun (_nm : Unit) => fun σm => Hp S0 σ0 σm [Ch.ro n0 (Sl a7 r2.2.2.1 c8) r2.2.2.1, Ch.bx n0 b10 0 [(I r2.2.1), (Sl a7 r2.2.2.1 c8), (I r2.2.2.2)] [] [], Ch.own n0 n0 (Sl a54 r51.1 c55) r51.1, Ch.own n0 n0 (Sl a57 r51.2.1 c58) r51.2.1, Ch.own n0 n0 (Sl a66 r63.1 c67) r63.1, Ch.own n0 n0 (Sl a69 r63.2.1 c70) r63.2.1] ∧ Md (cov []) σ75 σm] [fun (_nm : Unit) => (B r51.2.2), fun (_nm : Unit) => (B (!r51.2.2)), fun (_nm : Unit) => (B (!r51.2.2)), fun (_nm : Unit) => (B r63.2.2), fun (_nm : Unit) => (B (!r63.2.2)), fun (_nm : Unit) => (B (!r63.2.2)), fun (_nm : Unit) => (B (!r63.2.2)), fun (_nm : Unit) => (Sl a66 r63.1 c67), fun (_nm : Unit) => (I s74), fun (_nm : Unit) => (pt b85 o86), fun (_nm : Unit) => (I x82), fun (_nm : Unit) => (Sl a54 r51.1 c55), fun (_nm : Unit) => (I s74), fun (_nm : Unit) => (pt b91 o92), fun (_nm : Unit) => (I x88), fun (_nm : Unit) => (pt b10 1), fun (_nm : Unit) => (Sl a7 r2.2.2.1 c8), fun (_nm : Unit) => (I s74), fun (_nm : Unit) => (pt b98 o99), fun (_nm : Unit) => (I x95), fun (_nm : Unit) => (I (min x88 x95)), fun (_nm : Unit) => (B (x82 != (min x88 x95))), fun (_nm : Unit) => (B (x82 != (min x88 x95))), fun (_nm : Unit) => (B (x82 != (min x88 x95))), fun (_nm : Unit) => undef, fun (_nm : Unit) => undef, fun (_nm : Unit) => undef, fun (_nm : Unit) => undef, fun (_nm : Unit) => undef, fun (_nm : Unit) => undef, fun (_nm : Unit) => undef, fun (_nm : Unit) => undef, fun (_nm : Unit) => undef, fun (_nm : Unit) => undef, fun (_nm : Unit) => undef, fun (_nm : Unit) => undef, fun (_nm : Unit) => undef, fun (_nm : Unit) => undef] () (by kernel_rfl) (by kernel_rfl) ?_ ?_ ?_
                    · intro σm m0
                      exact ⟨H.grow (m0.mono fun _ h => h.elim), m0⟩
                    · refine all_cons (obs_v rfl (by
                          intro k; intro _nm ρ σm hJ hoff hdep
                          have e11 : look 125 ρ 11 = (B r51.2.2) := look_off (hoff 11 rfl) rfl
                          exact dp_v (v := (B r51.2.2)) (wanted_none _ rfl _) (rv_move e11) rfl hJ)) ?_
                      refine all_cons (obs_v rfl (by
                          intro k; intro _nm ρ σm hJ hoff hdep
                          have e85 : look 125 ρ 85 = (B r51.2.2) := hdep 0 rfl rfl 85 rfl
                          exact dp_v (v := (B (!r51.2.2))) (wanted_none _ rfl _) (rv_not e85) rfl hJ)) ?_
                      refine all_cons (obs_v rfl (by
                          intro k; intro _nm ρ σm hJ hoff hdep
                          have e86 : look 125 ρ 86 = (B (!r51.2.2)) := hdep 1 rfl rfl 86 rfl
                          exact dp_v (v := (B (!r51.2.2))) (wanted_none _ rfl _) (rv_move e86) rfl hJ)) ?_
                      refine all_cons (obs_v rfl (by
                          intro k; intro _nm ρ σm hJ hoff hdep
                          have e14 : look 125 ρ 14 = (B r63.2.2) := look_off (hoff 14 rfl) rfl
                          have e87 : look 125 ρ 87 = (B (!r51.2.2)) := hdep 2 rfl rfl 87 rfl
                          exact dp_v (v := (B r63.2.2)) (wanted_yes rfl (yv_of rfl (e87.trans (congrArg B hb78)))) (rv_move e14) rfl hJ)) ?_
                      refine all_cons (obs_v rfl (by
                          intro k; intro _nm ρ σm hJ hoff hdep
                          have e88 : look 125 ρ 88 = (B r63.2.2) := hdep 3 rfl rfl 88 rfl
                          have e87 : look 125 ρ 87 = (B (!r51.2.2)) := hdep 2 rfl rfl 87 rfl
                          exact dp_v (v := (B (!r63.2.2))) (wanted_yes rfl (yv_of rfl (e87.trans (congrArg B hb78)))) (rv_not e88) rfl hJ)) ?_
                      refine all_cons (obs_v rfl (by
                          intro k; intro _nm ρ σm hJ hoff hdep
                          have e87 : look 125 ρ 87 = (B (!r51.2.2)) := hdep 2 rfl rfl 87 rfl
                          have e89 : look 125 ρ 89 = (B (!r63.2.2)) := hdep 4 rfl rfl 89 rfl
                          exact dp_v (v := (B (!r63.2.2))) (wanted_none _ rfl _) (rv_pick_f (e87.trans (congrArg B hb78)) e89) rfl hJ)) ?_
                      refine all_cons (obs_v rfl (by
                          intro k; intro _nm ρ σm hJ hoff hdep
                          have e90 : look 125 ρ 90 = (B (!r63.2.2)) := hdep 5 rfl rfl 90 rfl
                          exact dp_v (v := (B (!r63.2.2))) (wanted_none _ rfl _) (rv_move e90) rfl hJ)) ?_
                      refine all_cons (obs_v rfl (by
                          intro k; intro _nm ρ σm hJ hoff hdep
                          have e12 : look 125 ρ 12 = (Sl a66 r63.1 c67) := look_off (hoff 12 rfl) rfl
                          have e91 : look 125 ρ 91 = (B (!r63.2.2)) := hdep 6 rfl rfl 91 rfl
                          exact dp_v (v := (Sl a66 r63.1 c67)) (wanted_yes rfl (yv_of rfl (e91.trans (congrArg B hb80)))) (rv_move e12) rfl hJ)) ?_
                      refine all_cons (obs_v rfl (by
                          intro k; intro _nm ρ σm hJ hoff hdep
                          have e15 : look 125 ρ 15 = (I s74) := look_off (hoff 15 rfl) rfl
                          have e91 : look 125 ρ 91 = (B (!r63.2.2)) := hdep 6 rfl rfl 91 rfl
                          exact dp_v (v := (I s74)) (wanted_yes rfl (yv_of rfl (e91.trans (congrArg B hb80)))) (rv_move e15) rfl hJ)) ?_
                      refine all_cons (obs_v rfl (by
                          intro k; intro _nm ρ σm hJ hoff hdep
                          have e92 : look 125 ρ 92 = (Sl a66 r63.1 c67) := hdep 7 rfl rfl 92 rfl
                          have e93 : look 125 ρ 93 = (I s74) := hdep 8 rfl rfl 93 rfl
                          have e91 : look 125 ρ 91 = (B (!r63.2.2)) := hdep 6 rfl rfl 91 rfl
                          exact dp_v (v := (pt b85 o86)) (wanted_yes rfl (yv_of rfl (e91.trans (congrArg B hb80)))) (rv_ix Try.underlying27 ti3 e92 e93 hi84) rfl hJ)) ?_
                      refine all_cons (by
                          refine ⟨?_, ?_⟩
                          · intro _nm ρ σm hJ hoff hdep
                            have e94 : look 125 ρ 94 = (pt b85 o86) := hdep 9 rfl rfl 94 rfl
                            have e91 : look 125 ρ 91 = (B (!r63.2.2)) := hdep 6 rfl rfl 91 rfl
                            obtain ⟨H, m⟩ := (show Hp S0 σ0 σm [Ch.ro n0 (Sl a7 r2.2.2.1 c8) r2.2.2.1, Ch.bx n0 b10 0 [(I r2.2.1), (Sl a7 r2.2.2.1 c8), (I r2.2.2.2)] [] [], Ch.own n0 n0 (Sl a54 r51.1 c55) r51.1, Ch.own n0 n0 (Sl a57 r51.2.1 c58) r51.2.1, Ch.own n0 n0 (Sl a66 r63.1 c67) r63.1, Ch.own n0 n0 (Sl a69 r63.2.1 c70) r63.2.1] ∧ Md (cov []) σ75 σm from hJ)
                            have hc87 := ((H.own 4 rfl).at hx83 hi84).int
                            exact dp_v (v := (I x82)) (wanted_yes rfl (yv_of rfl (e91.trans (congrArg B hb80)))) (rv_load1 Try.underlying3 rfl e94 hc87) rfl hJ
                          trivial) ?_
                      refine all_cons (obs_v rfl (by
                          intro k; intro _nm ρ σm hJ hoff hdep
                          have e9 : look 125 ρ 9 = (Sl a54 r51.1 c55) := look_off (hoff 9 rfl) rfl
                          have e91 : look 125 ρ 91 = (B (!r63.2.2)) := hdep 6 rfl rfl 91 rfl
                          exact dp_v (v := (Sl a54 r51.1 c55)) (wanted_yes rfl (yv_of rfl (e91.trans (congrArg B hb80)))) (rv_move e9) rfl hJ)) ?_
                      refine all_cons (obs_v rfl (by
                          intro k; intro _nm ρ σm hJ hoff hdep
                          have e15 : look 125 ρ 15 = (I s74) := look_off (hoff 15 rfl) rfl
                          have e91 : look 125 ρ 91 = (B (!r63.2.2)) := hdep 6 rfl rfl 91 rfl
                          exact dp_v (v := (I s74)) (wanted_yes rfl (yv_of rfl (e91.trans (congrArg B hb80)))) (rv_move e15) rfl hJ)) ?_
                      refine all_cons (obs_v rfl (by
                          intro k; intro _nm ρ σm hJ hoff hdep
                          have e96 : look 125 ρ 96 = (Sl a54 r51.1 c55) := hdep 11 rfl rfl 96 rfl
                          have e97 : look 125 ρ 97 = (I s74) := hdep 12 rfl rfl 97 rfl
                          have e91 : look 125 ρ 91 = (B (!r63.2.2)) := hdep 6 rfl rfl 91 rfl
                          exact dp_v (v := (pt b91 o92)) (wanted_yes rfl (yv_of rfl (e91.trans (congrArg B hb80)))) (rv_ix Try.underlying27 ti3 e96 e97 hi90) rfl hJ)) ?_
                      refine all_cons (by
                          refine ⟨?_, ?_⟩
                          · intro _nm ρ σm hJ hoff hdep
                            have e98 : look 125 ρ 98 = (pt b91 o92) := hdep 13 rfl rfl 98 rfl
                            have e91 : look 125 ρ 91 = (B (!r63.2.2)) := hdep 6 rfl rfl 91 rfl
                            obtain ⟨H, m⟩ := (show Hp S0 σ0 σm [Ch.ro n0 (Sl a7 r2.2.2.1 c8) r2.2.2.1, Ch.bx n0 b10 0 [(I r2.2.1), (Sl a7 r2.2.2.1 c8), (I r2.2.2.2)] [] [], Ch.own n0 n0 (Sl a54 r51.1 c55) r51.1, Ch.own n0 n0 (Sl a57 r51.2.1 c58) r51.2.1, Ch.own n0 n0 (Sl a66 r63.1 c67) r63.1, Ch.own n0 n0 (Sl a69 r63.2.1 c70) r63.2.1] ∧ Md (cov []) σ75 σm from hJ)
                            have hc93 := ((H.own 2 rfl).at hx89 hi90).int
                            exact dp_v (v := (I x88)) (wanted_yes rfl (yv_of rfl (e91.trans (congrArg B hb80)))) (rv_load1 Try.underlying3 rfl e98 hc93) rfl hJ
                          trivial) ?_
                      refine all_cons (obs_v rfl (by
                          intro k; intro _nm ρ σm hJ hoff hdep
                          have e4 : look 125 ρ 4 = (pt b10 0) := look_off (hoff 4 rfl) rfl
                          have e91 : look 125 ρ 91 = (B (!r63.2.2)) := hdep 6 rfl rfl 91 rfl
                          exact dp_v (v := (pt b10 1)) (wanted_yes rfl (yv_of rfl (e91.trans (congrArg B hb80)))) (rv_fieldAddr (off := 1) (ft := 27) Try.underlying29 rfl ti27 rfl e4) rfl hJ)) ?_
                      refine all_cons (by
                          refine ⟨?_, ?_⟩
                          · intro _nm ρ σm hJ hoff hdep
                            have e100 : look 125 ρ 100 = (pt b10 1) := hdep 15 rfl rfl 100 rfl
                            have e91 : look 125 ρ 91 = (B (!r63.2.2)) := hdep 6 rfl rfl 91 rfl
                            obtain ⟨H, m⟩ := (show Hp S0 σ0 σm [Ch.ro n0 (Sl a7 r2.2.2.1 c8) r2.2.2.1, Ch.bx n0 b10 0 [(I r2.2.1), (Sl a7 r2.2.2.1 c8), (I r2.2.2.2)] [] [], Ch.own n0 n0 (Sl a54 r51.1 c55) r51.1, Ch.own n0 n0 (Sl a57 r51.2.1 c58) r51.2.1, Ch.own n0 n0 (Sl a66 r63.1 c67) r63.1, Ch.own n0 n0 (Sl a69 r63.2.1 c70) r63.2.1] ∧ Md (cov []) σ75 σm from hJ)
                            have hc94 := H.cell (u := (Sl a7 r2.2.2.1 c8)) (o' := 1) 1 1 rfl rfl rfl
                            exact dp_v (v := (Sl a7 r2.2.2.1 c8)) (wanted_yes rfl (yv_of rfl (e91.trans (congrArg B hb80)))) (rv_load1 Try.underlying27 rfl e100 hc94) rfl hJ
                          trivial) ?_
                      refine all_cons (obs_v rfl (by
                          intro k; intro _nm ρ σm hJ hoff hdep
                          have e15 : look 125 ρ 15 = (I s74) := look_off (hoff 15 rfl) rfl
                          have e91 : look 125 ρ 91 = (B (!r63.2.2)) := hdep 6 rfl rfl 91 rfl
                          exact dp_v (v := (I s74)) (wanted_yes rfl (yv_of rfl (e91.trans (congrArg B hb80)))) (rv_move e15) rfl hJ)) ?_
                      refine all_cons (obs_v rfl (by
                          intro k; intro _nm ρ σm hJ hoff hdep
                          have e101 : look 125 ρ 101 = (Sl a7 r2.2.2.1 c8) := hdep 16 rfl rfl 101 rfl
                          have e102 : look 125 ρ 102 = (I s74) := hdep 17 rfl rfl 102 rfl
                          have e91 : look 125 ρ 91 = (B (!r63.2.2)) := hdep 6 rfl rfl 91 rfl
                          exact dp_v (v := (pt b98 o99)) (wanted_yes rfl (yv_of rfl (e91.trans (congrArg B hb80)))) (rv_ix Try.underlying27 ti3 e101 e102 hi97) rfl hJ)) ?_
                      refine all_cons (by
                          refine ⟨?_, ?_⟩
                          · intro _nm ρ σm hJ hoff hdep
                            have e103 : look 125 ρ 103 = (pt b98 o99) := hdep 18 rfl rfl 103 rfl
                            have e91 : look 125 ρ 91 = (B (!r63.2.2)) := hdep 6 rfl rfl 91 rfl
                            obtain ⟨H, m⟩ := (show Hp S0 σ0 σm [Ch.ro n0 (Sl a7 r2.2.2.1 c8) r2.2.2.1, Ch.bx n0 b10 0 [(I r2.2.1), (Sl a7 r2.2.2.1 c8), (I r2.2.2.2)] [] [], Ch.own n0 n0 (Sl a54 r51.1 c55) r51.1, Ch.own n0 n0 (Sl a57 r51.2.1 c58) r51.2.1, Ch.own n0 n0 (Sl a66 r63.1 c67) r63.1, Ch.own n0 n0 (Sl a69 r63.2.1 c70) r63.2.1] ∧ Md (cov []) σ75 σm from hJ)
                            replace hc100 := (Hs.ro 0 rfl).hmd hx96 hi97 (k := 0) (by decide) hc100 m
                            exact dp_v (v := (I x95)) (wanted_yes rfl (yv_of rfl (e91.trans (congrArg B hb80)))) (rv_load1 Try.underlying3 rfl e103 hc100) rfl hJ
                          trivial) ?_
                      refine all_cons (obs_v rfl (by
                          intro k; intro _nm ρ σm hJ hoff hdep
                          have e99 : look 125 ρ 99 = (I x88) := hdep 14 rfl rfl 99 rfl
                          have e104 : look 125 ρ 104 = (I x95) := hdep 19 rfl rfl 104 rfl
                          have e91 : look 125 ρ 91 = (B (!r63.2.2)) := hdep 6 rfl rfl 91 rfl
                          exact dp_v (v := (I (min x88 x95))) (wanted_yes rfl (yv_of rfl (e91.trans (congrArg B hb80)))) (rv_min e99 e104) rfl hJ)) ?_
                      refine all_cons (obs_v rfl (by
                          intro k; intro _nm ρ σm hJ hoff hdep
                          have e95 : look 125 ρ 95 = (I x82) := hdep 10 rfl rfl 95 rfl
                          have e105 : look 125 ρ 105 = (I (min x88 x95)) := hdep 20 rfl rfl 105 rfl
                          have e91 : look 125 ρ 91 = (B (!r63.2.2)) := hdep 6 rfl rfl 91 rfl
                          exact dp_v (v := (B (x82 != (min x88 x95)))) (wanted_yes rfl (yv_of rfl (e91.trans (congrArg B hb80)))) (rv_neq (a := x82) (b := (min x88 x95)) e95 e105) rfl hJ)) ?_
                      refine all_cons (obs_v rfl (by
                          intro k; intro _nm ρ σm hJ hoff hdep
                          have e91 : look 125 ρ 91 = (B (!r63.2.2)) := hdep 6 rfl rfl 91 rfl
                          have e106 : look 125 ρ 106 = (B (x82 != (min x88 x95))) := hdep 21 rfl rfl 106 rfl
                          exact dp_v (v := (B (x82 != (min x88 x95)))) (wanted_none _ rfl _) (rv_pick_f (e91.trans (congrArg B hb80)) e106) rfl hJ)) ?_
                      refine all_cons (obs_v rfl (by
                          intro k; intro _nm ρ σm hJ hoff hdep
                          have e107 : look 125 ρ 107 = (B (x82 != (min x88 x95))) := hdep 22 rfl rfl 107 rfl
                          exact dp_v (v := (B (x82 != (min x88 x95)))) (wanted_none _ rfl _) (rv_move e107) rfl hJ)) ?_
                      refine all_cons (obs_v rfl (by
                          intro k; intro _nm ρ σm hJ hoff hdep
                          have e108 : look 125 ρ 108 = (B (x82 != (min x88 x95))) := hdep 23 rfl rfl 108 rfl
                          exact dp_skip (wanted_no rfl (yv_of rfl (e108.trans (congrArg B hb101)))) rfl hJ)) ?_
                      refine all_cons (obs_v rfl (by
                          intro k; intro _nm ρ σm hJ hoff hdep
                          have e108 : look 125 ρ 108 = (B (x82 != (min x88 x95))) := hdep 23 rfl rfl 108 rfl
                          exact dp_skip (wanted_no rfl (yv_of rfl (e108.trans (congrArg B hb101)))) rfl hJ)) ?_
                      refine all_cons (obs_v rfl (by
                          intro k; intro _nm ρ σm hJ hoff hdep
                          have e108 : look 125 ρ 108 = (B (x82 != (min x88 x95))) := hdep 23 rfl rfl 108 rfl
                          exact dp_skip (wanted_no rfl (yv_of rfl (e108.trans (congrArg B hb101)))) rfl hJ)) ?_
                      refine all_cons (obs_v rfl (by
                          intro k; intro _nm ρ σm hJ hoff hdep
                          have e108 : look 125 ρ 108 = (B (x82 != (min x88 x95))) := hdep 23 rfl rfl 108 rfl
                          exact dp_skip (wanted_no rfl (yv_of rfl (e108.trans (congrArg B hb101)))) rfl hJ)) ?_
                      refine all_cons (obs_v rfl (by
                          intro k; intro _nm ρ σm hJ hoff hdep
                          have e108 : look 125 ρ 108 = (B (x82 != (min x88 x95))) := hdep 23 rfl rfl 108 rfl
                          exact dp_skip (wanted_no rfl (yv_of rfl (e108.trans (congrArg B hb101)))) rfl hJ)) ?_
                      refine all_cons (obs_v rfl (by
                          intro k; intro _nm ρ σm hJ hoff hdep
                          have e108 : look 125 ρ 108 = (B (x82 != (min x88 x95))) := hdep 23 rfl rfl 108 rfl
                          exact dp_skip (wanted_no rfl (yv_of rfl (e108.trans (congrArg B hb101)))) rfl hJ)) ?_
                      refine all_cons (obs_v rfl (by
                          intro k; intro _nm ρ σm hJ hoff hdep
                          have e108 : look 125 ρ 108 = (B (x82 != (min x88 x95))) := hdep 23 rfl rfl 108 rfl
                          exact dp_skip (wanted_no rfl (yv_of rfl (e108.trans (congrArg B hb101)))) rfl hJ)) ?_
                      refine all_cons (obs_v rfl (by
                          intro k; intro _nm ρ σm hJ hoff hdep
                          have e108 : look 125 ρ 108 = (B (x82 != (min x88 x95))) := hdep 23 rfl rfl 108 rfl
                          exact dp_skip (wanted_no rfl (yv_of rfl (e108.trans (congrArg B hb101)))) rfl hJ)) ?_
                      refine all_cons (obs_v rfl (by
                          intro k; intro _nm ρ σm hJ hoff hdep
                          have e108 : look 125 ρ 108 = (B (x82 != (min x88 x95))) := hdep 23 rfl rfl 108 rfl
                          exact dp_skip (wanted_no rfl (yv_of rfl (e108.trans (congrArg B hb101)))) rfl hJ)) ?_
                      refine all_cons (obs_v rfl (by
                          intro k; intro _nm ρ σm hJ hoff hdep
                          have e108 : look 125 ρ 108 = (B (x82 != (min x88 x95))) := hdep 23 rfl rfl 108 rfl
                          exact dp_skip (wanted_no rfl (yv_of rfl (e108.trans (congrArg B hb101)))) rfl hJ)) ?_
                      refine all_cons (obs_v rfl (by
                          intro k; intro _nm ρ σm hJ hoff hdep
                          have e108 : look 125 ρ 108 = (B (x82 != (min x88 x95))) := hdep 23 rfl rfl 108 rfl
                          exact dp_skip (wanted_no rfl (yv_of rfl (e108.trans (congrArg B hb101)))) rfl hJ)) ?_
                      refine all_cons (obs_v rfl (by
                          intro k; intro _nm ρ σm hJ hoff hdep
                          have e108 : look 125 ρ 108 = (B (x82 != (min x88 x95))) := hdep 23 rfl rfl 108 rfl
                          exact dp_skip (wanted_no rfl (yv_of rfl (e108.trans (congrArg B hb101)))) rfl hJ)) ?_
                      refine all_cons (obs_v rfl (by
                          intro k; intro _nm ρ σm hJ hoff hdep
                          have e108 : look 125 ρ 108 = (B (x82 != (min x88 x95))) := hdep 23 rfl rfl 108 rfl
                          exact dp_skip (wanted_no rfl (yv_of rfl (e108.trans (congrArg B hb101)))) rfl hJ)) ?_
                      refine all_cons (obs_v rfl (by
                          intro k; intro _nm ρ σm hJ hoff hdep
                          have e108 : look 125 ρ 108 = (B (x82 != (min x88 x95))) := hdep 23 rfl rfl 108 rfl
                          exact dp_skip (wanted_no rfl (yv_of rfl (e108.trans (congrArg B hb101)))) rfl hJ)) ?_
                      exact all_nil
                    · intro _nm ρ σ102 hJ hoff hrel
                      have e4 : look 125 ρ 4 = (pt b10 0) := look_off (hoff 4 rfl) rfl
                      have e9 : look 125 ρ 9 = (Sl a54 r51.1 c55) := look_off (hoff 9 rfl) rfl
                      have e10 : look 125 ρ 10 = (Sl a57 r51.2.1 c58) := look_off (hoff 10 rfl) rfl
                      have e11 : look 125 ρ 11 = (B r51.2.2) := look_off (hoff 11 rfl) rfl
                      have e12 : look 125 ρ 12 = (Sl a66 r63.1 c67) := look_off (hoff 12 rfl) rfl
                      have e13 : look 125 ρ 13 = (Sl a69 r63.2.1 c70) := look_off (hoff 13 rfl) rfl
                      have e14 : look 125 ρ 14 = (B r63.2.2) := look_off (hoff 14 rfl) rfl
                      have e15 : look 125 ρ 15 = (I s74) := look_off (hoff 15 rfl) rfl
                      have e108 : look 125 ρ 108 = (B (x82 != (min x88 x95))) := hrel 23 rfl 108 rfl
                      have e112 : look 125 ρ 112 = undef := hrel 27 rfl 112 rfl
                      have e122 : look 125 ρ 122 = undef := hrel 37 rfl 122 rfl
                      obtain ⟨H, -⟩ := (show Hp S0 σ0 σ102 [Ch.ro n0 (Sl a7 r2.2.2.1 c8) r2.2.2.1, Ch.bx n0 b10 0 [(I r2.2.1), (Sl a7 r2.2.2.1 c8), (I r2.2.2.2)] [] [], Ch.own n0 n0 (Sl a54 r51.1 c55) r51.1, Ch.own n0 n0 (Sl a57 r51.2.1 c58) r51.2.1, Ch.own n0 n0 (Sl a66 r63.1 c67) r63.1, Ch.own n0 n0 (Sl a69 r63.2.1 c70) r63.2.1] ∧ Md (cov []) σ75 σ102 from hJ)
                      clear hJ Hs
                      rw [fr_lookL (L := [(4, (pt b10 0)), (9, (Sl a54 r51.1 c55)), (10, (Sl a57 r51.2.1 c58)), (11, (B r51.2.2)), (12, (Sl a66 r63.1 c67)), (13, (Sl a69 r63.2.1 c70)), (14, (B r63.2.2)), (15, (I s74)), (108, (B (x82 != (min x88 x95)))), (112, undef), (122, undef)]) ⟨e4, e9, e10, e11, e12, e13, e14, e15, e108, e112, e122, trivial⟩]
                      clear hoff hrel e4 e9 e10 e11 e12 e13 e14 e15 e108 e112 e122
                      refine st_skip (congrArg some hb101) ?_
                      refine st (v := (B true)) (rv_pick_t (congrArg B hb101) rfl) ?_
                      refine w_end ?_
                      obtain rfl := Option.some.inj h
                      exact ⟨rfl, _, σ102, fr_join ⟨rfl, rfl, rfl, rfl, rfl, rfl, rfl, rfl, rfl, trivial⟩, rfl, H.sel' [0, 1, 2, 3, 4, 5] rfl rfl⟩
                  · replace h := bif_f hb101 h
                    obtain ⟨x103, hx104, h'⟩ := bind_some h
                    clear h
                    have h := h'; clear h'
                    obtain ⟨b106, o107, hi105, -⟩ := (H.own 5 rfl).ix hx104
                    have hc108 := ((H.own 5 rfl).at hx104 hi105).int
                    obtain ⟨x109, hx110, h'⟩ := bind_some h
                    clear h
                    have h := h'; clear h'
                    obtain ⟨b112, o113, hi111, -⟩ := (H.own 3 rfl).ix hx110
                    have hc114 := ((H.own 3 rfl).at hx110 hi111).int
                    have hc115 := H.cell (u := (Sl a7 r2.2.2.1 c8)) (o' := 1) 1 1 rfl rfl rfl
                    obtain ⟨x116, hx117, h'⟩ := bind_some h
                    clear h
                    have h := h'; clear h'
                    obtain ⟨b119, o120, hi118, -⟩ := (H.ro 0 rfl).ix hx117
                    have hc121 := ((H.ro 0 rfl).at hx117 hi118).int
                    have Hs := H
                    refine rg2 (σ := σ75) (Nm := Unit) 38 [] [[]] [[(0, 0)], [(0, 0)], [(0, 0)], [(0, 0)], [(0, 0)], [(0, 0)], [(0, 0)], [(0, 0)], [(0, 0)], [(0, 0)], [(0, 0)], [(0, 0)], [(0, 0)], [(0, 0)], [(0, 0)], [(0, 0)], [(0, 0)], [(0, 0)], [(0, 0)], [(0, 0)], [(0, 0)], [(0, 0)], [(0, 0)], [(0, 0)], [(0, 0)], [(0, 0)], [(0, 0)], [(0, 0)], [(0, 0)], [(0, 0)], [(0, 0)], [(0, 0)], [(0, 0)], [(0, 0)], [(0, 0)], [(0, 0)], [(0, 0)], [(0, 0)]] 0 [fun (_nm : Unit) => fun σm => Hp S0 σ0 σm [Ch.ro n0 (Sl a7 r2.2.2.1 c8) r2.2.2.1, Ch.bx n0 b10 0 [(I r2.2.1), (Sl a7 r2.2.2.1 c8), (I r2.2.2.2)] [] [], Ch.own n0 n0 (Sl a54 r51.1 c55) r51.1, Ch.own n0 n0 (Sl a57 r51.2.1 c58) r51.2.1, Ch.own n0 n0 (Sl a66 r63.1 c67) r63.1, Ch.own n0 n0 (Sl a69 r63.2.1 c70) r63.2.1] ∧ Md (cov []) σ75 σm] [fun (_nm : Unit) => (B r51.2.2), fun (_nm : Unit) => (B (!r51.2.2)), fun (_nm : Unit) => (B (!r51.2.2)), fun (_nm : Unit) => (B r63.2.2), fun (_nm : Unit) => (B (!r63.2.2)), fun (_nm : Unit) => (B (!r63.2.2)), fun (_nm : Unit) => (B (!r63.2.2)), fun (_nm : Unit) => (Sl a66 r63.1 c67), fun (_nm : Unit) => (I s74), fun (_nm : Unit) => (pt b85 o86), fun (_nm : Unit) => (I x82), fun (_nm : Unit) => (Sl a54 r51.1 c55), fun (_nm : Unit) => (I s74), fun (_nm : Unit) => (pt b91 o92), fun (_nm : Unit) => (I x88), fun (_nm : Unit) => (pt b10 1), fun (_nm : Unit) => (Sl a7 r2.2.2.1 c8), fun (_nm : Unit) => (I s74), fun (_nm : Unit) => (pt b98 o99), fun (_nm : Unit) => (I x95), fun (_nm : Unit) => (I (min x88 x95)), fun (_nm : Unit) => (B (x82 != (min x88 x95))), fun (_nm : Unit) => (B (x82 != (min x88 x95))), fun (_nm : Unit) => (B (x82 != (min x88 x95))), fun (_nm : Unit) => (Sl a69 r63.2.1 c70), fun (_nm : Unit) => (I s74), fun (_nm : Unit) => (pt b106 o107), fun (_nm : Unit) => (I x103), fun (_nm : Unit) => (Sl a57 r51.2.1 c58), fun (_nm : Unit) => (I s74), fun (_nm : Unit) => (pt b112 o113), fun (_nm : Unit) => (I x109), fun (_nm : Unit) => (pt b10 1), fun (_nm : Unit) => (Sl a7 r2.2.2.1 c8), fun (_nm : Unit) => (I s74), fun (_nm : Unit) => (pt b119 o120), fun (_nm : Unit) => (I x116), fun (_nm : Unit) => (I (max x109 x116))] () (by kernel_rfl) (by kernel_rfl) ?_ ?_ ?_
                    · intro σm m0
                      exact ⟨H.grow (m0.mono fun _ h => h.elim), m0⟩
                    · refine all_cons (obs_v rfl (by
                          intro k; intro _nm ρ σm hJ hoff hdep
                          have e11 : look 125 ρ 11 = (B r51.2.2) := look_off (hoff 11 rfl) rfl
                          exact dp_v (v := (B r51.2.2)) (wanted_none _ rfl _) (rv_move e11) rfl hJ)) ?_
                      refine all_cons (obs_v rfl (by
                          intro k; intro _nm ρ σm hJ hoff hdep
                          have e85 : look 125 ρ 85 = (B r51.2.2) := hdep 0 rfl rfl 85 rfl
                          exact dp_v (v := (B (!r51.2.2))) (wanted_none _ rfl _) (rv_not e85) rfl hJ)) ?_
                      refine all_cons (obs_v rfl (by
                          intro k; intro _nm ρ σm hJ hoff hdep
                          have e86 : look 125 ρ 86 = (B (!r51.2.2)) := hdep 1 rfl rfl 86 rfl
                          exact dp_v (v := (B (!r51.2.2))) (wanted_none _ rfl _) (rv_move e86) rfl hJ)) ?_
                      refine all_cons (obs_v rfl (by
                          intro k; intro _nm ρ σm hJ hoff hdep
                          have e14 : look 125 ρ 14 = (B r63.2.2) := look_off (hoff 14 rfl) rfl
                          have e87 : look 125 ρ 87 = (B (!r51.2.2)) := hdep 2 rfl rfl 87 rfl
                          exact dp_v (v := (B r63.2.2)) (wanted_yes rfl (yv_of rfl (e87.trans (congrArg B hb78)))) (rv_move e14) rfl hJ)) ?_
                      refine all_cons (obs_v rfl (by
                          intro k; intro _nm ρ σm hJ hoff hdep
                          have e88 : look 125 ρ 88 = (B r63.2.2) := hdep 3 rfl rfl 88 rfl
                          have e87 : look 125 ρ 87 = (B (!r51.2.2)) := hdep 2 rfl rfl 87 rfl
                          exact dp_v (v := (B (!r63.2.2))) (wanted_yes rfl (yv_of rfl (e87.trans (congrArg B hb78)))) (rv_not e88) rfl hJ)) ?_
                      refine all_cons (obs_v rfl (by
                          intro k; intro _nm ρ σm hJ hoff hdep
                          have e87 : look 125 ρ 87 = (B (!r51.2.2)) := hdep 2 rfl rfl 87 rfl
                          have e89 : look 125 ρ 89 = (B (!r63.2.2)) := hdep 4 rfl rfl 89 rfl
                          exact dp_v (v := (B (!r63.2.2))) (wanted_none _ rfl _) (rv_pick_f (e87.trans (congrArg B hb78)) e89) rfl hJ)) ?_
                      refine all_cons (obs_v rfl (by
                          intro k; intro _nm ρ σm hJ hoff hdep
                          have e90 : look 125 ρ 90 = (B (!r63.2.2)) := hdep 5 rfl rfl 90 rfl
                          exact dp_v (v := (B (!r63.2.2))) (wanted_none _ rfl _) (rv_move e90) rfl hJ)) ?_
                      refine all_cons (obs_v rfl (by
                          intro k; intro _nm ρ σm hJ hoff hdep
                          have e12 : look 125 ρ 12 = (Sl a66 r63.1 c67) := look_off (hoff 12 rfl) rfl
                          have e91 : look 125 ρ 91 = (B (!r63.2.2)) := hdep 6 rfl rfl 91 rfl
                          exact dp_v (v := (Sl a66 r63.1 c67)) (wanted_yes rfl (yv_of rfl (e91.trans (congrArg B hb80)))) (rv_move e12) rfl hJ)) ?_
                      refine all_cons (obs_v rfl (by
                          intro k; intro _nm ρ σm hJ hoff hdep
                          have e15 : look 125 ρ 15 = (I s74) := look_off (hoff 15 rfl) rfl
                          have e91 : look 125 ρ 91 = (B (!r63.2.2)) := hdep 6 rfl rfl 91 rfl
                          exact dp_v (v := (I s74)) (wanted_yes rfl (yv_of rfl (e91.trans (congrArg B hb80)))) (rv_move e15) rfl hJ)) ?_
                      refine all_cons (obs_v rfl (by
                          intro k; intro _nm ρ σm hJ hoff hdep
                          have e92 : look 125 ρ 92 = (Sl a66 r63.1 c67) := hdep 7 rfl rfl 92 rfl
                          have e93 : look 125 ρ 93 = (I s74) := hdep 8 rfl rfl 93 rfl
                          have e91 : look 125 ρ 91 = (B (!r63.2.2)) := hdep 6 rfl rfl 91 rfl
                          exact dp_v (v := (pt b85 o86)) (wanted_yes rfl (yv_of rfl (e91.trans (congrArg B hb80)))) (rv_ix Try.underlying27 ti3 e92 e93 hi84) rfl hJ)) ?_
                      refine all_cons (by
                          refine ⟨?_, ?_⟩
                          · intro _nm ρ σm hJ hoff hdep
                            have e94 : look 125 ρ 94 = (pt b85 o86) := hdep 9 rfl rfl 94 rfl
                            have e91 : look 125 ρ 91 = (B (!r63.2.2)) := hdep 6 rfl rfl 91 rfl
                            obtain ⟨H, m⟩ := (show Hp S0 σ0 σm [Ch.ro n0 (Sl a7 r2.2.2.1 c8) r2.2.2.1, Ch.bx n0 b10 0 [(I r2.2.1), (Sl a7 r2.2.2.1 c8), (I r2.2.2.2)] [] [], Ch.own n0 n0 (Sl a54 r51.1 c55) r51.1, Ch.own n0 n0 (Sl a57 r51.2.1 c58) r51.2.1, Ch.own n0 n0 (Sl a66 r63.1 c67) r63.1, Ch.own n0 n0 (Sl a69 r63.2.1 c70) r63.2.1] ∧ Md (cov []) σ75 σm from hJ)
                            have hc87 := ((H.own 4 rfl).at hx83 hi84).int
                            exact dp_v (v := (I x82)) (wanted_yes rfl (yv_of rfl (e91.trans (congrArg B hb80)))) (rv_load1 Try.underlying3 rfl e94 hc87) rfl hJ
                          trivial) ?_
                      refine all_cons (obs_v rfl (by
                          intro k; intro _nm ρ σm hJ hoff hdep
                          have e9 : look 125 ρ 9 = (Sl a54 r51.1 c55) := look_off (hoff 9 rfl) rfl
                          have e91 : look 125 ρ 91 = (B (!r63.2.2)) := hdep 6 rfl rfl 91 rfl
                          exact dp_v (v := (Sl a54 r51.1 c55)) (wanted_yes rfl (yv_of rfl (e91.trans (congrArg B hb80)))) (rv_move e9) rfl hJ)) ?_
                      refine all_cons (obs_v rfl (by
                          intro k; intro _nm ρ σm hJ hoff hdep
                          have e15 : look 125 ρ 15 = (I s74) := look_off (hoff 15 rfl) rfl
                          have e91 : look 125 ρ 91 = (B (!r63.2.2)) := hdep 6 rfl rfl 91 rfl
                          exact dp_v (v := (I s74)) (wanted_yes rfl (yv_of rfl (e91.trans (congrArg B hb80)))) (rv_move e15) rfl hJ)) ?_
                      refine all_cons (obs_v rfl (by
                          intro k; intro _nm ρ σm hJ hoff hdep
                          have e96 : look 125 ρ 96 = (Sl a54 r51.1 c55) := hdep 11 rfl rfl 96 rfl
                          have e97 : look 125 ρ 97 = (I s74) := hdep 12 rfl rfl 97 rfl
                          have e91 : look 125 ρ 91 = (B (!r63.2.2)) := hdep 6 rfl rfl 91 rfl
                          exact dp_v (v := (pt b91 o92)) (wanted_yes rfl (yv_of rfl (e91.trans (congrArg B hb80)))) (rv_ix Try.underlying27 ti3 e96 e97 hi90) rfl hJ)) ?_
                      refine all_cons (by
                          refine ⟨?_, ?_⟩
                          · intro _nm ρ σm hJ hoff hdep
                            have e98 : look 125 ρ 98 = (pt b91 o92) := hdep 13 rfl rfl 98 rfl
                            have e91 : look 125 ρ 91 = (B (!r63.2.2)) := hdep 6 rfl rfl 91 rfl
                            obtain ⟨H, m⟩ := (show Hp S0 σ0 σm [Ch.ro n0 (Sl a7 r2.2.2.1 c8) r2.2.2.1, Ch.bx n0 b10 0 [(I r2.2.1), (Sl a7 r2.2.2.1 c8), (I r2.2.2.2)] [] [], Ch.own n0 n0 (Sl a54 r51.1 c55) r51.1, Ch.own n0 n0 (Sl a57 r51.2.1 c58) r51.2.1, Ch.own n0 n0 (Sl a66 r63.1 c67) r63.1, Ch.own n0 n0 (Sl a69 r63.2.1 c70) r63.2.1] ∧ Md (cov []) σ75 σm from hJ)
                            have hc93 := ((H.own 2 rfl).at hx89 hi90).int
                            exact dp_v (v := (I x88)) (wanted_yes rfl (yv_of rfl (e91.trans (congrArg B hb80)))) (rv_load1 Try.underlying3 rfl e98 hc93) rfl hJ
                          trivial) ?_
                      refine all_cons (obs_v rfl (by
                          intro k; intro _nm ρ σm hJ hoff hdep
                          have e4 : look 125 ρ 4 = (pt b10 0) := look_off (hoff 4 rfl) rfl
                          have e91 : look 125 ρ 91 = (B (!r63.2.2)) := hdep 6 rfl rfl 91 rfl
                          exact dp_v (v := (pt b10 1)) (wanted_yes rfl (yv_of rfl (e91.trans (congrArg B hb80)))) (rv_fieldAddr (off := 1) (ft := 27) Try.underlying29 rfl ti27 rfl e4) rfl hJ)) ?_
                      refine all_cons (by
                          refine ⟨?_, ?_⟩
                          · intro _nm ρ σm hJ hoff hdep
                            have e100 : look 125 ρ 100 = (pt b10 1) := hdep 15 rfl rfl 100 rfl
                            have e91 : look 125 ρ 91 = (B (!r63.2.2)) := hdep 6 rfl rfl 91 rfl
                            obtain ⟨H, m⟩ := (show Hp S0 σ0 σm [Ch.ro n0 (Sl a7 r2.2.2.1 c8) r2.2.2.1, Ch.bx n0 b10 0 [(I r2.2.1), (Sl a7 r2.2.2.1 c8), (I r2.2.2.2)] [] [], Ch.own n0 n0 (Sl a54 r51.1 c55) r51.1, Ch.own n0 n0 (Sl a57 r51.2.1 c58) r51.2.1, Ch.own n0 n0 (Sl a66 r63.1 c67) r63.1, Ch.own n0 n0 (Sl a69 r63.2.1 c70) r63.2.1] ∧ Md (cov []) σ75 σm from hJ)
                            have hc94 := H.cell (u := (Sl a7 r2.2.2.1 c8)) (o' := 1) 1 1 rfl rfl rfl
                            exact dp_v (v := (Sl a7 r2.2.2.1 c8)) (wanted_yes rfl (yv_of rfl (e91.trans (congrArg B hb80)))) (rv_load1 Try.underlying27 rfl e100 hc94) rfl hJ
                          trivial) ?_
                      refine all_cons (obs_v rfl (by
                          intro k; intro _nm ρ σm hJ hoff hdep
                          have e15 : look 125 ρ 15 = (I s74) := look_off (hoff 15 rfl) rfl
                          have e91 : look 125 ρ 91 = (B (!r63.2.2)) := hdep 6 rfl rfl 91 rfl
                          exact dp_v (v := (I s74)) (wanted_yes rfl (yv_of rfl (e91.trans (congrArg B hb80)))) (rv_move e15) rfl hJ)) ?_
                      refine all_cons (obs_v rfl (by
                          intro k; intro _nm ρ σm hJ hoff hdep
                          have e101 : look 125 ρ 101 = (Sl a7 r2.2.2.1 c8) := hdep 16 rfl rfl 101 rfl
                          have e102 : look 125 ρ 102 = (I s74) := hdep 17 rfl rfl 102 rfl
                          have e91 : look 125 ρ 91 = (B (!r63.2.2)) := hdep 6 rfl rfl 91 rfl
                          exact dp_v (v := (pt b98 o99)) (wanted_yes rfl (yv_of rfl (e91.trans (congrArg B hb80)))) (rv_ix Try.underlying27 ti3 e101 e102 hi97) rfl hJ)) ?_
                      refine all_cons (by
                          refine ⟨?_, ?_⟩
                          · intro _nm ρ σm hJ hoff hdep
                            have e103 : look 125 ρ 103 = (pt b98 o99) := hdep 18 rfl rfl 103 rfl
                            have e91 : look 125 ρ 91 = (B (!r63.2.2)) := hdep 6 rfl rfl 91 rfl
                            obtain ⟨H, m⟩ := (show Hp S0 σ0 σm [Ch.ro n0 (Sl a7 r2.2.2.1 c8) r2.2.2.1, Ch.bx n0 b10 0 [(I r2.2.1), (Sl a7 r2.2.2.1 c8), (I r2.2.2.2)] [] [], Ch.own n0 n0 (Sl a54 r51.1 c55) r51.1, Ch.own n0 n0 (Sl a57 r51.2.1 c58) r51.2.1, Ch.own n0 n0 (Sl a66 r63.1 c67) r63.1, Ch.own n0 n0 (Sl a69 r63.2.1 c70) r63.2.1] ∧ Md (cov []) σ75 σm from hJ)
                            replace hc100 := (Hs.ro 0 rfl).hmd hx96 hi97 (k := 0) (by decide) hc100 m
                            exact dp_v (v := (I x95)) (wanted_yes rfl (yv_of rfl (e91.trans (congrArg B hb80)))) (rv_load1 Try.underlying3 rfl e103 hc100) rfl hJ
                          trivial) ?_
                      refine all_cons (obs_v rfl (by
                          intro k; intro _nm ρ σm hJ hoff hdep
                          have e99 : look 125 ρ 99 = (I x88) := hdep 14 rfl rfl 99 rfl
                          have e104 : look 125 ρ 104 = (I x95) := hdep 19 rfl rfl 104 rfl
                          have e91 : look 125 ρ 91 = (B (!r63.2.2)) := hdep 6 rfl rfl 91 rfl
                          exact dp_v (v := (I (min x88 x95))) (wanted_yes rfl (yv_of rfl (e91.trans (congrArg B hb80)))) (rv_min e99 e104) rfl hJ)) ?_
                      refine all_cons (obs_v rfl (by
                          intro k; intro _nm ρ σm hJ hoff hdep
                          have e95 : look 125 ρ 95 = (I x82) := hdep 10 rfl rfl 95 rfl
                          have e105 : look 125 ρ 105 = (I (min x88 x95)) := hdep 20 rfl rfl 105 rfl
                          have e91 : look 125 ρ 91 = (B (!r63.2.2)) := hdep 6 rfl rfl 91 rfl
                          exact dp_v (v := (B (x82 != (min x88 x95)))) (wanted_yes rfl (yv_of rfl (e91.trans (congrArg B hb80)))) (rv_neq (a := x82) (b := (min x88 x95)) e95 e105) rfl hJ)) ?_
                      refine all_cons (obs_v rfl (by
                          intro k; intro _nm ρ σm hJ hoff hdep
                          have e91 : look 125 ρ 91 = (B (!r63.2.2)) := hdep 6 rfl rfl 91 rfl
                          have e106 : look 125 ρ 106 = (B (x82 != (min x88 x95))) := hdep 21 rfl rfl 106 rfl
                          exact dp_v (v := (B (x82 != (min x88 x95)))) (wanted_none _ rfl _) (rv_pick_f (e91.trans (congrArg B hb80)) e106) rfl hJ)) ?_
                      refine all_cons (obs_v rfl (by
                          intro k; intro _nm ρ σm hJ hoff hdep
                          have e107 : look 125 ρ 107 = (B (x82 != (min x88 x95))) := hdep 22 rfl rfl 107 rfl
                          exact dp_v (v := (B (x82 != (min x88 x95)))) (wanted_none _ rfl _) (rv_move e107) rfl hJ)) ?_
                      refine all_cons (obs_v rfl (by
                          intro k; intro _nm ρ σm hJ hoff hdep
                          have e13 : look 125 ρ 13 = (Sl a69 r63.2.1 c70) := look_off (hoff 13 rfl) rfl
                          have e108 : look 125 ρ 108 = (B (x82 != (min x88 x95))) := hdep 23 rfl rfl 108 rfl
                          exact dp_v (v := (Sl a69 r63.2.1 c70)) (wanted_yes rfl (yv_of rfl (e108.trans (congrArg B hb101)))) (rv_move e13) rfl hJ)) ?_
                      refine all_cons (obs_v rfl (by
                          intro k; intro _nm ρ σm hJ hoff hdep
                          have e15 : look 125 ρ 15 = (I s74) := look_off (hoff 15 rfl) rfl
                          have e108 : look 125 ρ 108 = (B (x82 != (min x88 x95))) := hdep 23 rfl rfl 108 rfl
                          exact dp_v (v := (I s74)) (wanted_yes rfl (yv_of rfl (e108.trans (congrArg B hb101)))) (rv_move e15) rfl hJ)) ?_
                      refine all_cons (obs_v rfl (by
                          intro k; intro _nm ρ σm hJ hoff hdep
                          have e109 : look 125 ρ 109 = (Sl a69 r63.2.1 c70) := hdep 24 rfl rfl 109 rfl
                          have e110 : look 125 ρ 110 = (I s74) := hdep 25 rfl rfl 110 rfl
                          have e108 : look 125 ρ 108 = (B (x82 != (min x88 x95))) := hdep 23 rfl rfl 108 rfl
                          exact dp_v (v := (pt b106 o107)) (wanted_yes rfl (yv_of rfl (e108.trans (congrArg B hb101)))) (rv_ix Try.underlying27 ti3 e109 e110 hi105) rfl hJ)) ?_
                      refine all_cons (by
                          refine ⟨?_, ?_⟩
                          · intro _nm ρ σm hJ hoff hdep
                            have e111 : look 125 ρ 111 = (pt b106 o107) := hdep 26 rfl rfl 111 rfl
                            have e108 : look 125 ρ 108 = (B (x82 != (min x88 x95))) := hdep 23 rfl rfl 108 rfl
                            obtain ⟨H, m⟩ := (show Hp S0 σ0 σm [Ch.ro n0 (Sl a7 r2.2.2.1 c8) r2.2.2.1, Ch.bx n0 b10 0 [(I r2.2.1), (Sl a7 r2.2.2.1 c8), (I r2.2.2.2)] [] [], Ch.own n0 n0 (Sl a54 r51.1 c55) r51.1, Ch.own n0 n0 (Sl a57 r51.2.1 c58) r51.2.1, Ch.own n0 n0 (Sl a66 r63.1 c67) r63.1, Ch.own n0 n0 (Sl a69 r63.2.1 c70) r63.2.1] ∧ Md (cov []) σ75 σm from hJ)
                            have hc108 := ((H.own 5 rfl).at hx104 hi105).int
                            exact dp_v (v := (I x103)) (wanted_yes rfl (yv_of rfl (e108.trans (congrArg B hb101)))) (rv_load1 Try.underlying3 rfl e111 hc108) rfl hJ
                          trivial) ?_
                      refine all_cons (obs_v rfl (by
                          intro k; intro _nm ρ σm hJ hoff hdep
                          have e10 : look 125 ρ 10 = (Sl a57 r51.2.1 c58) := look_off (hoff 10 rfl) rfl
                          have e108 : look 125 ρ 108 = (B (x82 != (min x88 x95))) := hdep 23 rfl rfl 108 rfl
                          exact dp_v (v := (Sl a57 r51.2.1 c58)) (wanted_yes rfl (yv_of rfl (e108.trans (congrArg B hb101)))) (rv_move e10) rfl hJ)) ?_
                      refine all_cons (obs_v rfl (by
                          intro k; intro _nm ρ σm hJ hoff hdep
                          have e15 : look 125 ρ 15 = (I s74) := look_off (hoff 15 rfl) rfl
                          have e108 : look 125 ρ 108 = (B (x82 != (min x88 x95))) := hdep 23 rfl rfl 108 rfl
                          exact dp_v (v := (I s74)) (wanted_yes rfl (yv_of rfl (e108.trans (congrArg B hb101)))) (rv_move e15) rfl hJ)) ?_
                      refine all_cons (obs_v rfl (by
                          intro k; intro _nm ρ σm hJ hoff hdep
                          have e113 : look 125 ρ 113 = (Sl a57 r51.2.1 c58) := hdep 28 rfl rfl 113 rfl
                          have e114 : look 125 ρ 114 = (I s74) := hdep 29 rfl rfl 114 rfl
                          have e108 : look 125 ρ 108 = (B (x82 != (min x88 x95))) := hdep 23 rfl rfl 108 rfl
                          exact dp_v (v := (pt b112 o113)) (wanted_yes rfl (yv_of rfl (e108.trans (congrArg B hb101)))) (rv_ix Try.underlying27 ti3 e113 e114 hi111) rfl hJ)) ?_
                      refine all_cons (by
                          refine ⟨?_, ?_⟩
                          · intro _nm ρ σm hJ hoff hdep
                            have e115 : look 125 ρ 115 = (pt b112 o113) := hdep 30 rfl rfl 115 rfl
                            have e108 : look 125 ρ 108 = (B (x82 != (min x88 x95))) := hdep 23 rfl rfl 108 rfl
                            obtain ⟨H, m⟩ := (show Hp S0 σ0 σm [Ch.ro n0 (Sl a7 r2.2.2.1 c8) r2.2.2.1, Ch.bx n0 b10 0 [(I r2.2.1), (Sl a7 r2.2.2.1 c8), (I r2.2.2.2)] [] [], Ch.own n0 n0 (Sl a54 r51.1 c55) r51.1, Ch.own n0 n0 (Sl a57 r51.2.1 c58) r51.2.1, Ch.own n0 n0 (Sl a66 r63.1 c67) r63.1, Ch.own n0 n0 (Sl a69 r63.2.1 c70) r63.2.1] ∧ Md (cov []) σ75 σm from hJ)
                            have hc114 := ((H.own 3 rfl).at hx110 hi111).int
                            exact dp_v (v := (I x109)) (wanted_yes rfl (yv_of rfl (e108.trans (congrArg B hb101)))) (rv_load1 Try.underlying3 rfl e115 hc114) rfl hJ
                          trivial) ?_
                      refine all_cons (obs_v rfl (by
                          intro k; intro _nm ρ σm hJ hoff hdep
                          have e4 : look 125 ρ 4 = (pt b10 0) := look_off (hoff 4 rfl) rfl
                          have e108 : look 125 ρ 108 = (B (x82 != (min x88 x95))) := hdep 23 rfl rfl 108 rfl
                          exact dp_v (v := (pt b10 1)) (wanted_yes rfl (yv_of rfl (e108.trans (congrArg B hb101)))) (rv_fieldAddr (off := 1) (ft := 27) Try.underlying29 rfl ti27 rfl e4) rfl hJ)) ?_
                      refine all_cons (by
                          refine ⟨?_, ?_⟩
                          · intro _nm ρ σm hJ hoff hdep
                            have e117 : look 125 ρ 117 = (pt b10 1) := hdep 32 rfl rfl 117 rfl
                            have e108 : look 125 ρ 108 = (B (x82 != (min x88 x95))) := hdep 23 rfl rfl 108 rfl
                            obtain ⟨H, m⟩ := (show Hp S0 σ0 σm [Ch.ro n0 (Sl a7 r2.2.2.1 c8) r2.2.2.1, Ch.bx n0 b10 0 [(I r2.2.1), (Sl a7 r2.2.2.1 c8), (I r2.2.2.2)] [] [], Ch.own n0 n0 (Sl a54 r51.1 c55) r51.1, Ch.own n0 n0 (Sl a57 r51.2.1 c58) r51.2.1, Ch.own n0 n0 (Sl a66 r63.1 c67) r63.1, Ch.own n0 n0 (Sl a69 r63.2.1 c70) r63.2.1] ∧ Md (cov []) σ75 σm from hJ)
                            have hc115 := H.cell (u := (Sl a7 r2.2.2.1 c8)) (o' := 1) 1 1 rfl rfl rfl
                            exact dp_v (v := (Sl a7 r2.2.2.1 c8)) (wanted_yes rfl (yv_of rfl (e108.trans (congrArg B hb101)))) (rv_load1 Try.underlying27 rfl e117 hc115) rfl hJ
                          trivial) ?_
                      refine all_cons (obs_v rfl (by
                          intro k; intro _nm ρ σm hJ hoff hdep
                          have e15 : look 125 ρ 15 = (I s74) := look_off (hoff 15 rfl) rfl
                          have e108 : look 125 ρ 108 = (B (x82 != (min x88 x95))) := hdep 23 rfl rfl 108 rfl
                          exact dp_v (v := (I s74)) (wanted_yes rfl (yv_of rfl (e108.trans (congrArg B hb101)))) (rv_move e15) rfl hJ)) ?_
                      refine all_cons (obs_v rfl (by
                          intro k; intro _nm ρ σm hJ hoff hdep
                          have e118 : look 125 ρ 118 = (Sl a7 r2.2.2.1 c8) := hdep 33 rfl rfl 118 rfl
                          have e119 : look 125 ρ 119 = (I s74) := hdep 34 rfl rfl 119 rfl
                          have e108 : look 125 ρ 108 = (B (x82 != (min x88 x95))) := hdep 23 rfl rfl 108 rfl
                          exact dp_v (v := (pt b119 o120)) (wanted_yes rfl (yv_of rfl (e108.trans (congrArg B hb101)))) (rv_ix Try.underlying27 ti3 e118 e119 hi118) rfl hJ)) ?_
                      refine all_cons (by
                          refine ⟨?_, ?_⟩
                          · intro _nm ρ σm hJ hoff hdep
                            have e120 : look 125 ρ 120 = (pt b119 o120) := hdep 35 rfl rfl 120 rfl
                            have e108 : look 125 ρ 108 = (B (x82 != (min x88 x95))) := hdep 23 rfl rfl 108 rfl
                            obtain ⟨H, m⟩ := (show Hp S0 σ0 σm [Ch.ro n0 (Sl a7 r2.2.2.1 c8) r2.2.2.1, Ch.bx n0 b10 0 [(I r2.2.1), (Sl a7 r2.2.2.1 c8), (I r2.2.2.2)] [] [], Ch.own n0 n0 (Sl a54 r51.1 c55) r51.1, Ch.own n0 n0 (Sl a57 r51.2.1 c58) r51.2.1, Ch.own n0 n0 (Sl a66 r63.1 c67) r63.1, Ch.own n0 n0 (Sl a69 r63.2.1 c70) r63.2.1] ∧ Md (cov []) σ75 σm from hJ)
                            replace hc121 := (Hs.ro 0 rfl).hmd hx117 hi118 (k := 0) (by decide) hc121 m
                            exact dp_v (v := (I x116)) (wanted_yes rfl (yv_of rfl (e108.trans (congrArg B hb101)))) (rv_load1 Try.underlying3 rfl e120 hc121) rfl hJ
                          trivial) ?_
                      refine all_cons (obs_v rfl (by
                          intro k; intro _nm ρ σm hJ hoff hdep
                          have e116 : look 125 ρ 116 = (I x109) := hdep 31 rfl rfl 116 rfl
                          have e121 : look 125 ρ 121 = (I x116) := hdep 36 rfl rfl 121 rfl
                          have e108 : look 125 ρ 108 = (B (x82 != (min x88 x95))) := hdep 23 rfl rfl 108 rfl
                          exact dp_v (v := (I (max x109 x116))) (wanted_yes rfl (yv_of rfl (e108.trans (congrArg B hb101)))) (rv_max e116 e121) rfl hJ)) ?_
                      exact all_nil
                    · intro _nm ρ σ122 hJ hoff hrel
                      have e4 : look 125 ρ 4 = (pt b10 0) := look_off (hoff 4 rfl) rfl
                      have e9 : look 125 ρ 9 = (Sl a54 r51.1 c55) := look_off (hoff 9 rfl) rfl
                      have e10 : look 125 ρ 10 = (Sl a57 r51.2.1 c58) := look_off (hoff 10 rfl) rfl
                      have e11 : look 125 ρ 11 = (B r51.2.2) := look_off (hoff 11 rfl) rfl
                      have e12 : look 125 ρ 12 = (Sl a66 r63.1 c67) := look_off (hoff 12 rfl) rfl
                      have e13 : look 125 ρ 13 = (Sl a69 r63.2.1 c70) := look_off (hoff 13 rfl) rfl
                      have e14 : look 125 ρ 14 = (B r63.2.2) := look_off (hoff 14 rfl) rfl
                      have e15 : look 125 ρ 15 = (I s74) := look_off (hoff 15 rfl) rfl
                      have e108 : look 125 ρ 108 = (B (x82 != (min x88 x95))) := hrel 23 rfl 108 rfl
                      have e112 : look 125 ρ 112 = (I x103) := hrel 27 rfl 112 rfl
                      have e122 : look 125 ρ 122 = (I (max x109 x116)) := hrel 37 rfl 122 rfl
                      obtain ⟨H, -⟩ := (show Hp S0 σ0 σ122 [Ch.ro n0 (Sl a7 r2.2.2.1 c8) r2.2.2.1, Ch.bx n0 b10 0 [(I r2.2.1), (Sl a7 r2.2.2.1 c8), (I r2.2.2.2)] [] [], Ch.own n0 n0 (Sl a54 r51.1 c55) r51.1, Ch.own n0 n0 (Sl a57 r51.2.1 c58) r51.2.1, Ch.own n0 n0 (Sl a66 r63.1 c67) r63.1, Ch.own n0 n0 (Sl a69 r63.2.1 c70) r63.2.1] ∧ Md (cov []) σ75 σ122 from hJ)
                      clear hJ Hs
                      rw [fr_lookL (L := [(4, (pt b10 0)), (9, (Sl a54 r51.1 c55)), (10, (Sl a57 r51.2.1 c58)), (11, (B r51.2.2)), (12, (Sl a66 r63.1 c67)), (13, (Sl a69 r63.2.1 c70)), (14, (B r63.2.2)), (15, (I s74)), (108, (B (x82 != (min x88 x95)))), (112, (I x103)), (122, (I (max x109 x116)))]) ⟨e4, e9, e10, e11, e12, e13, e14, e15, e108, e112, e122, trivial⟩]
                      clear hoff hrel e4 e9 e10 e11 e12 e13 e14 e15 e108 e112 e122
                      refine st_g (v := (B (x103 != (max x109 x116)))) (congrArg some hb101) (rv_neq (a := x103) (b := (max x109 x116)) rfl rfl) ?_
                      refine st (v := (B (x103 != (max x109 x116)))) (rv_pick_f (congrArg B hb101) rfl) ?_
                      refine w_end ?_
                      obtain rfl := Option.some.inj h
                      exact ⟨rfl, _, σ122, fr_join ⟨rfl, rfl, rfl, rfl, rfl, rfl, rfl, rfl, rfl, trivial⟩, rfl, H.sel' [0, 1, 2, 3, 4, 5] rfl rfl⟩
            · clear hj
              have h := h'
              clear h' H
              rintro e a w ⟨rfl, ρ, σ123, rfl, rfl, H⟩
              refine q_then ?_
              refine cd_cond o77 rfl (fun hb124 => ?_) (fun hb124 => ?_)
              · replace h := bif_t hb124 h
                refine c_seq ?_
                refine rg ?_
                refine st (v := (B false)) (rv_assign rfl) ?_
                refine w_end ?_
                refine q_then ?_
                refine c_ret ?_
                refine q_blk_r ?_
                refine q_then_r ?_
                refine q_then_r ?_
                refine q_blk_r ?_
                obtain rfl := Option.some.inj h
                obtain rfl := hres _ rfl
                exact .inr (⟨_, rfl, rfl, _, σ123, fr_join ⟨rfl, trivial⟩, rfl, H.sel' [] rfl rfl⟩)
              · replace h := bif_f hb124 h
                refine c_skip ?_
                refine q_blk ?_
                refine q_then ?_
                refine rg ?_
                refine st (v := (I s74)) (rv_move rfl) ?_
                refine st (v := (I (w64 (s74 + 1)))) (rv_add (a := s74) (b := 1) rfl rfl) ?_
                refine st (v := (I (w64 (s74 + 1)))) (rv_assign rfl) ?_
                refine w_end ?_
                refine q_then ?_
                obtain rfl := Option.some.inj h
                exact ⟨_, rfl, _, σ123, fr_join ⟨rfl, rfl, rfl, rfl, rfl, rfl, rfl, rfl, trivial⟩, rfl, H.sel' [0, 1, 2, 3, 4, 5] rfl rfl⟩
          · replace h := bif_f hb76 h
            refine c_exit ?_
            refine q_then_x ?_
            refine q_then_x ?_
            refine q_blk_hit ?_
            obtain rfl := Option.some.inj h
            obtain rfl := hres _ rfl
            exact .inl ⟨_, rfl, rfl, _, σ75, fr_join trivial, rfl, H.sel' [] rfl rfl⟩
        · clear hj
          have h := h'
          clear h' H
          rintro e a w (⟨t125, rfl, rfl, ρ, σ126, rfl, rfl, H⟩ | ⟨t127, rfl, rfl, ρ, σ128, rfl, rfl, H⟩)
          · replace h := selim_l h
            refine q_then ?_
            refine c_seq ?_
            refine rg ?_
            refine st (v := (B true)) (rv_assign rfl) ?_
            refine w_end ?_
            refine q_then ?_
            refine c_ret ?_
            obtain rfl := Option.some.inj h
            exact fin_ret (v := (B true)) (results_ok Try.results12 (res_tmp (v := (B true)) rfl res_nil) rfl) ⟨rfl, rfl⟩ (H.sel' [] rfl rfl)
          · replace h := selim_r h
            refine q_then_r ?_
            obtain rfl := Option.some.inj h
            exact fin_ret (v := (B t127)) (results_ok Try.results12 (res_tmp (v := (B t127)) rfl res_nil) rfl) ⟨rfl, rfl⟩ (H.sel' [] rfl rfl)

end Go.Vs
