/- The functions compute what their models say. -/
import Derived.Test.YtefojfippfoppaaGreatKProbeNearestMoreC8
set_option linter.unusedVariables false
set_option linter.unusedSimpArgs false
set_option maxRecDepth 20000
namespace Go.Vs
open Go Go.Proofs
attribute [local irreducible] Code.wp Code.wpIn wpList wpListIn wpQuiet Calls CallsIn

theorem c_laws_FnProbeNearestMore {Ah : List UInt8} {Ai : Option Addr} {Aj : Nat} {r : Bool} (h : M.laws_FnProbeNearestMore Ah = some r) :
    Cal2 Tryz.prog 6 [(Sl Ai Ah Aj)] [Ch.ro 0 (Sl Ai Ah Aj) Ah] (fun n0 v L => v = (B r) ∧ L = []) := by
 refine cal2 (n := 76) Tryz.func6 rfl rfl rfl rfl ?_
 intro S0 σ0 n0 hn0 H
 unfold M.laws_FnProbeNearestMore at h
 refine c_seq (rg (sa (B false) rfl (w_end (q_then (c_seq (c_seq (rg (sm (Sl Ai Ah Aj) rfl (st (v := (I (Ah.length : Int))) (rv_len Tryz.underlying22 rfl) (st (v := (B (decide (1048576 < (Ah.length : Int))))) (rv_gtr (a := (Ah.length : Int)) (b := 1048576) rfl rfl) (w_end ?_)))))))))))
 refine q_then ?_
 refine cd_cond (decide (1048576 < (Ah.length : Int))) rfl (fun hb1 => ?_) (fun hb1 => ?_)
 ·replace h := bif_t hb1 h
  refine c_seq (rg (sa (B true) rfl (w_end (q_then (c_ret (q_then_r ?_))))))
  obtain rfl := sj h
  exact fin_ret (v := (B true)) (results_ok Tryz.results6 (res_tmp (v := (B true)) rfl res_nil) rfl) ⟨rfl, rfl⟩ (H.sel' [] rfl rfl)
 ·replace h := bif_f hb1 h
  refine c_skip (q_then (c_seq (rg (sm (Sl Ai Ah Aj) rfl ?_))))
  revert h; refine br fun r2 hx3 h => ?_
  have hc4 := c_spec_DrawProbeNearest (Ai := Ai) (Aj := Aj) hx3
  refine st_call (cx_call hc4 (ent_f hc4.fn rfl) hn0 (H.sel' [0, 0] rfl rfl : Hp S0 σ0 _ ([_] ++ _))) wn ?_
  rintro _ σ11 ⟨_, ⟨a5, c6, a7, c8, a9, c10, rfl, rfl⟩, H, -⟩
  replace H : Hp _ _ _ [_, _, _, _] := H
  refine sm (.tuple #[(Sl a5 r2.1 c6), (Sl a7 r2.2.1 c8), (Sl a9 r2.2.2.1 c10), (I r2.2.2.2.1), (I r2.2.2.2.2)]) rfl (st (v := (Sl a5 r2.1 c6)) (rv_extract rfl rfl) (st (v := (Sl a7 r2.2.1 c8)) (rv_extract rfl rfl) (st (v := (Sl a9 r2.2.2.1 c10)) (rv_extract rfl rfl) (st (v := (I r2.2.2.2.1)) (rv_extract rfl rfl) (st (v := (I r2.2.2.2.2)) (rv_extract rfl rfl) (sa (Sl a5 r2.1 c6) rfl (sa (Sl a7 r2.2.1 c8) rfl (sa (Sl a9 r2.2.2.1 c10) rfl (sa (I r2.2.2.2.1) rfl (sa (I r2.2.2.2.2) rfl (w_end ?_)))))))))))
  refine q_then (c_seq (rg (sm (Sl a5 r2.1 c6) rfl (sm (Sl a7 r2.2.1 c8) rfl (sm (Sl a9 r2.2.2.1 c10) rfl (sm (I r2.2.2.2.1) rfl (sm (I r2.2.2.2.2) rfl ?_)))))))
  revert h; refine br fun r12 hx13 h => ?_
  have hc14 := c_impl_ProbeNearest (Fn := a5) (Fo := c6) (Ax := a7) (Ay := c8) (Bu := a9) (Bv := c10) hx13
  have hle := Nat.le_trans hn0 H.size
  refine st_call (cx_lend (Loan.lend (Loan.lend (Loan.lend Loan.nil))) hc14 (ent_f hc14.fn rfl) (show Hp S0 σ0 _ ([Ch.own n0 n0 (Sl a5 r2.1 c6) r2.1, Ch.own n0 n0 (Sl a7 r2.2.1 c8) r2.2.1, Ch.own n0 n0 (Sl a9 r2.2.2.1 c10) r2.2.2.1] ++ ([] ++ [Ch.ro 0 (Sl Ai Ah Aj) Ah])) from (H.sel' [0, 1, 2, 3] rfl rfl)) (by rintro _ _ _ ⟨_, _, rfl, rfl⟩; exact ⟨Ab.ownSc, trivial⟩)) wn ?_
  rintro _ σ17 ⟨_, ⟨a15, c16, rfl, rfl⟩, H, -, -⟩
  replace H : Hp _ _ _ [_, _, _, _, _] := H
  replace H := H.ownLow 0 0 n0 rfl (Nat.le_refl _) hle
  clear hle
  replace H : Hp _ _ _ [_, _, _, _, _] := H
  refine sa (Sl a15 r12 c16) rfl (w_end (q_then (c_seq (c_seq ?_))))
  obtain ⟨o18, hj, h'⟩ := bind_some h
  clear h
  refine c_cut (fun e a w => e = .normal ∧ ∃ (ρ : Nat → Value) (σ : St), a = fr 76 (updL ρ [(3, (Sl a5 r2.1 c6)), (4, (Sl a7 r2.2.1 c8)), (5, (Sl a9 r2.2.2.1 c10)), (6, (I r2.2.2.2.1)), (7, (I r2.2.2.2.2)), (8, (Sl a15 r12 c16)), (44, (B o18))]) ∧ w = σ.w ∧ Hp S0 σ0 σ [Ch.own n0 n0 (Sl a5 r2.1 c6) r2.1, Ch.own n0 n0 (Sl a7 r2.2.1 c8) r2.2.1, Ch.own n0 n0 (Sl a9 r2.2.2.1 c10) r2.2.2.1, Ch.own 0 n0 (Sl a15 r12 c16) r12]) ?_ ?_
  ·clear h'
   rename _ = some o18 => h
   refine rg (sm (Sl a15 r12 c16) rfl (sm (Sl a5 r2.1 c6) rfl (sm (Sl a7 r2.2.1 c8) rfl (sm (Sl a9 r2.2.2.1 c10) rfl (sm (I r2.2.2.2.1) rfl (sm (I r2.2.2.2.2) rfl ?_))))))
   revert h; refine br fun r19 hx20 h => ?_
   have hc21 := c_spec_ProbeNearest (Fn := a5) (Fo := c6) (Ax := a7) (Ay := c8) (Bu := a9) (Bv := c10) hx20
   have hle := Nat.le_trans hn0 H.size
   refine st_call (cx_lend (Loan.lend (Loan.lend (Loan.lend Loan.nil))) hc21 (ent_f hc21.fn rfl) (show Hp S0 σ0 _ ([Ch.own n0 n0 (Sl a5 r2.1 c6) r2.1, Ch.own n0 n0 (Sl a7 r2.2.1 c8) r2.2.1, Ch.own n0 n0 (Sl a9 r2.2.2.1 c10) r2.2.2.1] ++ ([] ++ [Ch.own 0 n0 (Sl a15 r12 c16) r12, Ch.ro 0 (Sl Ai Ah Aj) Ah])) from (H.sel' [1, 2, 3, 0, 4] rfl rfl)) (by rintro _ _ _ ⟨_, _, rfl, rfl⟩; exact ⟨Ab.ownSc, trivial⟩)) wn ?_
   rintro _ σ24 ⟨_, ⟨a22, c23, rfl, rfl⟩, H, -, -⟩
   replace H : Hp _ _ _ [_, _, _, _, _, _] := H
   replace H := H.ownLow 0 n0 n0 rfl hle hle
   clear hle
   replace H : Hp _ _ _ [_, _, _, _, _, _] := H
   obtain ⟨σ25, hw26, H, -⟩ := H.pub 0 rfl (Nat.le_refl _)
   rw [← hw26]; clear hw26
   replace H := H.roLow 0 0 rfl (Nat.zero_le _)
   revert h; refine br fun r27 hx28 h => ?_
   have hc29 := c_laws_equalHits (Ad := a15) (Ae := c16) (Af := a22) (Ag := c23) hx28
   have hle := Nat.le_trans hn0 H.size
   refine st_call (cx_lend (Loan.lend (Loan.same Loan.nil)) hc29 (ent_f hc29.fn rfl) (show Hp S0 σ0 _ ([Ch.own 0 n0 (Sl a15 r12 c16) r12] ++ ([Ch.ro 0 (Sl a22 r19 c23) r19] ++ [Ch.ro 0 (Sl a22 r19 c23) r19, Ch.ro n0 (Sl a22 r19 c23) r19, Ch.own n0 n0 (Sl a5 r2.1 c6) r2.1, Ch.own n0 n0 (Sl a7 r2.2.1 c8) r2.2.1, Ch.own n0 n0 (Sl a9 r2.2.2.1 c10) r2.2.2.1, Ch.ro 0 (Sl Ai Ah Aj) Ah])) from (H.sel' [5, 0, 0, 1, 2, 3, 4, 6] rfl rfl)) (by rintro _ _ _ ⟨rfl, rfl⟩; exact trivial)) wn ?_
   rintro _ σ30 ⟨_, ⟨rfl, rfl⟩, H, -, -⟩
   replace H : Hp _ _ _ [_, _, _, _, _, _, _] := H
   clear hle
   replace H : Hp _ _ _ [_, _, _, _, _, _, _] := H
   refine st (v := (B (!r27))) (rv_not rfl) (sm (B (!r27)) rfl ?_)
   rcases Bool.eq_false_or_eq_true (!r27) with hb31 | hb31
   ·replace h := bif_t hb31 h
    refine st_skip (congrArg some hb31) (st_skip (congrArg some hb31) (st_skip (congrArg some hb31) (st (v := (B true)) (rv_pick_t (congrArg B hb31) rfl) (sm (B true) rfl (st_skip rfl (st_skip rfl (st (v := (B true)) (rv_pick_t rfl rfl) (w_end ?_))))))))
    obtain rfl := sj h
    exact ⟨rfl, _, σ30, fr_join ⟨rfl, rfl, rfl, rfl, rfl, rfl, rfl, trivial⟩, rfl, H.sel' [3, 4, 5, 0] rfl rfl⟩
   ·replace h := bif_f hb31 h
    refine st_g (v := (Sl a15 r12 c16)) (congrArg some hb31) (rv_move rfl) (st_g (v := (I (r12.length : Int))) (congrArg some hb31) (rv_len Tryz.underlying27 rfl) (st_g (v := (B ((r12.length : Int) == 0))) (congrArg some hb31) (rv_eql (a := (r12.length : Int)) (b := 0) rfl rfl) (st (v := (B ((r12.length : Int) == 0))) (rv_pick_f (congrArg B hb31) rfl) (sm (B ((r12.length : Int) == 0)) rfl ?_))))
    rcases Bool.eq_false_or_eq_true ((r12.length : Int) == 0) with hb32 | hb32
    ·replace h := bif_t hb32 h
     refine st_skip (congrArg some hb32) (st_skip (congrArg some hb32) (st (v := (B true)) (rv_pick_t (congrArg B hb32) rfl) (w_end ?_)))
     obtain rfl := sj h
     exact ⟨rfl, _, σ30, fr_join ⟨rfl, rfl, rfl, rfl, rfl, rfl, rfl, trivial⟩, rfl, H.sel' [3, 4, 5, 0] rfl rfl⟩
    ·replace h := bif_f hb32 h
     refine st_g (v := (I r2.2.2.2.1)) (congrArg some hb32) (rv_move rfl) (st_g (v := (B (r2.2.2.2.1 == 4))) (congrArg some hb32) (rv_eql (a := r2.2.2.2.1) (b := 4) rfl rfl) (st (v := (B (r2.2.2.2.1 == 4))) (rv_pick_f (congrArg B hb32) rfl) (w_end ?_)))
     obtain rfl := sj h
     exact ⟨rfl, _, σ30, fr_join ⟨rfl, rfl, rfl, rfl, rfl, rfl, rfl, trivial⟩, rfl, H.sel' [3, 4, 5, 0] rfl rfl⟩
  ·clear hj
   have h := h'
   clear h' H
   rintro e a w ⟨rfl, ρ, σ33, rfl, rfl, H⟩
   refine q_then ?_
   refine cd_cond o18 rfl (fun hb34 => ?_) (fun hb34 => ?_)
   ·replace h := bif_t hb34 h
    refine c_seq (rg (sm (Sl a15 r12 c16) rfl (sm (Sl a5 r2.1 c6) rfl (sm (Sl a7 r2.2.1 c8) rfl (sm (Sl a9 r2.2.2.1 c10) rfl (sm (I r2.2.2.2.1) rfl (sm (I r2.2.2.2.2) rfl ?_)))))))
    obtain ⟨σ35, hw36, H, -⟩ := H.pub 0 rfl (Nat.le_refl _)
    rw [← hw36]; clear hw36
    obtain ⟨σ37, hw38, H, -⟩ := H.pub 1 rfl (Nat.le_refl _)
    rw [← hw38]; clear hw38
    obtain ⟨σ39, hw40, H, -⟩ := H.pub 2 rfl (Nat.le_refl _)
    rw [← hw40]; clear hw40
    replace H := H.roLow 2 0 rfl (Nat.zero_le _)
    replace H := H.roLow 2 0 rfl (Nat.zero_le _)
    replace H := H.roLow 2 0 rfl (Nat.zero_le _)
    revert h; refine br fun r41 hx42 h => ?_
    have hc43 := c_spec_ProbeNearest (Fn := a5) (Fo := c6) (Ax := a7) (Ay := c8) (Bu := a9) (Bv := c10) hx42
    refine st_call (cx_call hc43 (ent_f hc43.fn rfl) hn0 (H.sel' [2, 1, 0, 0, 1, 2, 3, 4, 5, 6] rfl rfl : Hp S0 σ0 _ ([_, _, _] ++ _))) wn ?_
    rintro _ σ46 ⟨_, ⟨a44, c45, rfl, rfl⟩, H, -⟩
    replace H : Hp _ _ _ [_, _, _, _, _, _, _, _] := H
    replace H : Hp S0 σ0 σ46 [Ch.own n0 n0 (Sl a44 r41 c45) r41, Ch.own 0 n0 (Sl a15 r12 c16) r12] := H.sel' [0, 7] rfl rfl
    replace H := H.ownLow 1 0 0 rfl (Nat.le_refl _) (Nat.zero_le _)
    obtain ⟨σ47, hw48, H, -⟩ := H.pub 0 rfl (Nat.le_refl _)
    rw [← hw48]; clear hw48
    obtain ⟨σ49, hw50, H, -⟩ := H.pub 1 rfl (Nat.le_refl _)
    rw [← hw50]; clear hw50
    replace H := H.roLow 0 0 rfl (Nat.zero_le _)
    revert h; refine br fun r51 hx52 h => ?_
    have hc53 := c_laws_equalHits (Ad := a15) (Ae := c16) (Af := a44) (Ag := c45) hx52
    refine st_call (cx_call hc53 (ent_f hc53.fn rfl) hn0 (H.sel' [2, 0, 0, 1, 2] rfl rfl : Hp S0 σ0 _ ([_, _] ++ _))) wn ?_
    rintro _ σ54 ⟨_, ⟨rfl, rfl⟩, H, -⟩
    replace H : Hp _ _ _ [_, _, _] := H
    refine sa (B r51) rfl (w_end (q_then (c_ret (q_then_r ?_))))
    obtain rfl := sj h
    exact fin_ret (v := (B r51)) (results_ok Tryz.results6 (res_tmp (v := (B r51)) rfl res_nil) rfl) ⟨rfl, rfl⟩ (H.sel' [] rfl rfl)
   ·replace h := bif_f hb34 h
    refine c_skip (q_then (c_seq (rg (sm (Sl a5 r2.1 c6) rfl (sm (Sl a7 r2.2.1 c8) rfl (sm (Sl a9 r2.2.2.1 c10) rfl (sm (I r2.2.2.2.1) rfl (st (v := (I (w64 (r2.2.2.2.1 + 1)))) (rv_add (a := r2.2.2.2.1) (b := 1) rfl rfl) (sm (I r2.2.2.2.2) rfl ?_)))))))))
    obtain ⟨σ55, hw56, H, -⟩ := H.pub 0 rfl (Nat.le_refl _)
    rw [← hw56]; clear hw56
    obtain ⟨σ57, hw58, H, -⟩ := H.pub 1 rfl (Nat.le_refl _)
    rw [← hw58]; clear hw58
    obtain ⟨σ59, hw60, H, -⟩ := H.pub 2 rfl (Nat.le_refl _)
    rw [← hw60]; clear hw60
    replace H := H.roLow 2 0 rfl (Nat.zero_le _)
    replace H := H.roLow 2 0 rfl (Nat.zero_le _)
    replace H := H.roLow 2 0 rfl (Nat.zero_le _)
    revert h; refine br fun r61 hx62 h => ?_
    have hc63 := c_impl_ProbeNearest (Fn := a5) (Fo := c6) (Ax := a7) (Ay := c8) (Bu := a9) (Bv := c10) hx62
    refine st_call (cx_call hc63 (ent_f hc63.fn rfl) hn0 (H.sel' [2, 1, 0, 0, 1, 2, 3, 4, 5, 6] rfl rfl : Hp S0 σ0 _ ([_, _, _] ++ _))) wn ?_
    rintro _ σ66 ⟨_, ⟨a64, c65, rfl, rfl⟩, H, -⟩
    replace H : Hp _ _ _ [_, _, _, _, _, _, _, _] := H
    replace H : Hp S0 σ0 σ66 [Ch.own 0 n0 (Sl a64 r61 c65) r61, Ch.own 0 n0 (Sl a15 r12 c16) r12] := H.sel' [0, 7] rfl rfl
    refine sa (Sl a64 r61 c65) rfl (w_end (q_then (c_seq ?_)))
    refine rgP (σ := σ66) 14 (by kernel_rfl) (by kernel_rfl) (by kernel_rfl) ?_
    refine sq (v := (Sl a64 r61 c65)) (rv_move rfl) (sq (v := (I (r61.length : Int))) (rv_len Tryz.underlying27 rfl) (sq (v := (Sl a15 r12 c16)) (rv_move rfl) (sq (v := (I (r12.length : Int))) (rv_len Tryz.underlying27 rfl) (sq (v := (B (decide ((r12.length : Int) ≤ (r61.length : Int))))) (rv_geq (a := (r61.length : Int)) (b := (r12.length : Int)) rfl rfl) (sq (v := (B (decide ((r12.length : Int) ≤ (r61.length : Int))))) (rv_move rfl) ?_)))))
    rcases Bool.eq_false_or_eq_true (decide ((r12.length : Int) ≤ (r61.length : Int))) with hb67 | hb67
    ·replace h := bif_t hb67 h
     refine sq_g (v := (Sl a64 r61 c65)) (congrArg some hb67) (rv_move rfl) ?_
     revert h; refine br fun x68 hx69 h => ?_
     obtain ⟨b71, o72, hi70, -⟩ := (H.own 0 rfl).ix hx69
     refine sq_g (v := (pt b71 o72)) (congrArg some hb67) (rv_ix Tryz.underlying27 ti38 rfl rfl hi70) (sq_g (v := (pt b71 (o72 + 1))) (congrArg some hb67) (rv_fieldAddr (off := 1) (ft := 3) Tryz.underlying38 rfl ti3 rfl rfl) ?_)
     have hc73 := ((H.own 0 rfl).at hx69 hi70).snd.int
     refine sq_g (v := (I x68.2)) (congrArg some hb67) (rv_load1 Tryz.underlying3 rfl rfl hc73) (sq_g (v := (Sl a15 r12 c16)) (congrArg some hb67) (rv_move rfl) ?_)
     revert h; refine br fun x74 hx75 h => ?_
     obtain ⟨b77, o78, hi76, -⟩ := (H.own 1 rfl).ix hx75
     refine sq_g (v := (pt b77 o78)) (congrArg some hb67) (rv_ix Tryz.underlying27 ti38 rfl rfl hi76) (sq_g (v := (pt b77 (o78 + 1))) (congrArg some hb67) (rv_fieldAddr (off := 1) (ft := 3) Tryz.underlying38 rfl ti3 rfl rfl) ?_)
     have hc79 := ((H.own 1 rfl).at hx75 hi76).snd.int
     refine sq_g (v := (I x74.2)) (congrArg some hb67) (rv_load1 Tryz.underlying3 rfl rfl hc79) (sq_end ?_)
     intro σ80 hm81
     replace H := H.grow (hm81.mono fun _ h => h); clear hm81
     refine st_g (v := (B (decide (x68.2 ≤ x74.2)))) (congrArg some hb67) (rv_leq (a := x68.2) (b := x74.2) rfl rfl) (st (v := (B (decide (x68.2 ≤ x74.2)))) (rv_pick_t (congrArg B hb67) rfl) (sa (B (decide (x68.2 ≤ x74.2))) rfl (w_end (q_then (c_ret ?_)))))
     obtain rfl := sj h
     exact fin_ret (v := (B (decide (x68.2 ≤ x74.2)))) (results_ok Tryz.results6 (res_tmp (v := (B (decide (x68.2 ≤ x74.2)))) rfl res_nil) rfl) ⟨rfl, rfl⟩ (H.sel' [] rfl rfl)
    ·replace h := bif_f hb67 h
     refine sq_skip (congrArg some hb67) (sq_skip (congrArg some hb67) (sq_skip (congrArg some hb67) (sq_skip (congrArg some hb67) (sq_skip (congrArg some hb67) (sq_skip (congrArg some hb67) (sq_skip (congrArg some hb67) (sq_skip (congrArg some hb67) (sq_end ?_))))))))
     intro σ82 hm83
     replace H := H.grow (hm83.mono fun _ h => h); clear hm83
     refine st_skip (congrArg some hb67) (st (v := (B false)) (rv_pick_f (congrArg B hb67) rfl) (sa (B false) rfl (w_end (q_then (c_ret ?_)))))
     obtain rfl := sj h
     exact fin_ret (v := (B false)) (results_ok Tryz.results6 (res_tmp (v := (B false)) rfl res_nil) rfl) ⟨rfl, rfl⟩ (H.sel' [] rfl rfl)

end Go.Vs
