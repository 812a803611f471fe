/- The functions compute what their models say. -/
import Derived.Test.YtnkflplbeagljaaGreatKWithinDistC4
set_option linter.unusedVariables false
set_option linter.unusedSimpArgs false
set_option maxRecDepth 20000
namespace Go.Vs
open Go Go.Proofs
attribute [local irreducible] Code.wp Code.wpIn wpList wpListIn wpQuiet Calls CallsIn

theorem c_laws_FnWithinDist {Aa : List UInt8} {Ac : Option Addr} {Ad : Nat} {r : Bool} (h : M.laws_FnWithinDist Aa = some r) :
    Cal2 Tryz.prog 3 [(Sl Ac Aa Ad)] [Ch.ro 0 (Sl Ac Aa Ad) Aa] (fun n0 v L => v = (B r) ∧ L = []) := by
 refine cal2 (n := 78) Tryz.func3 rfl rfl rfl rfl ?_
 intro S0 σ0 n0 hn0 H
 unfold M.laws_FnWithinDist at h
 refine c_seq (rg (sa (B false) rfl (w_end (q_then (c_seq (c_seq (rg (sm (Sl Ac Aa Ad) rfl (st (v := (I (Aa.length : Int))) (rv_len Tryz.underlying22 rfl) (st (v := (B (decide (1048576 < (Aa.length : Int))))) (rv_gtr (a := (Aa.length : Int)) (b := 1048576) rfl rfl) (w_end ?_)))))))))))
 refine q_then ?_
 refine cd_cond (decide (1048576 < (Aa.length : Int))) rfl (fun hb1 => ?_) (fun hb1 => ?_)
 ·replace h := bif_t hb1 h
  refine c_seq (rg (sa (B true) rfl (w_end (q_then (c_ret (q_then_r ?_))))))
  obtain rfl := sj h
  exact fin_ret (v := (B true)) (results_ok Tryz.results3 (res_tmp (v := (B true)) rfl res_nil) rfl) ⟨rfl, rfl⟩ (H.sel' [] rfl rfl)
 ·replace h := bif_f hb1 h
  refine c_skip (q_then (c_seq (rg (sm (Sl Ac Aa Ad) rfl ?_))))
  revert h; refine br fun r2 hx3 h => ?_
  have hc4 := c_spec_DrawWithinDist (Ac := Ac) (Ad := Ad) hx3
  refine st_call (cx_call hc4 (ent_f hc4.fn rfl) hn0 (H.sel' [0, 0] rfl rfl : Hp S0 σ0 _ ([_] ++ _))) wn ?_
  rintro _ σ9 ⟨_, ⟨a5, c6, a7, c8, rfl, rfl⟩, H, -⟩
  replace H : Hp _ _ _ [_, _, _] := H
  refine sm (.tuple #[(Sl a5 r2.1 c6), (I r2.2.1), (Sl a7 r2.2.2.1 c8), (I r2.2.2.2)]) rfl (st (v := (Sl a5 r2.1 c6)) (rv_extract rfl rfl) (st (v := (I r2.2.1)) (rv_extract rfl rfl) (st (v := (Sl a7 r2.2.2.1 c8)) (rv_extract rfl rfl) (st (v := (I r2.2.2.2)) (rv_extract rfl rfl) (sa (Sl a5 r2.1 c6) rfl (sa (I r2.2.1) rfl (sa (Sl a7 r2.2.2.1 c8) rfl (sa (I r2.2.2.2) rfl (w_end (q_then (c_seq ?_)))))))))))
  refine rg (sm (Sl a5 r2.1 c6) rfl (sm (I r2.2.1) rfl (sm (Sl a7 r2.2.2.1 c8) rfl (sm (I r2.2.2.2) rfl ?_))))
  revert h; refine br fun r10 hx11 h => ?_
  have hc12 := c_impl_WithinDist (Au := a5) (Av := c6) (Bt := a7) (Bu := c8) hx11
  have hle := Nat.le_trans hn0 H.size
  refine st_call (cx_lend (Loan.lend (Loan.lend Loan.nil)) hc12 (ent_f hc12.fn rfl) (show Hp S0 σ0 _ ([Ch.own n0 n0 (Sl a5 r2.1 c6) r2.1, Ch.own n0 n0 (Sl a7 r2.2.2.1 c8) r2.2.2.1] ++ ([] ++ [Ch.ro 0 (Sl Ac Aa Ad) Aa])) from (H.sel' [0, 1, 2] rfl rfl)) (by rintro _ _ _ ⟨_, _, rfl, rfl⟩; exact ⟨Ab.ownSc, trivial⟩)) wn ?_
  rintro _ σ15 ⟨_, ⟨a13, c14, rfl, rfl⟩, H, -, -⟩
  replace H : Hp _ _ _ [_, _, _, _] := H
  replace H := H.ownLow 0 0 n0 rfl (Nat.le_refl _) hle
  clear hle
  replace H : Hp _ _ _ [_, _, _, _] := H
  refine sa (Sl a13 r10 c14) rfl (w_end (q_then (c_seq (c_seq ?_))))
  obtain ⟨o16, hj, h'⟩ := bind_some h
  clear h
  refine c_cut (fun e a w => e = .normal ∧ ∃ (ρ : Nat → Value) (σ : St), a = fr 78 (updL ρ [(3, (Sl a5 r2.1 c6)), (4, (I r2.2.1)), (5, (Sl a7 r2.2.2.1 c8)), (6, (I r2.2.2.2)), (7, (Sl a13 r10 c14)), (43, (B o16))]) ∧ w = σ.w ∧ Hp S0 σ0 σ [Ch.own n0 n0 (Sl a5 r2.1 c6) r2.1, Ch.own n0 n0 (Sl a7 r2.2.2.1 c8) r2.2.2.1, Ch.own 0 n0 (Sl a13 r10 c14) r10]) ?_ ?_
  ·clear h'
   rename _ = some o16 => h
   refine rg (sm (Sl a13 r10 c14) rfl (sm (Sl a5 r2.1 c6) rfl (sm (I r2.2.1) rfl (sm (Sl a7 r2.2.2.1 c8) rfl (sm (I r2.2.2.2) rfl ?_)))))
   revert h; refine br fun r17 hx18 h => ?_
   have hc19 := c_spec_WithinDist (Au := a5) (Av := c6) (Bt := a7) (Bu := c8) hx18
   have hle := Nat.le_trans hn0 H.size
   refine st_call (cx_lend (Loan.lend (Loan.lend Loan.nil)) hc19 (ent_f hc19.fn rfl) (show Hp S0 σ0 _ ([Ch.own n0 n0 (Sl a5 r2.1 c6) r2.1, Ch.own n0 n0 (Sl a7 r2.2.2.1 c8) r2.2.2.1] ++ ([] ++ [Ch.own 0 n0 (Sl a13 r10 c14) r10, Ch.ro 0 (Sl Ac Aa Ad) Aa])) from (H.sel' [1, 2, 0, 3] rfl rfl)) (by rintro _ _ _ ⟨_, _, rfl, rfl⟩; exact ⟨Ab.ownSc, trivial⟩)) wn ?_
   rintro _ σ22 ⟨_, ⟨a20, c21, rfl, rfl⟩, H, -, -⟩
   replace H : Hp _ _ _ [_, _, _, _, _] := H
   replace H := H.ownLow 0 n0 n0 rfl hle hle
   clear hle
   replace H : Hp _ _ _ [_, _, _, _, _] := H
   obtain ⟨σ23, hw24, H, -⟩ := H.pub 0 rfl (Nat.le_refl _)
   rw [← hw24]; clear hw24
   replace H := H.roLow 0 0 rfl (Nat.zero_le _)
   revert h; refine br fun r25 hx26 h => ?_
   have hc27 := c_laws_equalHits (Ga := a13) (Gb := c14) (Gc := a20) (Gd := c21) hx26
   have hle := Nat.le_trans hn0 H.size
   refine st_call (cx_lend (Loan.lend (Loan.same Loan.nil)) hc27 (ent_f hc27.fn rfl) (show Hp S0 σ0 _ ([Ch.own 0 n0 (Sl a13 r10 c14) r10] ++ ([Ch.ro 0 (Sl a20 r17 c21) r17] ++ [Ch.ro 0 (Sl a20 r17 c21) r17, Ch.ro n0 (Sl a20 r17 c21) r17, Ch.own n0 n0 (Sl a5 r2.1 c6) r2.1, Ch.own n0 n0 (Sl a7 r2.2.2.1 c8) r2.2.2.1, Ch.ro 0 (Sl Ac Aa Ad) Aa])) from (H.sel' [4, 0, 0, 1, 2, 3, 5] rfl rfl)) (by rintro _ _ _ ⟨rfl, rfl⟩; exact trivial)) wn ?_
   rintro _ σ28 ⟨_, ⟨rfl, rfl⟩, H, -, -⟩
   replace H : Hp _ _ _ [_, _, _, _, _, _] := H
   clear hle
   replace H : Hp _ _ _ [_, _, _, _, _, _] := H
   refine st (v := (B (!r25))) (rv_not rfl) (sm (B (!r25)) rfl ?_)
   rcases Bool.eq_false_or_eq_true (!r25) with hb29 | hb29
   ·replace h := bif_t hb29 h
    refine st_skip (congrArg some hb29) (st_skip (congrArg some hb29) (st_skip (congrArg some hb29) (st_skip (congrArg some hb29) (st_skip (congrArg some hb29) (st_skip (congrArg some hb29) (st (v := (B true)) (rv_pick_t (congrArg B hb29) rfl) (sm (B true) rfl (st_skip rfl (st_skip rfl (st (v := (B true)) (rv_pick_t rfl rfl) (w_end ?_)))))))))))
    obtain rfl := sj h
    exact ⟨rfl, _, σ28, fr_join ⟨rfl, rfl, rfl, rfl, rfl, rfl, trivial⟩, rfl, H.sel' [3, 4, 0] rfl rfl⟩
   ·replace h := bif_f hb29 h
    refine st_g (v := (Sl a5 r2.1 c6)) (congrArg some hb29) (rv_move rfl) (st_g (v := (I r2.2.1)) (congrArg some hb29) (rv_move rfl) (st_g (v := (Sl a7 r2.2.2.1 c8)) (congrArg some hb29) (rv_move rfl) ?_))
    revert h; refine br fun r30 hx31 h => ?_
    have hc32 := c_impl_Nearest (Au := a5) (Av := c6) (Bt := a7) (Bu := c8) hx31
    have hle := Nat.le_trans hn0 H.size
    refine st_call (cx_lend (Loan.lend (Loan.lend Loan.nil)) hc32 (ent_f hc32.fn rfl) (show Hp S0 σ0 _ ([Ch.own n0 n0 (Sl a5 r2.1 c6) r2.1, Ch.own n0 n0 (Sl a7 r2.2.2.1 c8) r2.2.2.1] ++ ([] ++ [Ch.own 0 n0 (Sl a13 r10 c14) r10, Ch.ro 0 (Sl a20 r17 c21) r17, Ch.ro n0 (Sl a20 r17 c21) r17, Ch.ro 0 (Sl Ac Aa Ad) Aa])) from (H.sel' [3, 4, 0, 1, 2, 5] rfl rfl)) (by rintro _ _ _ ⟨_, _, rfl, rfl⟩; exact ⟨Ab.ownSc, trivial⟩)) (wanted_yes rfl (by exact (congrArg some hb29))) ?_
    rintro _ σ35 ⟨_, ⟨a33, c34, rfl, rfl⟩, H, -, -⟩
    replace H : Hp _ _ _ [_, _, _, _, _, _, _] := H
    replace H := H.ownLow 0 0 n0 rfl (Nat.le_refl _) hle
    clear hle
    replace H : Hp _ _ _ [_, _, _, _, _, _, _] := H
    refine st_g (v := (I (r30.length : Int))) (congrArg some hb29) (rv_len Tryz.underlying27 rfl) (st_g (v := (B ((r30.length : Int) == 0))) (congrArg some hb29) (rv_eql (a := (r30.length : Int)) (b := 0) rfl rfl) (st (v := (B ((r30.length : Int) == 0))) (rv_pick_f (congrArg B hb29) rfl) (sm (B ((r30.length : Int) == 0)) rfl ?_)))
    rcases Bool.eq_false_or_eq_true ((r30.length : Int) == 0) with hb36 | hb36
    ·replace h := bif_t hb36 h
     refine st_skip (congrArg some hb36) (st_skip (congrArg some hb36) (st (v := (B true)) (rv_pick_t (congrArg B hb36) rfl) (w_end ?_)))
     obtain rfl := sj h
     exact ⟨rfl, _, σ35, fr_join ⟨rfl, rfl, rfl, rfl, rfl, rfl, trivial⟩, rfl, H.sel' [1, 2, 3] rfl rfl⟩
    ·replace h := bif_f hb36 h
     refine st_g (v := (I r2.2.2.2)) (congrArg some hb36) (rv_move rfl) (st_g (v := (B (decide (r2.2.2.2 < 0)))) (congrArg some hb36) (rv_lss (a := r2.2.2.2) (b := 0) rfl rfl) (st (v := (B (decide (r2.2.2.2 < 0)))) (rv_pick_f (congrArg B hb36) rfl) (w_end ?_)))
     obtain rfl := sj h
     exact ⟨rfl, _, σ35, fr_join ⟨rfl, rfl, rfl, rfl, rfl, rfl, trivial⟩, rfl, H.sel' [1, 2, 3] rfl rfl⟩
  ·clear hj
   have h := h'
   clear h' H
   rintro e a w ⟨rfl, ρ, σ37, rfl, rfl, H⟩
   refine q_then ?_
   refine cd_cond o16 rfl (fun hb38 => ?_) (fun hb38 => ?_)
   ·replace h := bif_t hb38 h
    refine c_seq (rg (sm (Sl a13 r10 c14) rfl (sm (Sl a5 r2.1 c6) rfl (sm (I r2.2.1) rfl (sm (Sl a7 r2.2.2.1 c8) rfl (sm (I r2.2.2.2) rfl ?_))))))
    obtain ⟨σ39, hw40, H, -⟩ := H.pub 0 rfl (Nat.le_refl _)
    rw [← hw40]; clear hw40
    obtain ⟨σ41, hw42, H, -⟩ := H.pub 1 rfl (Nat.le_refl _)
    rw [← hw42]; clear hw42
    replace H := H.roLow 1 0 rfl (Nat.zero_le _)
    replace H := H.roLow 1 0 rfl (Nat.zero_le _)
    revert h; refine br fun r43 hx44 h => ?_
    have hc45 := c_spec_WithinDist (Au := a5) (Av := c6) (Bt := a7) (Bu := c8) hx44
    refine st_call (cx_call hc45 (ent_f hc45.fn rfl) hn0 (H.sel' [1, 0, 0, 1, 2, 3, 4] rfl rfl : Hp S0 σ0 _ ([_, _] ++ _))) wn ?_
    rintro _ σ48 ⟨_, ⟨a46, c47, rfl, rfl⟩, H, -⟩
    replace H : Hp _ _ _ [_, _, _, _, _, _] := H
    replace H := H.ownLow 5 0 0 rfl (Nat.le_refl _) (Nat.zero_le _)
    obtain ⟨σ49, hw50, H, -⟩ := H.pub 0 rfl (Nat.le_refl _)
    rw [← hw50]; clear hw50
    obtain ⟨σ51, hw52, H, -⟩ := H.pub 1 rfl (Nat.le_refl _)
    rw [← hw52]; clear hw52
    replace H := H.roLow 0 0 rfl (Nat.zero_le _)
    revert h; refine br fun r53 hx54 h => ?_
    have hc55 := c_laws_equalHits (Ga := a13) (Gb := c14) (Gc := a46) (Gd := c47) hx54
    refine st_call (cx_call hc55 (ent_f hc55.fn rfl) hn0 (H.sel' [2, 0, 0, 1, 2, 3, 4, 5, 6] rfl rfl : Hp S0 σ0 _ ([_, _] ++ _))) wn ?_
    rintro _ σ56 ⟨_, ⟨rfl, rfl⟩, H, -⟩
    replace H : Hp _ _ _ [_, _, _, _, _, _, _] := H
    refine sa (B r53) rfl (w_end (q_then (c_ret (q_then_r ?_))))
    obtain rfl := sj h
    exact fin_ret (v := (B r53)) (results_ok Tryz.results3 (res_tmp (v := (B r53)) rfl res_nil) rfl) ⟨rfl, rfl⟩ (H.sel' [] rfl rfl)
   ·replace h := bif_f hb38 h
    refine c_skip (q_then (c_seq (c_seq (rg (sa (I 0) rfl (w_end (q_then ?_)))))))
    obtain ⟨o57, hj, h'⟩ := bind_some h
    clear h
    refine c_cut (fun e a w => (∃ t, o57 = (.inl t) ∧ e = .normal ∧ ∃ (ρ : Nat → Value) (σ : St), a = fr 78 (updL ρ [(7, (Sl a13 r10 c14))]) ∧ w = σ.w ∧ Hp S0 σ0 σ [Ch.ro 0 (Sl a13 r10 c14) r10]) ∨ (∃ t, o57 = (.inr t) ∧ e = .ret ∧ ∃ (ρ : Nat → Value) (σ : St), a = fr 78 (updL ρ [(2, (B t))]) ∧ w = σ.w ∧ Hp S0 σ0 σ [])) ?_ ?_
    ·clear h'
     rename _ = some o57 => h
     refine c_blk ?_
     obtain ⟨σ59, hw60, H, -⟩ := H.pub 0 rfl (Nat.le_refl _)
     rw [← hw60]; clear hw60
     obtain ⟨σ61, hw62, H, -⟩ := H.pub 1 rfl (Nat.le_refl _)
     rw [← hw62]; clear hw62
     replace H := H.ownLow 2 0 0 rfl (Nat.le_refl _) (Nat.zero_le _)
     obtain ⟨σ63, hw64, H, -⟩ := H.pub 0 rfl (Nat.le_refl _)
     rw [← hw64]; clear hw64
     refine wp_loopM _ h (fun s58 a w => ∃ (ρ : Nat → Value) (σ : St), a = fr 78 (updL ρ [(3, (Sl a5 r2.1 c6)), (4, (I r2.2.1)), (5, (Sl a7 r2.2.2.1 c8)), (6, (I r2.2.2.2)), (7, (Sl a13 r10 c14)), (8, (I s58))]) ∧ w = σ.w ∧ Hp S0 σ0 σ [Ch.ro n0 (Sl a5 r2.1 c6) r2.1, Ch.ro n0 (Sl a7 r2.2.2.1 c8) r2.2.2.1, Ch.ro 0 (Sl a13 r10 c14) r10]) ⟨_, σ63, fr_join ⟨rfl, rfl, rfl, rfl, rfl, rfl, trivial⟩, rfl, H.sel' [2, 1, 0] rfl rfl⟩ ?_
     clear h H
     rintro s58 a w o ⟨ρ, σ65, rfl, rfl, H⟩ h hres
     refine c_seq (c_seq (rg (sm (I s58) rfl (sm (Sl a5 r2.1 c6) rfl (st (v := (I (r2.1.length : Int))) (rv_len Tryz.underlying23 rfl) (st (v := (B (decide (s58 < (r2.1.length : Int))))) (rv_lss (a := s58) (b := (r2.1.length : Int)) rfl rfl) (w_end (q_then ?_))))))))
     refine cd_cond (decide (s58 < (r2.1.length : Int))) rfl (fun hb66 => ?_) (fun hb66 => ?_)
     ·replace h := bif_t hb66 h
      refine c_skip (q_then (c_seq (c_blk (c_seq ?_))))
      revert h; refine br fun r67 hx68 h => ?_
      have hc69 := c_laws_keys (Au := a13) (Av := c14) hx68
      revert h; refine br fun x72 hx73 h => ?_
      obtain ⟨b75, o76, hi74, -⟩ := (H.ro 0 rfl).ix hx73
      have hc77 := ((H.ro 0 rfl).at hx73 hi74).fst.int
      revert h; refine br fun r78 hx79 h => ?_
      have hc80 := fun (a70 : Option Addr) (c71 : Nat) => c_laws_isIn (Au := a70) (Av := c71) hx79
      revert h; refine br fun x81 hx82 h => ?_
      obtain ⟨b84, o85, hi83, -⟩ := (H.ro 0 rfl).ix hx82
      obtain ⟨v89, hc90, hR88⟩ := ((H.ro 0 rfl).at hx82 hi83).snd.fst.slice
      obtain ⟨a86, c87, rfl⟩ := hR88.isSl
      replace H := H.add (d := Ch.ro n0 (Sl a86 x81.2.1 c87) x81.2.1) hR88 (fun _ h => h)
      clear hR88
      replace H := H.roLow 0 0 rfl (Nat.zero_le _)
      replace H := H.roLow 3 0 rfl (Nat.zero_le _)
      revert h; refine br fun r91 hx92 h => ?_
      have hc93 := c_impl_Distance (Ed := a86) (Ee := c87) (Ef := a7) (Eg := c8) hx92
      have Hs := H
      refine rg2 (σ := σ65) (Nm := (Option Addr) × (Nat)) 17 [1, 7, 15] [[false, false, false], [true, false, false], [true, true, false], [true, true, true]] [[(0, 0)], [(0, 1)], [(0, 0), (1, 1)], [(0, 0), (1, 1)], [(0, 0), (1, 1)], [(0, 0), (1, 1)], [(0, 0), (1, 1)], [(1, 2)], [(0, 0), (1, 1), (2, 2)], [(0, 0), (1, 1), (2, 2)], [(0, 0), (1, 1), (2, 2)], [(0, 0), (1, 1), (2, 2)], [(0, 0), (1, 1), (2, 2)], [(0, 0), (1, 1), (2, 2)], [(0, 0), (1, 1), (2, 2)], [(2, 3)], [(0, 0), (1, 1), (2, 2), (3, 3)]] 3 [fun ((a70, c71) : (Option Addr) × (Nat)) => fun σm => Hp S0 σ0 σm [Ch.ro 0 (Sl a7 r2.2.2.1 c8) r2.2.2.1, Ch.ro 0 (Sl a86 x81.2.1 c87) x81.2.1, Ch.ro n0 (Sl a86 x81.2.1 c87) x81.2.1, Ch.ro n0 (Sl a5 r2.1 c6) r2.1, Ch.ro n0 (Sl a7 r2.2.2.1 c8) r2.2.2.1, Ch.ro 0 (Sl a13 r10 c14) r10] ∧ Md (cov []) σ65 σm, fun ((a70, c71) : (Option Addr) × (Nat)) => fun σm => Hp S0 σ0 σm [Ch.ro 0 (Sl a70 r67 c71) r67, Ch.ro 0 (Sl a7 r2.2.2.1 c8) r2.2.2.1, Ch.ro 0 (Sl a86 x81.2.1 c87) x81.2.1, Ch.ro n0 (Sl a86 x81.2.1 c87) x81.2.1, Ch.ro n0 (Sl a5 r2.1 c6) r2.1, Ch.ro n0 (Sl a7 r2.2.2.1 c8) r2.2.2.1, Ch.ro 0 (Sl a13 r10 c14) r10] ∧ Md (fun i => (cov []) i ∨ (fun i => (cov [Ch.ro 0 (Sl a13 r10 c14) r10]) i ∨ (fun b => blk (Sl a70 r67 c71) = some b) i) i) σ65 σm, fun ((a70, c71) : (Option Addr) × (Nat)) => fun σm => Hp S0 σ0 σm [Ch.ro 0 (Sl a70 r67 c71) r67, Ch.ro 0 (Sl a7 r2.2.2.1 c8) r2.2.2.1, Ch.ro 0 (Sl a86 x81.2.1 c87) x81.2.1, Ch.ro n0 (Sl a86 x81.2.1 c87) x81.2.1, Ch.ro n0 (Sl a5 r2.1 c6) r2.1, Ch.ro n0 (Sl a7 r2.2.2.1 c8) r2.2.2.1, Ch.ro 0 (Sl a13 r10 c14) r10] ∧ Md (fun i => (cov []) i ∨ (fun i => (cov [Ch.ro 0 (Sl a13 r10 c14) r10]) i ∨ (fun b => blk (Sl a70 r67 c71) = some b) i) i) σ65 σm, fun ((a70, c71) : (Option Addr) × (Nat)) => fun σm => Hp S0 σ0 σm [Ch.ro 0 (Sl a70 r67 c71) r67, Ch.ro 0 (Sl a7 r2.2.2.1 c8) r2.2.2.1, Ch.ro 0 (Sl a86 x81.2.1 c87) x81.2.1, Ch.ro n0 (Sl a86 x81.2.1 c87) x81.2.1, Ch.ro n0 (Sl a5 r2.1 c6) r2.1, Ch.ro n0 (Sl a7 r2.2.2.1 c8) r2.2.2.1, Ch.ro 0 (Sl a13 r10 c14) r10] ∧ Md (fun i => (cov []) i ∨ (fun i => (cov [Ch.ro 0 (Sl a13 r10 c14) r10]) i ∨ (fun b => blk (Sl a70 r67 c71) = some b) i) i) σ65 σm] [fun ((a70, c71) : (Option Addr) × (Nat)) => (Sl a13 r10 c14), fun ((a70, c71) : (Option Addr) × (Nat)) => (Sl a70 r67 c71), fun ((a70, c71) : (Option Addr) × (Nat)) => (Sl a5 r2.1 c6), fun ((a70, c71) : (Option Addr) × (Nat)) => (I s58), fun ((a70, c71) : (Option Addr) × (Nat)) => (pt b75 o76), fun ((a70, c71) : (Option Addr) × (Nat)) => (pt b75 (o76 + 0)), fun ((a70, c71) : (Option Addr) × (Nat)) => (I x72.1), fun ((a70, c71) : (Option Addr) × (Nat)) => (B r78), fun ((a70, c71) : (Option Addr) × (Nat)) => (I r2.2.1), fun ((a70, c71) : (Option Addr) × (Nat)) => (Sl a5 r2.1 c6), fun ((a70, c71) : (Option Addr) × (Nat)) => (I s58), fun ((a70, c71) : (Option Addr) × (Nat)) => (pt b84 o85), fun ((a70, c71) : (Option Addr) × (Nat)) => (pt b84 (o85 + 1)), fun ((a70, c71) : (Option Addr) × (Nat)) => (Sl a86 x81.2.1 c87), fun ((a70, c71) : (Option Addr) × (Nat)) => (Sl a7 r2.2.2.1 c8), fun ((a70, c71) : (Option Addr) × (Nat)) => (I r91), fun ((a70, c71) : (Option Addr) × (Nat)) => (I r2.2.2.2)] (none, 0) (by kernel_rfl) (by kernel_rfl) ?_ ?_ ?_
      ·intro σm m0
       exact ⟨H.grow (m0.mono fun _ h => h.elim), m0⟩
      ·refine ac rfl (by
         intro k; rintro ⟨a70, c71⟩ ρ σm hJ hoff hdep
         have e7 := look_off (N := 78) (hoff 7 rfl) rfl
         exact dp_v (v := (Sl a13 r10 c14)) wn (rv_move e7) rfl hJ) ?_
       refine all_cons (by
         refine ⟨?_, ?_⟩
         ·rintro ⟨a70, c71⟩ ρ σm hJ hoff hdep
          have e57 : look 78 ρ 57 = (Sl a13 r10 c14) := hdep 0 rfl rfl 57 rfl
          obtain ⟨H, m⟩ := id hJ
          refine dp_cx wn (cx_call hc69 (ent_f hc69.fn (by show [look 78 ρ 57] = _; rw [e57])) hn0 (H.sel' [5, 0, 1, 2, 3, 4, 5] rfl rfl : Hp S0 σ0 _ ([_] ++ _))) ?_
          rintro _ σq ⟨_, ⟨a70x, c71x, rfl, rfl⟩, H2, m2⟩
          obtain ⟨σr0, hwr0, H2, mr0⟩ := H2.pubSc 0 rfl
          exact ⟨_, (a70x, c71x), hwr0, rfl, ⟨H2.sel' [0, 1, 2, 3, 4, 5, 6] rfl rfl, m.comp (m2.comp mr0)⟩, stab [0, 2, 3, 4, 5, 6, 8, 9, 10, 11, 12, 13, 14, 16] (by kernel_rfl) ⟨rfl, rfl, rfl, rfl, rfl, rfl, rfl, rfl, rfl, rfl, rfl, rfl, rfl, rfl, trivial⟩⟩
         trivial) ?_
       refine ac rfl (by
         intro k; rintro ⟨a70, c71⟩ ρ σm hJ hoff hdep
         have e3 := look_off (N := 78) (hoff 3 rfl) rfl
         exact dp_v (v := (Sl a5 r2.1 c6)) wn (rv_move e3) rfl hJ) ?_
       refine ac rfl (by
         intro k; rintro ⟨a70, c71⟩ ρ σm hJ hoff hdep
         have e8 := look_off (N := 78) (hoff 8 rfl) rfl
         exact dp_v (v := (I s58)) wn (rv_move e8) rfl hJ) ?_
       refine ac rfl (by
         intro k; rintro ⟨a70, c71⟩ ρ σm hJ hoff hdep
         have e59 := hdep 2 rfl rfl 59 rfl
         have e60 := hdep 3 rfl rfl 60 rfl
         exact dp_v (v := (pt b75 o76)) wn (rv_ix Tryz.underlying23 ti33 e59 e60 hi74) rfl hJ) ?_
       refine ac rfl (by
         intro k; rintro ⟨a70, c71⟩ ρ σm hJ hoff hdep
         have e61 := hdep 4 rfl rfl 61 rfl
         exact dp_v (v := (pt b75 (o76 + 0))) wn (rv_fieldAddr (off := 0) (ft := 3) Tryz.underlying33 rfl ti3 rfl e61) rfl hJ) ?_
       refine all_cons (by
         refine ⟨?_, ?_⟩
         ·rintro ⟨a70, c71⟩ ρ σm hJ hoff hdep
          have e62 := hdep 5 rfl rfl 62 rfl
          obtain ⟨H, m⟩ := id hJ
          replace hc77 := (Hs.ro 3 rfl).hmd hx73 hi74 (k := 0) (by decide) hc77 m
          exact dp_v (v := (I x72.1)) wn (rv_load1 Tryz.underlying3 rfl e62 hc77) rfl hJ
         refine ⟨?_, ?_⟩
         ·rintro ⟨a70, c71⟩ ρ σm hJ hoff hdep
          have e62 := hdep 5 rfl rfl 62 rfl
          obtain ⟨H, m⟩ := id hJ
          replace hc77 := (Hs.ro 3 rfl).hmd hx73 hi74 (k := 0) (by decide) hc77 m
          exact dp_v (v := (I x72.1)) wn (rv_load1 Tryz.underlying3 rfl e62 hc77) rfl hJ
         trivial) ?_
       refine all_cons (by
         refine ⟨?_, ?_⟩
         ·rintro ⟨a70, c71⟩ ρ σm hJ hoff hdep
          have e58 : look 78 ρ 58 = (Sl a70 r67 c71) := hdep 1 rfl rfl 58 rfl
          have e63 : look 78 ρ 63 = (I x72.1) := hdep 6 rfl rfl 63 rfl
          obtain ⟨H, m⟩ := id hJ
          refine dp_cx wn (cx_call (hc80 a70 c71) (ent_f (hc80 a70 c71).fn (by show [look 78 ρ 58, look 78 ρ 63] = _; rw [e58, e63])) hn0 (H.sel' [0, 0, 1, 2, 3, 4, 5, 6] rfl rfl : Hp S0 σ0 _ ([_] ++ _))) ?_
          rintro _ σq ⟨_, ⟨rfl, rfl⟩, H2, m2⟩
          exact ⟨_, (a70, c71), rfl, rfl, ⟨H2.sel' [0, 1, 2, 3, 4, 5, 6] rfl rfl, m.comp0 (m2.mono (fun i h => by simp [cov, Ch.ro] at h))⟩, stab [0, 1, 2, 3, 4, 5, 6, 8, 9, 10, 11, 12, 13, 14, 16] (by kernel_rfl) ⟨rfl, rfl, rfl, rfl, rfl, rfl, rfl, rfl, rfl, rfl, rfl, rfl, rfl, rfl, rfl, trivial⟩⟩
         trivial) ?_
       refine ac rfl (by
         intro k; rintro ⟨a70, c71⟩ ρ σm hJ hoff hdep
         have e4 := look_off (N := 78) (hoff 4 rfl) rfl
         exact dp_v (v := (I r2.2.1)) wn (rv_move e4) rfl hJ) ?_
       refine ac rfl (by
         intro k; rintro ⟨a70, c71⟩ ρ σm hJ hoff hdep
         have e3 := look_off (N := 78) (hoff 3 rfl) rfl
         exact dp_v (v := (Sl a5 r2.1 c6)) wn (rv_move e3) rfl hJ) ?_
       refine ac rfl (by
         intro k; rintro ⟨a70, c71⟩ ρ σm hJ hoff hdep
         have e8 := look_off (N := 78) (hoff 8 rfl) rfl
         exact dp_v (v := (I s58)) wn (rv_move e8) rfl hJ) ?_
       refine ac rfl (by
         intro k; rintro ⟨a70, c71⟩ ρ σm hJ hoff hdep
         have e66 := hdep 9 rfl rfl 66 rfl
         have e67 := hdep 10 rfl rfl 67 rfl
         exact dp_v (v := (pt b84 o85)) wn (rv_ix Tryz.underlying23 ti33 e66 e67 hi83) rfl hJ) ?_
       refine ac rfl (by
         intro k; rintro ⟨a70, c71⟩ ρ σm hJ hoff hdep
         have e68 := hdep 11 rfl rfl 68 rfl
         exact dp_v (v := (pt b84 (o85 + 1))) wn (rv_fieldAddr (off := 1) (ft := 24) Tryz.underlying33 rfl ti24 rfl e68) rfl hJ) ?_
       refine all_cons (by
         refine ⟨?_, ?_⟩
         ·rintro ⟨a70, c71⟩ ρ σm hJ hoff hdep
          have e69 := hdep 12 rfl rfl 69 rfl
          obtain ⟨H, m⟩ := id hJ
          replace hc90 := (Hs.ro 3 rfl).hmd hx82 hi83 (k := 1) (by decide) hc90 m
          exact dp_v (v := (Sl a86 x81.2.1 c87)) wn (rv_load1 Tryz.underlying24 rfl e69 hc90) rfl hJ
         refine ⟨?_, ?_⟩
         ·rintro ⟨a70, c71⟩ ρ σm hJ hoff hdep
          have e69 := hdep 12 rfl rfl 69 rfl
          obtain ⟨H, m⟩ := id hJ
          replace hc90 := (Hs.ro 3 rfl).hmd hx82 hi83 (k := 1) (by decide) hc90 m
          exact dp_v (v := (Sl a86 x81.2.1 c87)) wn (rv_load1 Tryz.underlying24 rfl e69 hc90) rfl hJ
         refine ⟨?_, ?_⟩
         ·rintro ⟨a70, c71⟩ ρ σm hJ hoff hdep
          have e69 := hdep 12 rfl rfl 69 rfl
          obtain ⟨H, m⟩ := id hJ
          replace hc90 := (Hs.ro 3 rfl).hmd hx82 hi83 (k := 1) (by decide) hc90 m
          exact dp_v (v := (Sl a86 x81.2.1 c87)) wn (rv_load1 Tryz.underlying24 rfl e69 hc90) rfl hJ
         trivial) ?_
       refine ac rfl (by
         intro k; rintro ⟨a70, c71⟩ ρ σm hJ hoff hdep
         have e5 := look_off (N := 78) (hoff 5 rfl) rfl
         exact dp_v (v := (Sl a7 r2.2.2.1 c8)) wn (rv_move e5) rfl hJ) ?_
       refine all_cons (by
         refine ⟨?_, ?_⟩
         ·rintro ⟨a70, c71⟩ ρ σm hJ hoff hdep
          have e65 : look 78 ρ 65 = (I r2.2.1) := hdep 8 rfl rfl 65 rfl
          have e70 : look 78 ρ 70 = (Sl a86 x81.2.1 c87) := hdep 13 rfl rfl 70 rfl
          have e71 : look 78 ρ 71 = (Sl a7 r2.2.2.1 c8) := hdep 14 rfl rfl 71 rfl
          obtain ⟨H, m⟩ := id hJ
          refine dp_cx wn (cx_call hc93 (ent_f hc93.fn (by show [look 78 ρ 65, look 78 ρ 70, look 78 ρ 71] = _; rw [e65, e70, e71])) hn0 (H.sel' [2, 1, 0, 1, 2, 3, 4, 5, 6] rfl rfl : Hp S0 σ0 _ ([_, _] ++ _))) ?_
          rintro _ σq ⟨_, ⟨rfl, rfl⟩, H2, m2⟩
          exact ⟨_, (a70, c71), rfl, rfl, ⟨H2.sel' [0, 1, 2, 3, 4, 5, 6] rfl rfl, m.comp0 (m2.mono (fun i h => by simp [cov, Ch.ro] at h))⟩, stab [0, 1, 2, 3, 4, 5, 6, 7, 8, 9, 10, 11, 12, 13, 14, 16] (by kernel_rfl) ⟨rfl, rfl, rfl, rfl, rfl, rfl, rfl, rfl, rfl, rfl, rfl, rfl, rfl, rfl, rfl, rfl, trivial⟩⟩
         trivial) ?_
       refine ac rfl (by
         intro k; rintro ⟨a70, c71⟩ ρ σm hJ hoff hdep
         have e6 := look_off (N := 78) (hoff 6 rfl) rfl
         exact dp_v (v := (I r2.2.2.2)) wn (rv_move e6) rfl hJ) ?_
       exact all_nil
      ·rintro ⟨a70, c71⟩ ρ σ94 hJ hoff hrel
       have e3 := look_off (N := 78) (hoff 3 rfl) rfl
       have e4 := look_off (N := 78) (hoff 4 rfl) rfl
       have e5 := look_off (N := 78) (hoff 5 rfl) rfl
       have e6 := look_off (N := 78) (hoff 6 rfl) rfl
       have e7 := look_off (N := 78) (hoff 7 rfl) rfl
       have e8 := look_off (N := 78) (hoff 8 rfl) rfl
       have e64 := hrel 7 rfl 64 rfl
       have e72 := hrel 15 rfl 72 rfl
       have e73 := hrel 16 rfl 73 rfl
       obtain ⟨H, -⟩ := (show Hp S0 σ0 σ94 [Ch.ro 0 (Sl a70 r67 c71) r67, Ch.ro 0 (Sl a7 r2.2.2.1 c8) r2.2.2.1, Ch.ro 0 (Sl a86 x81.2.1 c87) x81.2.1, Ch.ro n0 (Sl a86 x81.2.1 c87) x81.2.1, Ch.ro n0 (Sl a5 r2.1 c6) r2.1, Ch.ro n0 (Sl a7 r2.2.2.1 c8) r2.2.2.1, Ch.ro 0 (Sl a13 r10 c14) r10] ∧ Md (fun i => (cov []) i ∨ (fun i => (cov [Ch.ro 0 (Sl a13 r10 c14) r10]) i ∨ (fun b => blk (Sl a70 r67 c71) = some b) i) i) σ65 σ94 from hJ)
       clear hJ Hs
       rw [fr_lookL (L := [(3, (Sl a5 r2.1 c6)), (4, (I r2.2.1)), (5, (Sl a7 r2.2.2.1 c8)), (6, (I r2.2.2.2)), (7, (Sl a13 r10 c14)), (8, (I s58)), (64, (B r78)), (72, (I r91)), (73, (I r2.2.2.2))]) ⟨e3, e4, e5, e6, e7, e8, e64, e72, e73, trivial⟩]
       clear hoff hrel e3 e4 e5 e6 e7 e8 e64 e72 e73
       refine st (v := (B (decide (r91 ≤ r2.2.2.2)))) (rv_leq (a := r91) (b := r2.2.2.2) rfl rfl) (st (v := (B (r78 != (decide (r91 ≤ r2.2.2.2))))) (rv_bneq Tryz.underlying4 rfl rfl) (w_end (q_then ?_)))
       refine cd_cond (r78 != (decide (r91 ≤ r2.2.2.2))) rfl (fun hb95 => ?_) (fun hb95 => ?_)
       ·replace h := bif_t hb95 h
        refine c_seq (rg (sa (B false) rfl (w_end (q_then (c_ret (q_blk_r (q_then_r (q_then_r (q_blk_r ?_)))))))))
        obtain rfl := sj h
        obtain rfl := hres _ rfl
        exact .inr (⟨_, rfl, rfl, _, σ94, fr_join ⟨rfl, trivial⟩, rfl, H.sel' [] rfl rfl⟩)
       ·replace h := bif_f hb95 h
        refine c_skip (q_blk (q_then (rg (sm (I s58) rfl (st (v := (I (w64 (s58 + 1)))) (rv_add (a := s58) (b := 1) rfl rfl) (sa (I (w64 (s58 + 1))) rfl (w_end (q_then ?_))))))))
        obtain rfl := sj h
        exact ⟨_, rfl, _, σ94, fr_join ⟨rfl, rfl, rfl, rfl, rfl, rfl, trivial⟩, rfl, H.sel' [4, 5, 6] rfl rfl⟩
     ·replace h := bif_f hb66 h
      refine c_exit (q_then_x (q_then_x (q_blk_hit ?_)))
      obtain rfl := sj h
      obtain rfl := hres _ rfl
      exact .inl ⟨_, rfl, rfl, _, σ65, fr_join ⟨rfl, trivial⟩, rfl, H.sel' [2] rfl rfl⟩
    ·clear hj
     have h := h'
     clear h' H
     rintro e a w (⟨t96, rfl, rfl, ρ, σ97, rfl, rfl, H⟩ | ⟨t102, rfl, rfl, ρ, σ103, rfl, rfl, H⟩)
     ·replace h := selim_l h
      refine q_then (c_seq (rg (sm (Sl a13 r10 c14) rfl ?_)))
      revert h; refine br fun r98 hx99 h => ?_
      have hc100 := c_impl_ValidHits (Au := a13) (Av := c14) hx99
      refine st_call (cx_call hc100 (ent_f hc100.fn rfl) hn0 (H.sel' [0, 0] rfl rfl : Hp S0 σ0 _ ([_] ++ _))) wn ?_
      rintro _ σ101 ⟨_, ⟨rfl, rfl⟩, H, -⟩
      replace H : Hp _ _ _ [_] := H
      refine sa (B r98) rfl (w_end (q_then (c_ret ?_)))
      obtain rfl := sj h
      exact fin_ret (v := (B r98)) (results_ok Tryz.results3 (res_tmp (v := (B r98)) rfl res_nil) rfl) ⟨rfl, rfl⟩ (H.sel' [] rfl rfl)
     ·replace h := selim_r h
      refine q_then_r ?_
      obtain rfl := sj h
      exact fin_ret (v := (B t102)) (results_ok Tryz.results3 (res_tmp (v := (B t102)) rfl res_nil) rfl) ⟨rfl, rfl⟩ (H.sel' [] rfl rfl)

end Go.Vs
