/- The functions compute what their models say. -/
import Derived.Test.YtbbddfckcpfoaaaGreatKCodeNearestStoreC5
set_option linter.unusedVariables false
set_option linter.unusedSimpArgs false
set_option maxRecDepth 20000
namespace Go.Vs
open Go Go.Proofs
attribute [local irreducible] Code.wp Code.wpIn wpList wpListIn wpQuiet Calls CallsIn

theorem c_laws_FnCodeNearestStore {Aa : List UInt8} {Ac : Option Addr} {Ad : Nat} {r : Bool} (h : M.laws_FnCodeNearestStore Aa = some r) :
    Cal2 Tryz.prog 3 [(Sl Ac Aa Ad)] [Ch.ro 0 (Sl Ac Aa Ad) Aa] (fun n0 v L => v = (B r) ∧ L = []) := by
 refine cal2 (n := 76) Tryz.func3 rfl rfl rfl rfl ?_
 intro S0 σ0 n0 hn0 H
 unfold M.laws_FnCodeNearestStore at h
 refine c_seq (rg (sa (B false) rfl (w_end (q_then (c_seq (c_seq (rg (sm (Sl Ac Aa Ad) rfl (st (v := (I (Aa.length : Int))) (rv_len Tryz.underlying22 rfl) (st (v := (B (decide (1048576 < (Aa.length : Int))))) (rv_gtr (a := (Aa.length : Int)) (b := 1048576) rfl rfl) (w_end ?_)))))))))))
 refine q_then ?_
 refine cd_cond (decide (1048576 < (Aa.length : Int))) rfl (fun hb1 => ?_) (fun hb1 => ?_)
 ·replace h := bif_t hb1 h
  refine c_seq (rg (sa (B true) rfl (w_end (q_then (c_ret (q_then_r ?_))))))
  obtain rfl := sj h
  exact fin_ret (v := (B true)) (results_ok Tryz.results3 (res_tmp (v := (B true)) rfl res_nil) rfl) ⟨rfl, rfl⟩ (H.sel' [] rfl rfl)
 ·replace h := bif_f hb1 h
  refine c_skip (q_then (c_seq (rg (sm (Sl Ac Aa Ad) rfl ?_))))
  revert h; refine br fun r2 hx3 h => ?_
  have hc4 := c_spec_DrawCodeNearest (Ac := Ac) (Ad := Ad) hx3
  refine st_call (cx_call hc4 (ent_f hc4.fn rfl) hn0 (H.sel' [0, 0] rfl rfl : Hp S0 σ0 _ ([_] ++ _))) wn ?_
  rintro _ σ13 ⟨_, ⟨a5, c6, a7, c8, a9, c10, a11, c12, rfl, rfl⟩, H, -⟩
  replace H : Hp _ _ _ [_, _, _, _, _] := H
  refine sm (.tuple #[(.agg #[(Sl a5 r2.1.1 c6), (Sl a7 r2.1.2 c8)]), (Sl a9 r2.2.1 c10), (Sl a11 r2.2.2.1 c12), (I r2.2.2.2)]) rfl (st (v := (.agg #[(Sl a5 r2.1.1 c6), (Sl a7 r2.1.2 c8)])) (rv_extract rfl rfl) (st (v := (Sl a9 r2.2.1 c10)) (rv_extract rfl rfl) (st (v := (Sl a11 r2.2.2.1 c12)) (rv_extract rfl rfl) (st (v := (I r2.2.2.2)) (rv_extract rfl rfl) (st_ex (ex_alloc (cs := [(.slice none 0 0), (.slice none 0 0)]) H hn0 ti25 rfl) wn ?_)))))
  rintro _ σ15 ⟨b14, rfl, H, -⟩
  refine st_exS (ex_store_box (k := 0) (cs := [(.slice none 0 0), (.slice none 0 0)]) (vs := [(Sl a5 r2.1.1 c6), (Sl a7 r2.1.2 c8)]) (cs' := [(Sl a5 r2.1.1 c6), (Sl a7 r2.1.2 c8)]) H (i := 0) rfl ti25 rfl rfl rfl rfl rfl (Nat.le_of_ble_eq_true rfl) (by simp [plain]) rfl) wn ?_
  rintro σ16 ⟨H, -⟩
  refine sa (Sl a9 r2.2.1 c10) rfl (sa (Sl a11 r2.2.2.1 c12) rfl (sa (I r2.2.2.2) rfl (w_end (q_then (c_seq (rg ?_))))))
  have hc17 := H.cells 0 rfl
  refine st (v := (.agg #[(Sl a5 r2.1.1 c6), (Sl a7 r2.1.2 c8)])) (rv_load (cs := [(Sl a5 r2.1.1 c6), (Sl a7 r2.1.2 c8)]) Tryz.underlying25 rfl ti25 rfl rfl hc17) (sm (Sl a9 r2.2.1 c10) rfl (sm (Sl a11 r2.2.2.1 c12) rfl (sm (I r2.2.2.2) rfl ?_)))
  revert h; refine br fun r18 hx19 h => ?_
  have hc20 := c_impl_CodeNearest (Bq := a5) (Br := c6) (Bs := a7) (Bt := c8) (Aq := a9) (Ar := c10) (Cc := a11) (Cd := c12) hx19
  have hle := Nat.le_trans hn0 H.size
  refine st_call (cx_lend (Loan.lend (Loan.lend (Loan.lend (Loan.lend Loan.nil)))) hc20 (ent_f hc20.fn rfl) (show Hp S0 σ0 _ ([Ch.own n0 n0 (Sl a5 r2.1.1 c6) r2.1.1, Ch.own n0 n0 (Sl a7 r2.1.2 c8) r2.1.2, Ch.own n0 n0 (Sl a9 r2.2.1 c10) r2.2.1, Ch.own n0 n0 (Sl a11 r2.2.2.1 c12) r2.2.2.1] ++ ([] ++ [Ch.bx n0 b14 0 [(Sl a5 r2.1.1 c6), (Sl a7 r2.1.2 c8)] [] [], Ch.ro 0 (Sl Ac Aa Ad) Aa])) from (H.sel' [1, 2, 3, 4, 0, 5] rfl rfl)) (by rintro _ _ _ ⟨_, _, rfl, rfl⟩; exact ⟨Ab.ownSc, trivial⟩)) wn ?_
  rintro _ σ23 ⟨_, ⟨a21, c22, rfl, rfl⟩, H, -, -⟩
  replace H : Hp _ _ _ [_, _, _, _, _, _, _] := H
  replace H := H.ownLow 0 0 n0 rfl (Nat.le_refl _) hle
  clear hle
  replace H : Hp _ _ _ [_, _, _, _, _, _, _] := H
  refine sa (Sl a21 r18 c22) rfl (w_end (q_then (c_seq (c_seq ?_))))
  obtain ⟨o24, hj, h'⟩ := bind_some h
  clear h
  refine c_cut (fun e a w => e = .normal ∧ ∃ (ρ : Nat → Value) (σ : St), a = fr 76 (updL ρ [(3, (pt b14 0)), (4, (Sl a9 r2.2.1 c10)), (5, (Sl a11 r2.2.2.1 c12)), (6, (I r2.2.2.2)), (7, (Sl a21 r18 c22)), (37, (B o24))]) ∧ w = σ.w ∧ Hp S0 σ0 σ [Ch.own n0 n0 (Sl a5 r2.1.1 c6) r2.1.1, Ch.own n0 n0 (Sl a7 r2.1.2 c8) r2.1.2, Ch.bx n0 b14 0 [(Sl a5 r2.1.1 c6), (Sl a7 r2.1.2 c8)] [] [], Ch.own n0 n0 (Sl a9 r2.2.1 c10) r2.2.1, Ch.own n0 n0 (Sl a11 r2.2.2.1 c12) r2.2.2.1, Ch.own 0 n0 (Sl a21 r18 c22) r18]) ?_ ?_
  ·clear h'
   rename _ = some o24 => h
   refine rg (sm (Sl a21 r18 c22) rfl ?_)
   have hc25 := H.cells 5 rfl
   refine st (v := (.agg #[(Sl a5 r2.1.1 c6), (Sl a7 r2.1.2 c8)])) (rv_load (cs := [(Sl a5 r2.1.1 c6), (Sl a7 r2.1.2 c8)]) Tryz.underlying25 rfl ti25 rfl rfl hc25) (sm (Sl a9 r2.2.1 c10) rfl (sm (Sl a11 r2.2.2.1 c12) rfl (sm (I r2.2.2.2) rfl ?_)))
   revert h; refine br fun r26 hx27 h => ?_
   have hc28 := c_spec_CodeNearest (Bq := a5) (Br := c6) (Bs := a7) (Bt := c8) (Aq := a9) (Ar := c10) (Cc := a11) (Cd := c12) hx27
   have hle := Nat.le_trans hn0 H.size
   refine st_call (cx_lend (Loan.lend (Loan.lend (Loan.lend (Loan.lend Loan.nil)))) hc28 (ent_f hc28.fn rfl) (show Hp S0 σ0 _ ([Ch.own n0 n0 (Sl a5 r2.1.1 c6) r2.1.1, Ch.own n0 n0 (Sl a7 r2.1.2 c8) r2.1.2, Ch.own n0 n0 (Sl a9 r2.2.1 c10) r2.2.1, Ch.own n0 n0 (Sl a11 r2.2.2.1 c12) r2.2.2.1] ++ ([] ++ [Ch.own 0 n0 (Sl a21 r18 c22) r18, Ch.bx n0 b14 0 [(Sl a5 r2.1.1 c6), (Sl a7 r2.1.2 c8)] [] [], Ch.ro 0 (Sl Ac Aa Ad) Aa])) from (H.sel' [1, 2, 3, 4, 0, 5, 6] rfl rfl)) (by rintro _ _ _ ⟨_, _, rfl, rfl⟩; exact ⟨Ab.ownSc, trivial⟩)) wn ?_
   rintro _ σ31 ⟨_, ⟨a29, c30, rfl, rfl⟩, H, -, -⟩
   replace H : Hp _ _ _ [_, _, _, _, _, _, _, _] := H
   replace H := H.ownLow 0 n0 n0 rfl hle hle
   clear hle
   replace H : Hp _ _ _ [_, _, _, _, _, _, _, _] := H
   replace H : Hp S0 σ0 σ31 [Ch.own n0 n0 (Sl a29 r26 c30) r26, Ch.own n0 n0 (Sl a5 r2.1.1 c6) r2.1.1, Ch.own n0 n0 (Sl a7 r2.1.2 c8) r2.1.2, Ch.own n0 n0 (Sl a9 r2.2.1 c10) r2.2.1, Ch.own n0 n0 (Sl a11 r2.2.2.1 c12) r2.2.2.1, Ch.own 0 n0 (Sl a21 r18 c22) r18, Ch.bx n0 b14 0 [(Sl a5 r2.1.1 c6), (Sl a7 r2.1.2 c8)] [] []] := H.sel' [0, 1, 2, 3, 4, 5, 6] rfl rfl
   obtain ⟨σ32, hw33, H, -⟩ := H.pub 0 rfl (Nat.le_refl _)
   rw [← hw33]; clear hw33
   replace H := H.roLow 0 0 rfl (Nat.zero_le _)
   revert h; refine br fun r34 hx35 h => ?_
   have hc36 := c_laws_equalHits (Gc := a21) (Gd := c22) (Ge := a29) (Gf := c30) hx35
   have hle := Nat.le_trans hn0 H.size
   refine st_call (cx_lend (Loan.lend (Loan.same Loan.nil)) hc36 (ent_f hc36.fn rfl) (show Hp S0 σ0 _ ([Ch.own 0 n0 (Sl a21 r18 c22) r18] ++ ([Ch.ro 0 (Sl a29 r26 c30) r26] ++ [Ch.ro 0 (Sl a29 r26 c30) r26, Ch.ro n0 (Sl a29 r26 c30) r26, Ch.own n0 n0 (Sl a5 r2.1.1 c6) r2.1.1, Ch.own n0 n0 (Sl a7 r2.1.2 c8) r2.1.2, Ch.own n0 n0 (Sl a9 r2.2.1 c10) r2.2.1, Ch.own n0 n0 (Sl a11 r2.2.2.1 c12) r2.2.2.1, Ch.bx n0 b14 0 [(Sl a5 r2.1.1 c6), (Sl a7 r2.1.2 c8)] [] []])) from (H.sel' [6, 0, 0, 1, 2, 3, 4, 5, 7] rfl rfl)) (by rintro _ _ _ ⟨rfl, rfl⟩; exact trivial)) wn ?_
   rintro _ σ37 ⟨_, ⟨rfl, rfl⟩, H, -, -⟩
   replace H : Hp _ _ _ [_, _, _, _, _, _, _, _] := H
   clear hle
   replace H : Hp _ _ _ [_, _, _, _, _, _, _, _] := H
   replace H : Hp S0 σ0 σ37 [Ch.own 0 n0 (Sl a21 r18 c22) r18, Ch.own n0 n0 (Sl a5 r2.1.1 c6) r2.1.1, Ch.own n0 n0 (Sl a7 r2.1.2 c8) r2.1.2, Ch.own n0 n0 (Sl a9 r2.2.1 c10) r2.2.1, Ch.own n0 n0 (Sl a11 r2.2.2.1 c12) r2.2.2.1, Ch.bx n0 b14 0 [(Sl a5 r2.1.1 c6), (Sl a7 r2.1.2 c8)] [] []] := H.sel' [0, 3, 4, 5, 6, 7] rfl rfl
   refine st (v := (B (!r34))) (rv_not rfl) (sm (B (!r34)) rfl ?_)
   rcases Bool.eq_false_or_eq_true (!r34) with hb38 | hb38
   ·replace h := bif_t hb38 h
    refine st_skip (congrArg some hb38) (st_skip (congrArg some hb38) (st_skip (congrArg some hb38) (st (v := (B true)) (rv_pick_t (congrArg B hb38) rfl) (w_end ?_))))
    obtain rfl := sj h
    exact ⟨rfl, _, σ37, fr_join ⟨rfl, rfl, rfl, rfl, rfl, rfl, trivial⟩, rfl, H.sel' [1, 2, 5, 3, 4, 0] rfl rfl⟩
   ·replace h := bif_f hb38 h
    refine st_g (v := (Sl a21 r18 c22)) (congrArg some hb38) (rv_move rfl) (st_g (v := (I (r18.length : Int))) (congrArg some hb38) (rv_len Tryz.underlying30 rfl) (st_g (v := (B ((r18.length : Int) == 0))) (congrArg some hb38) (rv_eql (a := (r18.length : Int)) (b := 0) rfl rfl) (st (v := (B ((r18.length : Int) == 0))) (rv_pick_f (congrArg B hb38) rfl) (w_end ?_))))
    obtain rfl := sj h
    exact ⟨rfl, _, σ37, fr_join ⟨rfl, rfl, rfl, rfl, rfl, rfl, trivial⟩, rfl, H.sel' [1, 2, 5, 3, 4, 0] rfl rfl⟩
  ·clear hj
   have h := h'
   clear h' H
   rintro e a w ⟨rfl, ρ, σ39, rfl, rfl, H⟩
   refine q_then ?_
   refine cd_cond o24 rfl (fun hb40 => ?_) (fun hb40 => ?_)
   ·replace h := bif_t hb40 h
    refine c_seq (rg (sm (Sl a21 r18 c22) rfl ?_))
    have hc41 := H.cells 2 rfl
    refine st (v := (.agg #[(Sl a5 r2.1.1 c6), (Sl a7 r2.1.2 c8)])) (rv_load (cs := [(Sl a5 r2.1.1 c6), (Sl a7 r2.1.2 c8)]) Tryz.underlying25 rfl ti25 rfl rfl hc41) (sm (Sl a9 r2.2.1 c10) rfl (sm (Sl a11 r2.2.2.1 c12) rfl (sm (I r2.2.2.2) rfl ?_)))
    obtain ⟨σ42, hw43, H, -⟩ := H.pub 0 rfl (Nat.le_refl _)
    rw [← hw43]; clear hw43
    obtain ⟨σ44, hw45, H, -⟩ := H.pub 1 rfl (Nat.le_refl _)
    rw [← hw45]; clear hw45
    obtain ⟨σ46, hw47, H, -⟩ := H.pub 3 rfl (Nat.le_refl _)
    rw [← hw47]; clear hw47
    obtain ⟨σ48, hw49, H, -⟩ := H.pub 4 rfl (Nat.le_refl _)
    rw [← hw49]; clear hw49
    replace H := H.roLow 3 0 rfl (Nat.zero_le _)
    replace H := H.roLow 3 0 rfl (Nat.zero_le _)
    replace H := H.roLow 3 0 rfl (Nat.zero_le _)
    replace H := H.roLow 3 0 rfl (Nat.zero_le _)
    revert h; refine br fun r50 hx51 h => ?_
    have hc52 := c_spec_CodeNearest (Bq := a5) (Br := c6) (Bs := a7) (Bt := c8) (Aq := a9) (Ar := c10) (Cc := a11) (Cd := c12) hx51
    refine st_call (cx_call hc52 (ent_f hc52.fn rfl) hn0 (H.sel' [3, 2, 1, 0, 0, 1, 2, 3, 4, 5, 6, 7, 8, 9] rfl rfl : Hp S0 σ0 _ ([_, _, _, _] ++ _))) wn ?_
    rintro _ σ55 ⟨_, ⟨a53, c54, rfl, rfl⟩, H, -⟩
    replace H : Hp _ _ _ [_, _, _, _, _, _, _, _, _, _, _] := H
    replace H : Hp S0 σ0 σ55 [Ch.own n0 n0 (Sl a53 r50 c54) r50, Ch.own 0 n0 (Sl a21 r18 c22) r18] := H.sel' [0, 10] rfl rfl
    replace H := H.ownLow 1 0 0 rfl (Nat.le_refl _) (Nat.zero_le _)
    obtain ⟨σ56, hw57, H, -⟩ := H.pub 0 rfl (Nat.le_refl _)
    rw [← hw57]; clear hw57
    obtain ⟨σ58, hw59, H, -⟩ := H.pub 1 rfl (Nat.le_refl _)
    rw [← hw59]; clear hw59
    replace H := H.roLow 0 0 rfl (Nat.zero_le _)
    revert h; refine br fun r60 hx61 h => ?_
    have hc62 := c_laws_equalHits (Gc := a21) (Gd := c22) (Ge := a53) (Gf := c54) hx61
    refine st_call (cx_call hc62 (ent_f hc62.fn rfl) hn0 (H.sel' [2, 0, 0, 1, 2] rfl rfl : Hp S0 σ0 _ ([_, _] ++ _))) wn ?_
    rintro _ σ63 ⟨_, ⟨rfl, rfl⟩, H, -⟩
    replace H : Hp _ _ _ [_, _, _] := H
    refine sa (B r60) rfl (w_end (q_then (c_ret (q_then_r ?_))))
    obtain rfl := sj h
    exact fin_ret (v := (B r60)) (results_ok Tryz.results3 (res_tmp (v := (B r60)) rfl res_nil) rfl) ⟨rfl, rfl⟩ (H.sel' [] rfl rfl)
   ·replace h := bif_f hb40 h
    refine c_skip (q_then (c_seq (rg ?_)))
    refine st_ex (ex_buildSlice (el := n0) (xs := ([] : List (Int × (List Int) × Int))) (ps := []) (cs := []) H hn0 Tryz.underlying26 ti34 rfl rfl (by kernel_rfl) (.nil) rfl) wn ?_
    rintro _ σ65 ⟨b64, rfl, H, -⟩
    refine sa (Sl (some ⟨b64, 0, none⟩) ([] : List (Int × (List Int) × Int)) 0) rfl (w_end (q_then (c_seq (c_seq (rg (sa (I 0) rfl (w_end (q_then ?_))))))))
    obtain ⟨o66, hj, h'⟩ := bind_some h
    clear h
    refine c_cut (fun e a w => e = .normal ∧ ∃ (ρ : Nat → Value) (σ : St) (aj1 : Option Addr) (cj2 : Nat), a = fr 76 (updL ρ [(5, (Sl a11 r2.2.2.1 c12)), (6, (I r2.2.2.2)), (7, (Sl a21 r18 c22)), (8, (Sl aj1 o66 cj2))]) ∧ w = σ.w ∧ Hp S0 σ0 σ [Ch.own n0 n0 (Sl a11 r2.2.2.1 c12) r2.2.2.1, Ch.own 0 n0 (Sl a21 r18 c22) r18, Ch.own n0 0 (Sl aj1 o66 cj2) o66]) ?_ ?_
    ·clear h'
     rename _ = some o66 => h
     refine c_blk ?_
     obtain ⟨σ68, hw69, H, -⟩ := H.pub 1 rfl (Nat.le_refl _)
     rw [← hw69]; clear hw69
     obtain ⟨σ70, hw71, H, -⟩ := H.pub 2 rfl (Nat.le_refl _)
     rw [← hw71]; clear hw71
     replace H := H.ownLow 2 n0 0 rfl (Nat.le_refl _) (Nat.zero_le _)
     refine wp_loopM _ h (fun s67 a w => ∃ (ρ : Nat → Value) (σ : St) (aj1 : Option Addr) (cj2 : Nat), a = fr 76 (updL ρ [(3, (pt b14 0)), (4, (Sl a9 r2.2.1 c10)), (5, (Sl a11 r2.2.2.1 c12)), (6, (I r2.2.2.2)), (7, (Sl a21 r18 c22)), (8, (Sl aj1 s67.1 cj2)), (9, (I s67.2))]) ∧ w = σ.w ∧ Hp S0 σ0 σ [Ch.ro n0 (Sl a5 r2.1.1 c6) r2.1.1, Ch.ro n0 (Sl a7 r2.1.2 c8) r2.1.2, Ch.bx n0 b14 0 [(Sl a5 r2.1.1 c6), (Sl a7 r2.1.2 c8)] [] [], Ch.own n0 n0 (Sl a9 r2.2.1 c10) r2.2.1, Ch.own n0 n0 (Sl a11 r2.2.2.1 c12) r2.2.2.1, Ch.own 0 n0 (Sl a21 r18 c22) r18, Ch.own n0 0 (Sl aj1 s67.1 cj2) s67.1]) ⟨_, σ70, (some ⟨b64, 0, none⟩), 0, fr_join ⟨rfl, rfl, rfl, rfl, rfl, rfl, rfl, trivial⟩, rfl, H.sel' [2, 1, 3, 4, 5, 6, 0] rfl rfl⟩ ?_
     clear h H
     rintro s67 a w o ⟨ρ, σ72, a73, c74, rfl, rfl, H⟩ h hres
     refine c_seq (c_seq (rg (sm (I s67.2) rfl (sm (Sl a9 r2.2.1 c10) rfl (st (v := (I (r2.2.1.length : Int))) (rv_len Tryz.underlying26 rfl) (st (v := (B (decide (s67.2 < (r2.2.1.length : Int))))) (rv_lss (a := s67.2) (b := (r2.2.1.length : Int)) rfl rfl) (w_end (q_then ?_))))))))
     refine cd_cond (decide (s67.2 < (r2.2.1.length : Int))) rfl (fun hb75 => ?_) (fun hb75 => ?_)
     ·replace h := bif_t hb75 h
      refine c_skip (q_then (c_seq (c_blk ?_)))
      revert h; refine br fun x76 hx77 h => ?_
      obtain ⟨b79, o80, hi78, -⟩ := (H.own 3 rfl).ix hx77
      have hc81 := ((H.own 3 rfl).at hx77 hi78).fst.int
      have hc82 := H.cells 2 rfl
      have hc83 := H.cells 2 rfl
      revert h; refine br fun x84 hx85 h => ?_
      obtain ⟨b87, o88, hi86, -⟩ := (H.own 3 rfl).ix hx85
      obtain ⟨v92, hc93, hR91⟩ := ((H.own 3 rfl).at hx85 hi86).snd.fst.slice
      obtain ⟨a89, c90, rfl⟩ := hR91.isSl
      replace H := H.add (d := Ch.ro n0 (Sl a89 x84.2.1 c90) x84.2.1) hR91 (fun _ h => h)
      clear hR91
      replace H := H.roLow 1 0 rfl (Nat.zero_le _)
      replace H := H.roLow 3 0 rfl (Nat.zero_le _)
      replace H := H.roLow 2 0 rfl (Nat.zero_le _)
      revert h; refine br fun r94 hx95 h => ?_
      have hc96 := c_impl_EncodeVector (Bq := a5) (Br := c6) (Bs := a7) (Bt := c8) (Cj := a89) (Ck := c90) hx95
      replace H := H.roLow 4 0 rfl (Nat.zero_le _)
      replace H := H.roLow 6 0 rfl (Nat.zero_le _)
      revert h; refine br fun r97 hx98 h => ?_
      have hc99 := c_impl_DecodeVector (Bq := a5) (Br := c6) (Bs := a7) (Bt := c8) hx98
      have Hs := H
      refine rg2 (σ := σ72) (Nm := (Option Addr) × (Nat) × (Nat)) 17 [13, 14, 16] [[false, false, false], [true, false, false], [true, true, false], [true, true, true]] [[(0, 0), (1, 1), (2, 2), (3, 3)], [(0, 0), (1, 1), (2, 2)], [(0, 0), (1, 1), (2, 2)], [(0, 0), (1, 1), (2, 2)], [(0, 0), (1, 1), (2, 2)], [(0, 0), (1, 1), (2, 2)], [(0, 0), (1, 1)], [(0, 0)], [(0, 0)], [(0, 0)], [(0, 0)], [(0, 0)], [(0, 0)], [(0, 1)], [(1, 2)], [(2, 2)], [(2, 3)]] 3 [fun ((a100, c101, b102) : (Option Addr) × (Nat) × (Nat)) => fun σm => Hp S0 σ0 σm [Ch.ro 0 (Sl a7 r2.1.2 c8) r2.1.2, Ch.ro 0 (Sl a5 r2.1.1 c6) r2.1.1, Ch.ro 0 (Sl a89 x84.2.1 c90) x84.2.1, Ch.ro 0 (Sl a7 r2.1.2 c8) r2.1.2, Ch.ro 0 (Sl a5 r2.1.1 c6) r2.1.1, Ch.ro n0 (Sl a89 x84.2.1 c90) x84.2.1, Ch.ro n0 (Sl a5 r2.1.1 c6) r2.1.1, Ch.ro n0 (Sl a7 r2.1.2 c8) r2.1.2, Ch.bx n0 b14 0 [(Sl a5 r2.1.1 c6), (Sl a7 r2.1.2 c8)] [] [], Ch.own n0 n0 (Sl a9 r2.2.1 c10) r2.2.1, Ch.own n0 n0 (Sl a11 r2.2.2.1 c12) r2.2.2.1, Ch.own 0 n0 (Sl a21 r18 c22) r18, Ch.own n0 0 (Sl a73 s67.1 c74) s67.1] ∧ Md (cov []) σ72 σm, fun ((a100, c101, b102) : (Option Addr) × (Nat) × (Nat)) => fun σm => Hp S0 σ0 σm [Ch.ro 0 (Sl a7 r2.1.2 c8) r2.1.2, Ch.ro 0 (Sl a5 r2.1.1 c6) r2.1.1, Ch.ro 0 (Sl a89 x84.2.1 c90) x84.2.1, Ch.ro 0 (Sl a7 r2.1.2 c8) r2.1.2, Ch.ro 0 (Sl a5 r2.1.1 c6) r2.1.1, Ch.ro n0 (Sl a89 x84.2.1 c90) x84.2.1, Ch.ro n0 (Sl a5 r2.1.1 c6) r2.1.1, Ch.ro n0 (Sl a7 r2.1.2 c8) r2.1.2, Ch.bx n0 b14 0 [(Sl a5 r2.1.1 c6), (Sl a7 r2.1.2 c8)] [] [], Ch.own n0 n0 (Sl a9 r2.2.1 c10) r2.2.1, Ch.own n0 n0 (Sl a11 r2.2.2.1 c12) r2.2.2.1, Ch.own 0 n0 (Sl a21 r18 c22) r18, Ch.own n0 0 (Sl a73 s67.1 c74) s67.1] ∧ Md (cov []) σ72 σm, fun ((a100, c101, b102) : (Option Addr) × (Nat) × (Nat)) => fun σm => Hp S0 σ0 σm [Ch.ro 0 (Sl a100 r97 c101) r97, Ch.ro 0 (Sl a7 r2.1.2 c8) r2.1.2, Ch.ro 0 (Sl a5 r2.1.1 c6) r2.1.1, Ch.ro 0 (Sl a89 x84.2.1 c90) x84.2.1, Ch.ro 0 (Sl a7 r2.1.2 c8) r2.1.2, Ch.ro 0 (Sl a5 r2.1.1 c6) r2.1.1, Ch.ro n0 (Sl a89 x84.2.1 c90) x84.2.1, Ch.ro n0 (Sl a5 r2.1.1 c6) r2.1.1, Ch.ro n0 (Sl a7 r2.1.2 c8) r2.1.2, Ch.bx n0 b14 0 [(Sl a5 r2.1.1 c6), (Sl a7 r2.1.2 c8)] [] [], Ch.own n0 n0 (Sl a9 r2.2.1 c10) r2.2.1, Ch.own n0 n0 (Sl a11 r2.2.2.1 c12) r2.2.2.1, Ch.own 0 n0 (Sl a21 r18 c22) r18, Ch.own n0 0 (Sl a73 s67.1 c74) s67.1] ∧ Md (fun i => (cov []) i ∨ (fun i => (cov [Ch.ro 0 (Sl a5 r2.1.1 c6) r2.1.1, Ch.ro 0 (Sl a7 r2.1.2 c8) r2.1.2]) i ∨ (fun b => blk (Sl a100 r97 c101) = some b) i) i) σ72 σm, fun ((a100, c101, b102) : (Option Addr) × (Nat) × (Nat)) => fun σm => Hp S0 σ0 σm [Ch.own n0 0 (Sl (some ⟨b102, 0, none⟩) ([(x76.1, r97, 0)] : List (Int × (List Int) × Int)) 1) ([(x76.1, r97, 0)] : List (Int × (List Int) × Int)), Ch.ro 0 (Sl a100 r97 c101) r97, Ch.ro 0 (Sl a7 r2.1.2 c8) r2.1.2, Ch.ro 0 (Sl a5 r2.1.1 c6) r2.1.1, Ch.ro 0 (Sl a89 x84.2.1 c90) x84.2.1, Ch.ro 0 (Sl a7 r2.1.2 c8) r2.1.2, Ch.ro 0 (Sl a5 r2.1.1 c6) r2.1.1, Ch.ro n0 (Sl a89 x84.2.1 c90) x84.2.1, Ch.ro n0 (Sl a5 r2.1.1 c6) r2.1.1, Ch.ro n0 (Sl a7 r2.1.2 c8) r2.1.2, Ch.bx n0 b14 0 [(Sl a5 r2.1.1 c6), (Sl a7 r2.1.2 c8)] [] [], Ch.own n0 n0 (Sl a9 r2.2.1 c10) r2.2.1, Ch.own n0 n0 (Sl a11 r2.2.2.1 c12) r2.2.2.1, Ch.own 0 n0 (Sl a21 r18 c22) r18, Ch.own n0 0 (Sl a73 s67.1 c74) s67.1] ∧ Md (fun i => (cov []) i ∨ (fun i => (cov [Ch.ro 0 (Sl a5 r2.1.1 c6) r2.1.1, Ch.ro 0 (Sl a7 r2.1.2 c8) r2.1.2]) i ∨ (fun b => blk (Sl a100 r97 c101) = some b) i) i) σ72 σm] [fun ((a100, c101, b102) : (Option Addr) × (Nat) × (Nat)) => (Sl a73 s67.1 c74), fun ((a100, c101, b102) : (Option Addr) × (Nat) × (Nat)) => (Sl a9 r2.2.1 c10), fun ((a100, c101, b102) : (Option Addr) × (Nat) × (Nat)) => (I s67.2), fun ((a100, c101, b102) : (Option Addr) × (Nat) × (Nat)) => (pt b79 o80), fun ((a100, c101, b102) : (Option Addr) × (Nat) × (Nat)) => (pt b79 (o80 + 0)), fun ((a100, c101, b102) : (Option Addr) × (Nat) × (Nat)) => (I x76.1), fun ((a100, c101, b102) : (Option Addr) × (Nat) × (Nat)) => (.agg #[(Sl a5 r2.1.1 c6), (Sl a7 r2.1.2 c8)]), fun ((a100, c101, b102) : (Option Addr) × (Nat) × (Nat)) => (.agg #[(Sl a5 r2.1.1 c6), (Sl a7 r2.1.2 c8)]), fun ((a100, c101, b102) : (Option Addr) × (Nat) × (Nat)) => (Sl a9 r2.2.1 c10), fun ((a100, c101, b102) : (Option Addr) × (Nat) × (Nat)) => (I s67.2), fun ((a100, c101, b102) : (Option Addr) × (Nat) × (Nat)) => (pt b87 o88), fun ((a100, c101, b102) : (Option Addr) × (Nat) × (Nat)) => (pt b87 (o88 + 1)), fun ((a100, c101, b102) : (Option Addr) × (Nat) × (Nat)) => (Sl a89 x84.2.1 c90), fun ((a100, c101, b102) : (Option Addr) × (Nat) × (Nat)) => (I r94), fun ((a100, c101, b102) : (Option Addr) × (Nat) × (Nat)) => (Sl a100 r97 c101), fun ((a100, c101, b102) : (Option Addr) × (Nat) × (Nat)) => (.agg #[(I x76.1), (Sl a100 r97 c101), (I 0)]), fun ((a100, c101, b102) : (Option Addr) × (Nat) × (Nat)) => (Sl (some ⟨b102, 0, none⟩) ([(x76.1, r97, 0)] : List (Int × (List Int) × Int)) 1)] (none, 0, 0) (by kernel_rfl) (by kernel_rfl) ?_ ?_ ?_
      ·intro σm m0
       exact ⟨H.grow (m0.mono fun _ h => h.elim), m0⟩
      ·refine ac rfl (by
         intro k; rintro ⟨a100, c101, b102⟩ ρ σm hJ hoff hdep
         have e8 := look_off (N := 76) (hoff 8 rfl) rfl
         exact dp_v (v := (Sl a73 s67.1 c74)) wn (rv_move e8) rfl hJ) ?_
       refine ac rfl (by
         intro k; rintro ⟨a100, c101, b102⟩ ρ σm hJ hoff hdep
         have e4 := look_off (N := 76) (hoff 4 rfl) rfl
         exact dp_v (v := (Sl a9 r2.2.1 c10)) wn (rv_move e4) rfl hJ) ?_
       refine ac rfl (by
         intro k; rintro ⟨a100, c101, b102⟩ ρ σm hJ hoff hdep
         have e9 := look_off (N := 76) (hoff 9 rfl) rfl
         exact dp_v (v := (I s67.2)) wn (rv_move e9) rfl hJ) ?_
       refine ac rfl (by
         intro k; rintro ⟨a100, c101, b102⟩ ρ σm hJ hoff hdep
         have e53 := hdep 1 rfl rfl 53 rfl
         have e54 := hdep 2 rfl rfl 54 rfl
         exact dp_v (v := (pt b79 o80)) wn (rv_ix Tryz.underlying26 ti34 e53 e54 hi78) rfl hJ) ?_
       refine ac rfl (by
         intro k; rintro ⟨a100, c101, b102⟩ ρ σm hJ hoff hdep
         have e55 := hdep 3 rfl rfl 55 rfl
         exact dp_v (v := (pt b79 (o80 + 0))) wn (rv_fieldAddr (off := 0) (ft := 3) Tryz.underlying34 rfl ti3 rfl e55) rfl hJ) ?_
       refine all_cons (by
         refine ⟨?_, ?_⟩
         ·rintro ⟨a100, c101, b102⟩ ρ σm hJ hoff hdep
          have e56 := hdep 4 rfl rfl 56 rfl
          obtain ⟨H, m⟩ := id hJ
          have hc81 := ((H.own 9 rfl).at hx77 hi78).fst.int
          exact dp_v (v := (I x76.1)) wn (rv_load1 Tryz.underlying3 rfl e56 hc81) rfl hJ
         refine ⟨?_, ?_⟩
         ·rintro ⟨a100, c101, b102⟩ ρ σm hJ hoff hdep
          have e56 := hdep 4 rfl rfl 56 rfl
          obtain ⟨H, m⟩ := id hJ
          have hc81 := ((H.own 9 rfl).at hx77 hi78).fst.int
          exact dp_v (v := (I x76.1)) wn (rv_load1 Tryz.underlying3 rfl e56 hc81) rfl hJ
         refine ⟨?_, ?_⟩
         ·rintro ⟨a100, c101, b102⟩ ρ σm hJ hoff hdep
          have e56 := hdep 4 rfl rfl 56 rfl
          obtain ⟨H, m⟩ := id hJ
          have hc81 := ((H.own 10 rfl).at hx77 hi78).fst.int
          exact dp_v (v := (I x76.1)) wn (rv_load1 Tryz.underlying3 rfl e56 hc81) rfl hJ
         trivial) ?_
       refine all_cons (by
         refine ⟨?_, ?_⟩
         ·rintro ⟨a100, c101, b102⟩ ρ σm hJ hoff hdep
          have e3 := look_off (N := 76) (hoff 3 rfl) rfl
          obtain ⟨H, m⟩ := id hJ
          have hc82 := H.cells 8 rfl
          exact dp_v (v := (.agg #[(Sl a5 r2.1.1 c6), (Sl a7 r2.1.2 c8)])) wn (rv_load (cs := [(Sl a5 r2.1.1 c6), (Sl a7 r2.1.2 c8)]) Tryz.underlying25 rfl ti25 e3 rfl hc82) rfl hJ
         refine ⟨?_, ?_⟩
         ·rintro ⟨a100, c101, b102⟩ ρ σm hJ hoff hdep
          have e3 := look_off (N := 76) (hoff 3 rfl) rfl
          obtain ⟨H, m⟩ := id hJ
          have hc82 := H.cells 8 rfl
          exact dp_v (v := (.agg #[(Sl a5 r2.1.1 c6), (Sl a7 r2.1.2 c8)])) wn (rv_load (cs := [(Sl a5 r2.1.1 c6), (Sl a7 r2.1.2 c8)]) Tryz.underlying25 rfl ti25 e3 rfl hc82) rfl hJ
         trivial) ?_
       refine all_cons (by
         refine ⟨?_, ?_⟩
         ·rintro ⟨a100, c101, b102⟩ ρ σm hJ hoff hdep
          have e3 := look_off (N := 76) (hoff 3 rfl) rfl
          obtain ⟨H, m⟩ := id hJ
          have hc83 := H.cells 8 rfl
          exact dp_v (v := (.agg #[(Sl a5 r2.1.1 c6), (Sl a7 r2.1.2 c8)])) wn (rv_load (cs := [(Sl a5 r2.1.1 c6), (Sl a7 r2.1.2 c8)]) Tryz.underlying25 rfl ti25 e3 rfl hc83) rfl hJ
         trivial) ?_
       refine ac rfl (by
         intro k; rintro ⟨a100, c101, b102⟩ ρ σm hJ hoff hdep
         have e4 := look_off (N := 76) (hoff 4 rfl) rfl
         exact dp_v (v := (Sl a9 r2.2.1 c10)) wn (rv_move e4) rfl hJ) ?_
       refine ac rfl (by
         intro k; rintro ⟨a100, c101, b102⟩ ρ σm hJ hoff hdep
         have e9 := look_off (N := 76) (hoff 9 rfl) rfl
         exact dp_v (v := (I s67.2)) wn (rv_move e9) rfl hJ) ?_
       refine ac rfl (by
         intro k; rintro ⟨a100, c101, b102⟩ ρ σm hJ hoff hdep
         have e60 := hdep 8 rfl rfl 60 rfl
         have e61 := hdep 9 rfl rfl 61 rfl
         exact dp_v (v := (pt b87 o88)) wn (rv_ix Tryz.underlying26 ti34 e60 e61 hi86) rfl hJ) ?_
       refine ac rfl (by
         intro k; rintro ⟨a100, c101, b102⟩ ρ σm hJ hoff hdep
         have e62 := hdep 10 rfl rfl 62 rfl
         exact dp_v (v := (pt b87 (o88 + 1))) wn (rv_fieldAddr (off := 1) (ft := 27) Tryz.underlying34 rfl ti27 rfl e62) rfl hJ) ?_
       refine all_cons (by
         refine ⟨?_, ?_⟩
         ·rintro ⟨a100, c101, b102⟩ ρ σm hJ hoff hdep
          have e63 := hdep 11 rfl rfl 63 rfl
          obtain ⟨H, m⟩ := id hJ
          replace hc93 := m.hcell hc93 nocov
          exact dp_v (v := (Sl a89 x84.2.1 c90)) wn (rv_load1 Tryz.underlying27 rfl e63 hc93) rfl hJ
         trivial) ?_
       refine all_cons (by
         refine ⟨?_, ?_⟩
         ·rintro ⟨a100, c101, b102⟩ ρ σm hJ hoff hdep
          have e59 : look 76 ρ 59 = (.agg #[(Sl a5 r2.1.1 c6), (Sl a7 r2.1.2 c8)]) := hdep 7 rfl rfl 59 rfl
          have e64 : look 76 ρ 64 = (Sl a89 x84.2.1 c90) := hdep 12 rfl rfl 64 rfl
          obtain ⟨H, m⟩ := id hJ
          refine dp_cx wn (cx_call hc96 (ent_f hc96.fn (by show [look 76 ρ 59, look 76 ρ 64] = _; rw [e59, e64])) hn0 (H.sel' [4, 3, 2, 0, 1, 2, 3, 4, 5, 6, 7, 8, 9, 10, 11, 12] rfl rfl : Hp S0 σ0 _ ([_, _, _] ++ _))) ?_
          rintro _ σq ⟨_, ⟨rfl, rfl⟩, H2, m2⟩
          exact ⟨_, (a100, c101, b102), rfl, rfl, ⟨H2.sel' [0, 1, 2, 3, 4, 5, 6, 7, 8, 9, 10, 11, 12] rfl rfl, m.comp0 (m2.mono (fun i h => by simp [cov, Ch.ro] at h))⟩, stab [0, 1, 2, 3, 4, 5, 6, 7, 8, 9, 10, 11, 12] (by kernel_rfl) ⟨rfl, rfl, rfl, rfl, rfl, rfl, rfl, rfl, rfl, rfl, rfl, rfl, rfl, trivial⟩⟩
         trivial) ?_
       refine all_cons (by
         refine ⟨?_, ?_⟩
         ·rintro ⟨a100, c101, b102⟩ ρ σm hJ hoff hdep
          have e58 : look 76 ρ 58 = (.agg #[(Sl a5 r2.1.1 c6), (Sl a7 r2.1.2 c8)]) := hdep 6 rfl rfl 58 rfl
          have e65 : look 76 ρ 65 = (I r94) := hdep 13 rfl rfl 65 rfl
          obtain ⟨H, m⟩ := id hJ
          refine dp_cx wn (cx_call hc99 (ent_f hc99.fn (by show [look 76 ρ 58, look 76 ρ 65] = _; rw [e58, e65])) hn0 (H.sel' [1, 0, 0, 1, 2, 3, 4, 5, 6, 7, 8, 9, 10, 11, 12] rfl rfl : Hp S0 σ0 _ ([_, _] ++ _))) ?_
          rintro _ σq ⟨_, ⟨a100x, c101x, rfl, rfl⟩, H2, m2⟩
          obtain ⟨σr0, hwr0, H2, mr0⟩ := H2.pubSc 0 rfl
          exact ⟨_, (a100x, c101x, b102), hwr0, rfl, ⟨H2.sel' [0, 1, 2, 3, 4, 5, 6, 7, 8, 9, 10, 11, 12, 13] rfl rfl, m.comp (m2.comp mr0)⟩, stab [0, 1, 2, 3, 4, 5, 6, 7, 8, 9, 10, 11, 12, 13] (by kernel_rfl) ⟨rfl, rfl, rfl, rfl, rfl, rfl, rfl, rfl, rfl, rfl, rfl, rfl, rfl, rfl, trivial⟩⟩
         trivial) ?_
       refine ac rfl (by
         intro k; rintro ⟨a100, c101, b102⟩ ρ σm hJ hoff hdep
         have e57 : look 76 ρ 57 = (I x76.1) := hdep 5 rfl rfl 57 rfl
         have e66 : look 76 ρ 66 = (Sl a100 r97 c101) := hdep 14 rfl rfl 66 rfl
         exact dp_v (v := (.agg #[(I x76.1), (Sl a100 r97 c101), (I 0)])) wn (rv_build (ps := [(0, (I x76.1)), (1, (Sl a100 r97 c101))]) Tryz.underlying34 ti34 (bp34 Tryz.underlying34) (by show [(0, look 76 ρ 57), (1, look 76 ρ 66)] = _; rw [e57, e66]) (by kernel_rfl)) rfl hJ) ?_
       refine all_cons (by
         refine ⟨?_, ?_⟩
         ·rintro ⟨a100, c101, b102⟩ ρ σm hJ hoff hdep
          have e67 : look 76 ρ 67 = (.agg #[(I x76.1), (Sl a100 r97 c101), (I 0)]) := hdep 15 rfl rfl 67 rfl
          obtain ⟨H, m⟩ := id hJ
          refine dp_ex wn (ex_buildSlice (el := 0) (xs := ([(x76.1, r97, 0)] : List (Int × (List Int) × Int))) (ps := [(0, (.agg #[(I x76.1), (Sl a100 r97 c101), (I 0)]))]) (cs := [(I x76.1), (Sl a100 r97 c101), (I 0)]) H hn0 Tryz.underlying26 ti34 rfl (by show [(0, look 76 ρ 67)] = _; rw [e67]) (by kernel_rfl) (.cons (c := [(I x76.1), (Sl a100 r97 c101), (I 0)]) ⟨[(I x76.1)], [(Sl a100 r97 c101), (I 0)], rfl, rfl, ⟨[(Sl a100 r97 c101)], [(I 0)], rfl, ⟨_, rfl, (H.ro 0 rfl)⟩, rfl⟩⟩ (.nil)) rfl) ?_
          rintro _ σq ⟨b102x, rfl, H2, m2⟩
          exact ⟨_, (a100, c101, b102x), rfl, rfl, ⟨H2.sel' [0, 1, 2, 3, 4, 5, 6, 7, 8, 9, 10, 11, 12, 13, 14] rfl rfl, m.comp0 m2⟩, stab [0, 1, 2, 3, 4, 5, 6, 7, 8, 9, 10, 11, 12, 13, 14, 15] (by kernel_rfl) ⟨rfl, rfl, rfl, rfl, rfl, rfl, rfl, rfl, rfl, rfl, rfl, rfl, rfl, rfl, rfl, rfl, trivial⟩⟩
         trivial) ?_
       exact all_nil
      ·rintro ⟨a100, c101, b102⟩ ρ σ103 hJ hoff hrel
       have e3 := look_off (N := 76) (hoff 3 rfl) rfl
       have e4 := look_off (N := 76) (hoff 4 rfl) rfl
       have e5 := look_off (N := 76) (hoff 5 rfl) rfl
       have e6 := look_off (N := 76) (hoff 6 rfl) rfl
       have e7 := look_off (N := 76) (hoff 7 rfl) rfl
       have e9 := look_off (N := 76) (hoff 9 rfl) rfl
       have e52 := hrel 0 rfl 52 rfl
       have e68 := hrel 16 rfl 68 rfl
       obtain ⟨H, -⟩ := (show Hp S0 σ0 σ103 [Ch.own n0 0 (Sl (some ⟨b102, 0, none⟩) ([(x76.1, r97, 0)] : List (Int × (List Int) × Int)) 1) ([(x76.1, r97, 0)] : List (Int × (List Int) × Int)), Ch.ro 0 (Sl a100 r97 c101) r97, Ch.ro 0 (Sl a7 r2.1.2 c8) r2.1.2, Ch.ro 0 (Sl a5 r2.1.1 c6) r2.1.1, Ch.ro 0 (Sl a89 x84.2.1 c90) x84.2.1, Ch.ro 0 (Sl a7 r2.1.2 c8) r2.1.2, Ch.ro 0 (Sl a5 r2.1.1 c6) r2.1.1, Ch.ro n0 (Sl a89 x84.2.1 c90) x84.2.1, Ch.ro n0 (Sl a5 r2.1.1 c6) r2.1.1, Ch.ro n0 (Sl a7 r2.1.2 c8) r2.1.2, Ch.bx n0 b14 0 [(Sl a5 r2.1.1 c6), (Sl a7 r2.1.2 c8)] [] [], Ch.own n0 n0 (Sl a9 r2.2.1 c10) r2.2.1, Ch.own n0 n0 (Sl a11 r2.2.2.1 c12) r2.2.2.1, Ch.own 0 n0 (Sl a21 r18 c22) r18, Ch.own n0 0 (Sl a73 s67.1 c74) s67.1] ∧ Md (fun i => (cov []) i ∨ (fun i => (cov [Ch.ro 0 (Sl a5 r2.1.1 c6) r2.1.1, Ch.ro 0 (Sl a7 r2.1.2 c8) r2.1.2]) i ∨ (fun b => blk (Sl a100 r97 c101) = some b) i) i) σ72 σ103 from hJ)
       clear hJ Hs
       rw [fr_lookL (L := [(3, (pt b14 0)), (4, (Sl a9 r2.2.1 c10)), (5, (Sl a11 r2.2.2.1 c12)), (6, (I r2.2.2.2)), (7, (Sl a21 r18 c22)), (9, (I s67.2)), (52, (Sl a73 s67.1 c74)), (68, (Sl (some ⟨b102, 0, none⟩) ([(x76.1, r97, 0)] : List (Int × (List Int) × Int)) 1))]) ⟨e3, e4, e5, e6, e7, e9, e52, e68, trivial⟩]
       clear hoff hrel e3 e4 e5 e6 e7 e9 e52 e68
       revert h; refine br fun xs104 hx105 h => ?_
       refine st_ex (ex_append H (i := 14) rfl Tryz.underlying26 Tryz.underlying26 ti34 rfl rfl (by decide) (H.own 0 rfl).rd hx105 hn0 rfl rfl) wn ?_
       rintro _ σ108 ⟨a106, c107, rfl, H, -⟩
       replace H : Hp S0 σ0 σ108 [Ch.own n0 0 (Sl a106 xs104 c107) xs104, Ch.ro n0 (Sl a5 r2.1.1 c6) r2.1.1, Ch.ro n0 (Sl a7 r2.1.2 c8) r2.1.2, Ch.bx n0 b14 0 [(Sl a5 r2.1.1 c6), (Sl a7 r2.1.2 c8)] [] [], Ch.own n0 n0 (Sl a9 r2.2.1 c10) r2.2.1, Ch.own n0 n0 (Sl a11 r2.2.2.1 c12) r2.2.2.1, Ch.own 0 n0 (Sl a21 r18 c22) r18] := H.sel' [0, 9, 10, 11, 12, 13, 14] rfl rfl
       refine sa (Sl a106 xs104 c107) rfl (w_end (q_blk (q_then (rg (sm (I s67.2) rfl (st (v := (I (w64 (s67.2 + 1)))) (rv_add (a := s67.2) (b := 1) rfl rfl) (sa (I (w64 (s67.2 + 1))) rfl (w_end (q_then ?_)))))))))
       obtain rfl := sj h
       exact ⟨_, rfl, _, σ108, a106, c107, fr_join ⟨rfl, rfl, rfl, rfl, rfl, rfl, rfl, trivial⟩, rfl, H.sel' [1, 2, 3, 4, 5, 6, 0] rfl rfl⟩
     ·replace h := bif_f hb75 h
      refine c_exit (q_then_x (q_then_x (q_blk_hit ?_)))
      obtain rfl := sj h
      obtain rfl := hres _ rfl
      exact ⟨rfl, _, σ72, a73, c74, fr_join ⟨rfl, rfl, rfl, rfl, trivial⟩, rfl, H.sel' [4, 5, 6] rfl rfl⟩
    ·clear hj
     have h := h'
     clear h' H
     rintro e a w ⟨rfl, ρ, σ109, a110, c111, rfl, rfl, H⟩
     refine q_then (c_seq (rg (sm (Sl a110 o66 c111) rfl (sm (Sl a11 r2.2.2.1 c12) rfl (sm (I r2.2.2.2) rfl ?_)))))
     obtain ⟨σ112, hw113, H, -⟩ := H.pub 2 rfl (Nat.zero_le _)
     rw [← hw113]; clear hw113
     obtain ⟨σ114, hw115, H, -⟩ := H.pub 1 rfl (Nat.le_refl _)
     rw [← hw115]; clear hw115
     replace H := H.roLow 0 0 rfl (Nat.zero_le _)
     revert h; refine br fun r116 hx117 h => ?_
     have hc118 := c_impl_Nearest (Au := a110) (Av := c111) (Cc := a11) (Cd := c12) hx117
     refine st_call (cx_call hc118 (ent_f hc118.fn rfl) hn0 (H.sel' [2, 0, 0, 1, 2, 3] rfl rfl : Hp S0 σ0 _ ([_, _] ++ _))) wn ?_
     rintro _ σ121 ⟨_, ⟨a119, c120, rfl, rfl⟩, H, -⟩
     replace H : Hp _ _ _ [_, _, _, _, _] := H
     refine sm (Sl a21 r18 c22) rfl ?_
     replace H := H.ownLow 0 0 0 rfl (Nat.le_refl _) (Nat.zero_le _)
     obtain ⟨σ122, hw123, H, -⟩ := H.pub 0 rfl (Nat.le_refl _)
     rw [← hw123]; clear hw123
     replace H := H.ownLow 4 0 0 rfl (Nat.le_refl _) (Nat.zero_le _)
     obtain ⟨σ124, hw125, H, -⟩ := H.pub 0 rfl (Nat.le_refl _)
     rw [← hw125]; clear hw125
     revert h; refine br fun r126 hx127 h => ?_
     have hc128 := c_laws_equalHits (Gc := a119) (Gd := c120) (Ge := a21) (Gf := c22) hx127
     refine st_call (cx_call hc128 (ent_f hc128.fn rfl) hn0 (H.sel' [1, 0, 0, 1, 2, 3, 4] rfl rfl : Hp S0 σ0 _ ([_, _] ++ _))) wn ?_
     rintro _ σ129 ⟨_, ⟨rfl, rfl⟩, H, -⟩
     replace H : Hp _ _ _ [_, _, _, _, _] := H
     refine sa (B r126) rfl (w_end (q_then (c_ret ?_)))
     obtain rfl := sj h
     exact fin_ret (v := (B r126)) (results_ok Tryz.results3 (res_tmp (v := (B r126)) rfl res_nil) rfl) ⟨rfl, rfl⟩ (H.sel' [] rfl rfl)

end Go.Vs
