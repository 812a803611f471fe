/- The functions compute what their models say. -/
import Derived.Test.YtjcaokajkkkniaaKHashOfC1
set_option linter.unusedVariables false
set_option linter.unusedSimpArgs false
set_option maxRecDepth 20000
namespace Go.Vs
open Go Go.Proofs
attribute [local irreducible] Code.wp Code.wpIn wpList wpListIn wpQuiet Calls CallsIn

theorem c_laws_FnHashOf {code_0 : List UInt8} {acode_0 : Option Addr} {ccode_0 : Nat} {r : Bool} (h : M.laws_FnHashOf code_0 = some r) :
    Cal2 Try.prog 10 [(Sl acode_0 code_0 ccode_0)] [Ch.ro 0 (Sl acode_0 code_0 ccode_0) code_0] (fun n0 v L => v = (B r) ∧ L = []) := by
 refine cal2 (n := 83) Try.func10 rfl rfl rfl rfl ?_
 intro S0 σ0 n0 hn0 H
 unfold M.laws_FnHashOf at h
 refine c_seq ?_
 refine rg ?_
 refine st (v := (B false)) (rv_assign rfl) ?_
 refine w_end ?_
 refine q_then ?_
 refine c_seq ?_
 refine c_seq ?_
 refine rg ?_
 refine st (v := (Sl acode_0 code_0 ccode_0)) (rv_move rfl) ?_
 refine st (v := (I (code_0.length : Int))) (rv_len Try.underlying22 rfl) ?_
 refine st (v := (B (decide (1048576 < (code_0.length : Int))))) (rv_gtr (a := (code_0.length : Int)) (b := 1048576) rfl rfl) ?_
 refine w_end ?_
 refine q_then ?_
 refine cd_cond (decide (1048576 < (code_0.length : Int))) rfl (fun hb1 => ?_) (fun hb1 => ?_)
 ·replace h := bif_t hb1 h
  refine c_seq ?_
  refine rg ?_
  refine st (v := (B true)) (rv_assign rfl) ?_
  refine w_end ?_
  refine q_then ?_
  refine c_ret ?_
  refine q_then_r ?_
  obtain rfl := Option.some.inj h
  exact fin_ret (v := (B true)) (results_ok Try.results10 (res_tmp (v := (B true)) rfl res_nil) rfl) ⟨rfl, rfl⟩ (H.sel' [] rfl rfl)
 ·replace h := bif_f hb1 h
  refine c_skip ?_
  refine q_then ?_
  refine c_seq ?_
  refine rg ?_
  refine st (v := (Sl acode_0 code_0 ccode_0)) (rv_move rfl) ?_
  obtain ⟨r2, hx3, h'⟩ := bind_some h
  clear h
  have h := h'; clear h'
  have hc4 := c_spec_DrawHashOf (acode_0 := acode_0) (ccode_0 := ccode_0) hx3
  refine st_call (cx_call hc4 (ent_f hc4.fn rfl) hn0 (show Hp S0 σ0 _ ([Ch.ro 0 (Sl acode_0 code_0 ccode_0) code_0] ++ [Ch.ro 0 (Sl acode_0 code_0 ccode_0) code_0]) from (H.sel' [0, 0] rfl rfl))) wn ?_
  rintro _ σ9 ⟨_, ⟨a5, c6, a7, c8, rfl, rfl⟩, H, -⟩
  replace H : Hp S0 σ0 σ9 [Ch.own n0 n0 (Sl a5 r2.1 c6) r2.1, Ch.own n0 n0 (Sl a7 r2.2 c8) r2.2, Ch.ro 0 (Sl acode_0 code_0 ccode_0) code_0] := H
  refine st (v := (.tuple #[(Sl a5 r2.1 c6), (Sl a7 r2.2 c8)])) (rv_move rfl) ?_
  refine st (v := (Sl a5 r2.1 c6)) (rv_extract rfl rfl) ?_
  refine st (v := (Sl a7 r2.2 c8)) (rv_extract rfl rfl) ?_
  refine st (v := (Sl a5 r2.1 c6)) (rv_assign rfl) ?_
  refine st (v := (Sl a7 r2.2 c8)) (rv_assign rfl) ?_
  refine w_end ?_
  refine q_then ?_
  refine c_seq ?_
  refine rg ?_
  refine st (v := (Sl a5 r2.1 c6)) (rv_move rfl) ?_
  refine st (v := (Sl a7 r2.2 c8)) (rv_move rfl) ?_
  obtain ⟨r10, hx11, h'⟩ := bind_some h
  clear h
  have h := h'; clear h'
  have hc12 := c_impl_HashOf (aplanes_0 := a5) (cplanes_0 := c6) (aat_1 := a7) (cat_1 := c8) hx11
  have hle := Nat.le_trans hn0 H.size
  refine st_call (cx_lend (Loan.lend (Loan.lend Loan.nil)) hc12 (ent_f hc12.fn rfl) (show Hp S0 σ0 _ ([Ch.own n0 n0 (Sl a5 r2.1 c6) r2.1, Ch.own n0 n0 (Sl a7 r2.2 c8) r2.2] ++ ([] ++ [Ch.ro 0 (Sl acode_0 code_0 ccode_0) code_0])) from (H.sel' [0, 1, 2] rfl rfl)) (by rintro _ _ _ ⟨rfl, rfl⟩; exact trivial)) wn ?_
  rintro _ σ13 ⟨_, ⟨rfl, rfl⟩, H, -, -⟩
  replace H : Hp S0 σ0 σ13 [Ch.own n0 n0 (Sl a5 r2.1 c6) r2.1, Ch.own n0 n0 (Sl a7 r2.2 c8) r2.2, Ch.ro 0 (Sl acode_0 code_0 ccode_0) code_0] := H
  clear hle
  replace H : Hp S0 σ0 σ13 [Ch.own n0 n0 (Sl a5 r2.1 c6) r2.1, Ch.own n0 n0 (Sl a7 r2.2 c8) r2.2, Ch.ro 0 (Sl acode_0 code_0 ccode_0) code_0] := H
  refine st (v := (I r10)) (rv_assign rfl) ?_
  refine w_end ?_
  refine q_then ?_
  refine c_seq ?_
  refine c_seq ?_
  obtain ⟨o14, hj, h'⟩ := bind_some h
  clear h
  refine c_cut (fun e a w => e = .normal ∧ ∃ (ρ : Nat → Value) (σ : St), a = fr 83 (updL ρ [(3, (Sl a5 r2.1 c6)), (4, (Sl a7 r2.2 c8)), (5, (I r10)), (33, (B o14))]) ∧ w = σ.w ∧ Hp S0 σ0 σ [Ch.own n0 n0 (Sl a5 r2.1 c6) r2.1, Ch.own n0 n0 (Sl a7 r2.2 c8) r2.2]) ?_ ?_
  ·clear h'
   rename _ = some o14 => h
   refine rg ?_
   refine st (v := (I r10)) (rv_move rfl) ?_
   refine st (v := (Sl a5 r2.1 c6)) (rv_move rfl) ?_
   refine st (v := (Sl a7 r2.2 c8)) (rv_move rfl) ?_
   obtain ⟨r15, hx16, h'⟩ := bind_some h
   clear h
   have h := h'; clear h'
   have hc17 := c_spec_HashOf (aplanes_0 := a5) (cplanes_0 := c6) (aat_1 := a7) (cat_1 := c8) hx16
   have hle := Nat.le_trans hn0 H.size
   refine st_call (cx_lend (Loan.lend (Loan.lend Loan.nil)) hc17 (ent_f hc17.fn rfl) (show Hp S0 σ0 _ ([Ch.own n0 n0 (Sl a5 r2.1 c6) r2.1, Ch.own n0 n0 (Sl a7 r2.2 c8) r2.2] ++ ([] ++ [Ch.ro 0 (Sl acode_0 code_0 ccode_0) code_0])) from (H.sel' [0, 1, 2] rfl rfl)) (by rintro _ _ _ ⟨rfl, rfl⟩; exact trivial)) wn ?_
   rintro _ σ18 ⟨_, ⟨rfl, rfl⟩, H, -, -⟩
   replace H : Hp S0 σ0 σ18 [Ch.own n0 n0 (Sl a5 r2.1 c6) r2.1, Ch.own n0 n0 (Sl a7 r2.2 c8) r2.2, Ch.ro 0 (Sl acode_0 code_0 ccode_0) code_0] := H
   clear hle
   replace H : Hp S0 σ0 σ18 [Ch.own n0 n0 (Sl a5 r2.1 c6) r2.1, Ch.own n0 n0 (Sl a7 r2.2 c8) r2.2, Ch.ro 0 (Sl acode_0 code_0 ccode_0) code_0] := H
   refine st (v := (B (r10 != r15))) (rv_neq (a := r10) (b := r15) rfl rfl) ?_
   refine st (v := (B (r10 != r15))) (rv_move rfl) ?_
   rcases Bool.eq_false_or_eq_true (r10 != r15) with hb19 | hb19
   ·replace h := bif_t hb19 h
    refine st_skip (congrArg some hb19) ?_
    refine st_skip (congrArg some hb19) ?_
    refine st (v := (B true)) (rv_pick_t (congrArg B hb19) rfl) ?_
    refine st (v := (B true)) (rv_move rfl) ?_
    refine st_skip rfl ?_
    refine st_skip rfl ?_
    refine st_skip rfl ?_
    refine st (v := (B true)) (rv_pick_t rfl rfl) ?_
    refine w_end ?_
    obtain rfl := Option.some.inj h
    exact ⟨rfl, _, σ18, fr_join ⟨rfl, rfl, rfl, rfl, trivial⟩, rfl, H.sel' [0, 1] rfl rfl⟩
   ·replace h := bif_f hb19 h
    refine st_g (v := (I r10)) (congrArg some hb19) (rv_move rfl) ?_
    refine st_g (v := (B (decide (r10 < 0)))) (congrArg some hb19) (rv_lss (a := r10) (b := 0) rfl rfl) ?_
    refine st (v := (B (decide (r10 < 0)))) (rv_pick_f (congrArg B hb19) rfl) ?_
    refine st (v := (B (decide (r10 < 0)))) (rv_move rfl) ?_
    rcases Bool.eq_false_or_eq_true (decide (r10 < 0)) with hb20 | hb20
    ·replace h := bif_t hb20 h
     refine st_skip (congrArg some hb20) ?_
     refine st_skip (congrArg some hb20) ?_
     refine st_skip (congrArg some hb20) ?_
     refine st (v := (B true)) (rv_pick_t (congrArg B hb20) rfl) ?_
     refine w_end ?_
     obtain rfl := Option.some.inj h
     exact ⟨rfl, _, σ18, fr_join ⟨rfl, rfl, rfl, rfl, trivial⟩, rfl, H.sel' [0, 1] rfl rfl⟩
    ·replace h := bif_f hb20 h
     refine st_g (v := (Sl a5 r2.1 c6)) (congrArg some hb20) (rv_move rfl) ?_
     refine st_g (v := (I (r2.1.length : Int))) (congrArg some hb20) (rv_len Try.underlying23 rfl) ?_
     refine st_g (v := (B (decide ((r2.1.length : Int) < 2)))) (congrArg some hb20) (rv_lss (a := (r2.1.length : Int)) (b := 2) rfl rfl) ?_
     refine st (v := (B (decide ((r2.1.length : Int) < 2)))) (rv_pick_f (congrArg B hb20) rfl) ?_
     refine w_end ?_
     obtain rfl := Option.some.inj h
     exact ⟨rfl, _, σ18, fr_join ⟨rfl, rfl, rfl, rfl, trivial⟩, rfl, H.sel' [0, 1] rfl rfl⟩
  ·clear hj
   have h := h'
   clear h' H
   rintro e a w ⟨rfl, ρ, σ21, rfl, rfl, H⟩
   refine q_then ?_
   refine cd_cond o14 rfl (fun hb22 => ?_) (fun hb22 => ?_)
   ·replace h := bif_t hb22 h
    refine c_seq ?_
    refine rg ?_
    refine st (v := (I r10)) (rv_move rfl) ?_
    refine st (v := (Sl a5 r2.1 c6)) (rv_move rfl) ?_
    refine st (v := (Sl a7 r2.2 c8)) (rv_move rfl) ?_
    obtain ⟨σ23, hw24, H, -⟩ := H.pub 0 rfl (Nat.le_refl _)
    rw [← hw24]; clear hw24
    obtain ⟨σ25, hw26, H, -⟩ := H.pub 1 rfl (Nat.le_refl _)
    rw [← hw26]; clear hw26
    replace H := H.roLow 1 0 rfl (Nat.zero_le _)
    replace H := H.roLow 1 0 rfl (Nat.zero_le _)
    obtain ⟨r27, hx28, h'⟩ := bind_some h
    clear h
    have h := h'; clear h'
    have hc29 := c_spec_HashOf (aplanes_0 := a5) (cplanes_0 := c6) (aat_1 := a7) (cat_1 := c8) hx28
    refine st_call (cx_call hc29 (ent_f hc29.fn rfl) hn0 (show Hp S0 σ0 _ ([Ch.ro 0 (Sl a5 r2.1 c6) r2.1, Ch.ro 0 (Sl a7 r2.2 c8) r2.2] ++ [Ch.ro 0 (Sl a7 r2.2 c8) r2.2, Ch.ro 0 (Sl a5 r2.1 c6) r2.1, Ch.ro n0 (Sl a7 r2.2 c8) r2.2, Ch.ro n0 (Sl a5 r2.1 c6) r2.1]) from (H.sel' [1, 0, 0, 1, 2, 3] rfl rfl))) wn ?_
    rintro _ σ30 ⟨_, ⟨rfl, rfl⟩, H, -⟩
    replace H : Hp S0 σ0 σ30 [Ch.ro 0 (Sl a7 r2.2 c8) r2.2, Ch.ro 0 (Sl a5 r2.1 c6) r2.1, Ch.ro n0 (Sl a7 r2.2 c8) r2.2, Ch.ro n0 (Sl a5 r2.1 c6) r2.1] := H
    refine st (v := (B (r10 == r27))) (rv_eql (a := r10) (b := r27) rfl rfl) ?_
    refine st (v := (B (r10 == r27))) (rv_assign rfl) ?_
    refine w_end ?_
    refine q_then ?_
    refine c_ret ?_
    refine q_then_r ?_
    obtain rfl := Option.some.inj h
    exact fin_ret (v := (B (r10 == r27))) (results_ok Try.results10 (res_tmp (v := (B (r10 == r27))) rfl res_nil) rfl) ⟨rfl, rfl⟩ (H.sel' [] rfl rfl)
   ·replace h := bif_f hb22 h
    refine c_skip ?_
    refine q_then ?_
    refine c_seq ?_
    refine rg ?_
    refine st (v := (Sl a5 r2.1 c6)) (rv_move rfl) ?_
    refine st (v := (Sl a5 r2.1 c6)) (rv_move rfl) ?_
    refine st (v := (I (r2.1.length : Int))) (rv_len Try.underlying23 rfl) ?_
    refine st (v := (I (w64 ((r2.1.length : Int) - 1)))) (rv_sub (a := (r2.1.length : Int)) (b := 1) rfl rfl) ?_
    obtain ⟨xs31, hx32, h'⟩ := bind_some h
    clear h
    have h := h'; clear h'
    obtain ⟨σ37, hw38, H, -⟩ := H.pub 0 rfl (Nat.le_refl _)
    rw [← hw38]; clear hw38
    obtain ⟨a33, c34, hs35, hR36⟩ := (H.ro 0 rfl).slice hx32
    replace H := H.add (d := Ch.ro n0 (Sl a33 xs31 c34) xs31) hR36 (fun _ h => h)
    clear hR36
    refine st (v := (Sl a33 xs31 c34)) (rv_slice_h Try.underlying23 ti29 hs35 rfl rfl) ?_
    refine st (v := (Sl a7 r2.2 c8)) (rv_move rfl) ?_
    replace H := H.roLow 0 0 rfl (Nat.zero_le _)
    obtain ⟨r39, hx40, h'⟩ := bind_some h
    clear h
    have h := h'; clear h'
    have hc41 := c_impl_HashOf (aplanes_0 := a33) (cplanes_0 := c34) (aat_1 := a7) (cat_1 := c8) hx40
    have hle := Nat.le_trans hn0 H.size
    refine st_call (cx_lend (Loan.same (Loan.lend Loan.nil)) hc41 (ent_f hc41.fn rfl) (show Hp S0 σ0 _ ([Ch.own n0 n0 (Sl a7 r2.2 c8) r2.2] ++ ([Ch.ro 0 (Sl a33 xs31 c34) xs31] ++ [Ch.ro 0 (Sl a33 xs31 c34) xs31, Ch.ro n0 (Sl a33 xs31 c34) xs31, Ch.ro n0 (Sl a5 r2.1 c6) r2.1])) from (H.sel' [3, 0, 0, 1, 2] rfl rfl)) (by rintro _ _ _ ⟨rfl, rfl⟩; exact trivial)) wn ?_
    rintro _ σ42 ⟨_, ⟨rfl, rfl⟩, H, -, -⟩
    replace H : Hp S0 σ0 σ42 [Ch.own n0 n0 (Sl a7 r2.2 c8) r2.2, Ch.ro 0 (Sl a33 xs31 c34) xs31, Ch.ro n0 (Sl a33 xs31 c34) xs31, Ch.ro n0 (Sl a5 r2.1 c6) r2.1] := H
    clear hle
    replace H : Hp S0 σ0 σ42 [Ch.own n0 n0 (Sl a7 r2.2 c8) r2.2, Ch.ro 0 (Sl a33 xs31 c34) xs31, Ch.ro n0 (Sl a33 xs31 c34) xs31, Ch.ro n0 (Sl a5 r2.1 c6) r2.1] := H
    refine st (v := (I r39)) (rv_assign rfl) ?_
    refine w_end ?_
    refine q_then ?_
    refine c_seq ?_
    refine rg ?_
    refine st (v := (Sl a5 r2.1 c6)) (rv_move rfl) ?_
    refine st (v := (Sl a5 r2.1 c6)) (rv_move rfl) ?_
    refine st (v := (I (r2.1.length : Int))) (rv_len Try.underlying23 rfl) ?_
    refine st (v := (I (w64 ((r2.1.length : Int) - 1)))) (rv_sub (a := (r2.1.length : Int)) (b := 1) rfl rfl) ?_
    obtain ⟨x43, hx44, h'⟩ := bind_some h
    clear h
    have h := h'; clear h'
    obtain ⟨b46, o47, hi45, -⟩ := (H.ro 3 rfl).ix hx44
    refine st (v := (pt b46 o47)) (rv_ix Try.underlying23 ti29 rfl rfl hi45) ?_
    obtain ⟨v51, hc52, hR50⟩ := ((H.ro 3 rfl).at hx44 hi45).slice
    obtain ⟨a48, c49, rfl⟩ := hR50.isSl
    replace H := H.add (d := Ch.ro n0 (Sl a48 x43 c49) x43) hR50 (fun _ h => h)
    clear hR50
    refine st (v := (Sl a48 x43 c49)) (rv_load1 Try.underlying29 rfl rfl hc52) ?_
    refine st (v := (Sl a7 r2.2 c8)) (rv_move rfl) ?_
    obtain ⟨σ53, hw54, H, -⟩ := H.pub 1 rfl (Nat.le_refl _)
    rw [← hw54]; clear hw54
    replace H := H.roLow 1 0 rfl (Nat.zero_le _)
    replace H := H.roLow 1 0 rfl (Nat.zero_le _)
    obtain ⟨r55, hx56, h'⟩ := bind_some h
    clear h
    have h := h'; clear h'
    have hc57 := c_impl_DotOf (aa_0 := a48) (ca_0 := c49) (ab_1 := a7) (cb_1 := c8) hx56
    refine st_call (cx_call hc57 (ent_f hc57.fn rfl) hn0 (show Hp S0 σ0 _ ([Ch.ro 0 (Sl a48 x43 c49) x43, Ch.ro 0 (Sl a7 r2.2 c8) r2.2] ++ [Ch.ro 0 (Sl a7 r2.2 c8) r2.2, Ch.ro 0 (Sl a48 x43 c49) x43, Ch.ro n0 (Sl a7 r2.2 c8) r2.2, Ch.ro n0 (Sl a48 x43 c49) x43, Ch.ro 0 (Sl a33 xs31 c34) xs31, Ch.ro n0 (Sl a33 xs31 c34) xs31, Ch.ro n0 (Sl a5 r2.1 c6) r2.1]) from (H.sel' [1, 0, 0, 1, 2, 3, 4, 5, 6] rfl rfl))) wn ?_
    rintro _ σ58 ⟨_, ⟨rfl, rfl⟩, H, -⟩
    replace H : Hp S0 σ0 σ58 [Ch.ro 0 (Sl a7 r2.2 c8) r2.2, Ch.ro 0 (Sl a48 x43 c49) x43, Ch.ro n0 (Sl a7 r2.2 c8) r2.2, Ch.ro n0 (Sl a48 x43 c49) x43, Ch.ro 0 (Sl a33 xs31 c34) xs31, Ch.ro n0 (Sl a33 xs31 c34) xs31, Ch.ro n0 (Sl a5 r2.1 c6) r2.1] := H
    refine st (v := (.tuple #[(I r55.1), (B r55.2)])) (rv_move rfl) ?_
    refine st (v := (I r55.1)) (rv_extract rfl rfl) ?_
    refine st (v := (B r55.2)) (rv_extract rfl rfl) ?_
    refine st (v := (I r55.1)) (rv_assign rfl) ?_
    refine st (v := (B r55.2)) (rv_assign rfl) ?_
    refine w_end ?_
    refine q_then ?_
    refine c_seq ?_
    refine rg ?_
    refine st (v := (B r55.2)) (rv_move rfl) ?_
    refine st (v := (B r55.2)) (rv_move rfl) ?_
    rcases Bool.eq_false_or_eq_true r55.2 with hb59 | hb59
    ·replace h := bif_t hb59 h
     refine st_g (v := (I r55.1)) (congrArg some hb59) (rv_move rfl) ?_
     refine st_g (v := (B (decide (0 ≤ r55.1)))) (congrArg some hb59) (rv_geq (a := r55.1) (b := 0) rfl rfl) ?_
     refine st_g (v := (B (decide (0 ≤ r55.1)))) (congrArg some hb59) (rv_move rfl) ?_
     rcases Bool.eq_false_or_eq_true (decide (0 ≤ r55.1)) with hb60 | hb60
     ·replace h := bif_t hb60 h
      refine st_g (v := (I r10)) (congrArg some hb60) (rv_move rfl) ?_
      refine st_g (v := (I r39)) (congrArg some hb60) (rv_move rfl) ?_
      refine st_g (v := (I (w64 (2 * r39)))) (congrArg some hb60) (rv_mul (a := 2) (b := r39) rfl rfl) ?_
      refine st_g (v := (I (w64 ((w64 (2 * r39)) + 1)))) (congrArg some hb60) (rv_add (a := (w64 (2 * r39))) (b := 1) rfl rfl) ?_
      refine st_g (v := (B (r10 == (w64 ((w64 (2 * r39)) + 1))))) (congrArg some hb60) (rv_eql (a := r10) (b := (w64 ((w64 (2 * r39)) + 1))) rfl rfl) ?_
      refine st_g (v := (B (r10 == (w64 ((w64 (2 * r39)) + 1))))) (congrArg some hb59) (rv_pick_t (congrArg B hb60) rfl) ?_
      refine st_g (v := (B (r10 == (w64 ((w64 (2 * r39)) + 1))))) (congrArg some hb59) (rv_move rfl) ?_
      rcases Bool.eq_false_or_eq_true (r10 == (w64 ((w64 (2 * r39)) + 1))) with hb61 | hb61
      ·replace h := bif_t hb61 h
       refine st_skip (congrArg some hb61) ?_
       refine st_skip (congrArg some hb61) ?_
       refine st_skip (congrArg some hb61) ?_
       refine st_skip_u rfl ?_
       refine st_skip_u rfl ?_
       refine st_skip_u rfl ?_
       refine st_skip_u rfl ?_
       refine st_skip (congrArg some hb61) ?_
       refine st_g (v := (B true)) (congrArg some hb59) (rv_pick_t (congrArg B hb61) rfl) ?_
       refine st (v := (B true)) (rv_pick_t (congrArg B hb59) rfl) ?_
       refine st (v := (B true)) (rv_move rfl) ?_
       refine st_g (v := (I r10)) rfl (rv_move rfl) ?_
       refine st_g (v := (B (decide (r10 ≤ 63)))) rfl (rv_leq (a := r10) (b := 63) rfl rfl) ?_
       refine st (v := (B (decide (r10 ≤ 63)))) (rv_pick_t rfl rfl) ?_
       refine st (v := (B (decide (r10 ≤ 63)))) (rv_assign rfl) ?_
       refine w_end ?_
       refine q_then ?_
       refine c_ret ?_
       obtain rfl := Option.some.inj h
       exact fin_ret (v := (B (decide (r10 ≤ 63)))) (results_ok Try.results10 (res_tmp (v := (B (decide (r10 ≤ 63)))) rfl res_nil) rfl) ⟨rfl, rfl⟩ (H.sel' [] rfl rfl)
      ·replace h := bif_f hb61 h
       refine st_g (v := (I r55.1)) (congrArg some hb61) (rv_move rfl) ?_
       refine st_g (v := (B (decide (r55.1 < 0)))) (congrArg some hb61) (rv_lss (a := r55.1) (b := 0) rfl rfl) ?_
       refine st_g (v := (B (decide (r55.1 < 0)))) (congrArg some hb61) (rv_move rfl) ?_
       rcases Bool.eq_false_or_eq_true (decide (r55.1 < 0)) with hb62 | hb62
       ·replace h := bif_t hb62 h
        refine st_g (v := (I r10)) (congrArg some hb62) (rv_move rfl) ?_
        refine st_g (v := (I r39)) (congrArg some hb62) (rv_move rfl) ?_
        refine st_g (v := (I (w64 (2 * r39)))) (congrArg some hb62) (rv_mul (a := 2) (b := r39) rfl rfl) ?_
        refine st_g (v := (B (r10 == (w64 (2 * r39))))) (congrArg some hb62) (rv_eql (a := r10) (b := (w64 (2 * r39))) rfl rfl) ?_
        refine st_g (v := (B (r10 == (w64 (2 * r39))))) (congrArg some hb61) (rv_pick_t (congrArg B hb62) rfl) ?_
        refine st_g (v := (B (r10 == (w64 (2 * r39))))) (congrArg some hb59) (rv_pick_f (congrArg B hb61) rfl) ?_
        refine st (v := (B (r10 == (w64 (2 * r39))))) (rv_pick_t (congrArg B hb59) rfl) ?_
        refine st (v := (B (r10 == (w64 (2 * r39))))) (rv_move rfl) ?_
        rcases Bool.eq_false_or_eq_true (r10 == (w64 (2 * r39))) with hb63 | hb63
        ·replace h := bif_t hb63 h
         refine st_g (v := (I r10)) (congrArg some hb63) (rv_move rfl) ?_
         refine st_g (v := (B (decide (r10 ≤ 63)))) (congrArg some hb63) (rv_leq (a := r10) (b := 63) rfl rfl) ?_
         refine st (v := (B (decide (r10 ≤ 63)))) (rv_pick_t (congrArg B hb63) rfl) ?_
         refine st (v := (B (decide (r10 ≤ 63)))) (rv_assign rfl) ?_
         refine w_end ?_
         refine q_then ?_
         refine c_ret ?_
         obtain rfl := Option.some.inj h
         exact fin_ret (v := (B (decide (r10 ≤ 63)))) (results_ok Try.results10 (res_tmp (v := (B (decide (r10 ≤ 63)))) rfl res_nil) rfl) ⟨rfl, rfl⟩ (H.sel' [] rfl rfl)
        ·replace h := bif_f hb63 h
         refine st_skip (congrArg some hb63) ?_
         refine st_skip (congrArg some hb63) ?_
         refine st (v := (B false)) (rv_pick_f (congrArg B hb63) rfl) ?_
         refine st (v := (B false)) (rv_assign rfl) ?_
         refine w_end ?_
         refine q_then ?_
         refine c_ret ?_
         obtain rfl := Option.some.inj h
         exact fin_ret (v := (B false)) (results_ok Try.results10 (res_tmp (v := (B false)) rfl res_nil) rfl) ⟨rfl, rfl⟩ (H.sel' [] rfl rfl)
       ·replace h := bif_f hb62 h
        refine st_skip (congrArg some hb62) ?_
        refine st_skip (congrArg some hb62) ?_
        refine st_skip (congrArg some hb62) ?_
        refine st_skip (congrArg some hb62) ?_
        refine st_g (v := (B false)) (congrArg some hb61) (rv_pick_f (congrArg B hb62) rfl) ?_
        refine st_g (v := (B false)) (congrArg some hb59) (rv_pick_f (congrArg B hb61) rfl) ?_
        refine st (v := (B false)) (rv_pick_t (congrArg B hb59) rfl) ?_
        refine st (v := (B false)) (rv_move rfl) ?_
        refine st_skip rfl ?_
        refine st_skip rfl ?_
        refine st (v := (B false)) (rv_pick_f rfl rfl) ?_
        refine st (v := (B false)) (rv_assign rfl) ?_
        refine w_end ?_
        refine q_then ?_
        refine c_ret ?_
        obtain rfl := Option.some.inj h
        exact fin_ret (v := (B false)) (results_ok Try.results10 (res_tmp (v := (B false)) rfl res_nil) rfl) ⟨rfl, rfl⟩ (H.sel' [] rfl rfl)
     ·replace h := bif_f hb60 h
      refine st_skip (congrArg some hb60) ?_
      refine st_skip (congrArg some hb60) ?_
      refine st_skip (congrArg some hb60) ?_
      refine st_skip (congrArg some hb60) ?_
      refine st_skip (congrArg some hb60) ?_
      refine st_g (v := (B false)) (congrArg some hb59) (rv_pick_f (congrArg B hb60) rfl) ?_
      refine st_g (v := (B false)) (congrArg some hb59) (rv_move rfl) ?_
      refine st_g (v := (I r55.1)) rfl (rv_move rfl) ?_
      refine st_g (v := (B (decide (r55.1 < 0)))) rfl (rv_lss (a := r55.1) (b := 0) rfl rfl) ?_
      refine st_g (v := (B (decide (r55.1 < 0)))) rfl (rv_move rfl) ?_
      rcases Bool.eq_false_or_eq_true (decide (r55.1 < 0)) with hb64 | hb64
      ·replace h := bif_t hb64 h
       refine st_g (v := (I r10)) (congrArg some hb64) (rv_move rfl) ?_
       refine st_g (v := (I r39)) (congrArg some hb64) (rv_move rfl) ?_
       refine st_g (v := (I (w64 (2 * r39)))) (congrArg some hb64) (rv_mul (a := 2) (b := r39) rfl rfl) ?_
       refine st_g (v := (B (r10 == (w64 (2 * r39))))) (congrArg some hb64) (rv_eql (a := r10) (b := (w64 (2 * r39))) rfl rfl) ?_
       refine st_g (v := (B (r10 == (w64 (2 * r39))))) rfl (rv_pick_t (congrArg B hb64) rfl) ?_
       refine st_g (v := (B (r10 == (w64 (2 * r39))))) (congrArg some hb59) (rv_pick_f rfl rfl) ?_
       refine st (v := (B (r10 == (w64 (2 * r39))))) (rv_pick_t (congrArg B hb59) rfl) ?_
       refine st (v := (B (r10 == (w64 (2 * r39))))) (rv_move rfl) ?_
       rcases Bool.eq_false_or_eq_true (r10 == (w64 (2 * r39))) with hb65 | hb65
       ·replace h := bif_t hb65 h
        refine st_g (v := (I r10)) (congrArg some hb65) (rv_move rfl) ?_
        refine st_g (v := (B (decide (r10 ≤ 63)))) (congrArg some hb65) (rv_leq (a := r10) (b := 63) rfl rfl) ?_
        refine st (v := (B (decide (r10 ≤ 63)))) (rv_pick_t (congrArg B hb65) rfl) ?_
        refine st (v := (B (decide (r10 ≤ 63)))) (rv_assign rfl) ?_
        refine w_end ?_
        refine q_then ?_
        refine c_ret ?_
        obtain rfl := Option.some.inj h
        exact fin_ret (v := (B (decide (r10 ≤ 63)))) (results_ok Try.results10 (res_tmp (v := (B (decide (r10 ≤ 63)))) rfl res_nil) rfl) ⟨rfl, rfl⟩ (H.sel' [] rfl rfl)
       ·replace h := bif_f hb65 h
        refine st_skip (congrArg some hb65) ?_
        refine st_skip (congrArg some hb65) ?_
        refine st (v := (B false)) (rv_pick_f (congrArg B hb65) rfl) ?_
        refine st (v := (B false)) (rv_assign rfl) ?_
        refine w_end ?_
        refine q_then ?_
        refine c_ret ?_
        obtain rfl := Option.some.inj h
        exact fin_ret (v := (B false)) (results_ok Try.results10 (res_tmp (v := (B false)) rfl res_nil) rfl) ⟨rfl, rfl⟩ (H.sel' [] rfl rfl)
      ·replace h := bif_f hb64 h
       refine st_skip (congrArg some hb64) ?_
       refine st_skip (congrArg some hb64) ?_
       refine st_skip (congrArg some hb64) ?_
       refine st_skip (congrArg some hb64) ?_
       refine st_g (v := (B false)) rfl (rv_pick_f (congrArg B hb64) rfl) ?_
       refine st_g (v := (B false)) (congrArg some hb59) (rv_pick_f rfl rfl) ?_
       refine st (v := (B false)) (rv_pick_t (congrArg B hb59) rfl) ?_
       refine st (v := (B false)) (rv_move rfl) ?_
       refine st_skip rfl ?_
       refine st_skip rfl ?_
       refine st (v := (B false)) (rv_pick_f rfl rfl) ?_
       refine st (v := (B false)) (rv_assign rfl) ?_
       refine w_end ?_
       refine q_then ?_
       refine c_ret ?_
       obtain rfl := Option.some.inj h
       exact fin_ret (v := (B false)) (results_ok Try.results10 (res_tmp (v := (B false)) rfl res_nil) rfl) ⟨rfl, rfl⟩ (H.sel' [] rfl rfl)
    ·replace h := bif_f hb59 h
     refine st_skip (congrArg some hb59) ?_
     refine st_skip (congrArg some hb59) ?_
     refine st_skip (congrArg some hb59) ?_
     refine st_skip_u rfl ?_
     refine st_skip_u rfl ?_
     refine st_skip_u rfl ?_
     refine st_skip_u rfl ?_
     refine st_skip_u rfl ?_
     refine st_skip (congrArg some hb59) ?_
     refine st_skip (congrArg some hb59) ?_
     refine st_skip_u rfl ?_
     refine st_skip_u rfl ?_
     refine st_skip_u rfl ?_
     refine st_skip_u rfl ?_
     refine st_skip_u rfl ?_
     refine st_skip_u rfl ?_
     refine st_skip_u rfl ?_
     refine st_skip_u rfl ?_
     refine st_skip (congrArg some hb59) ?_
     refine st (v := (B false)) (rv_pick_f (congrArg B hb59) rfl) ?_
     refine st (v := (B false)) (rv_move rfl) ?_
     refine st_skip rfl ?_
     refine st_skip rfl ?_
     refine st (v := (B false)) (rv_pick_f rfl rfl) ?_
     refine st (v := (B false)) (rv_assign rfl) ?_
     refine w_end ?_
     refine q_then ?_
     refine c_ret ?_
     obtain rfl := Option.some.inj h
     exact fin_ret (v := (B false)) (results_ok Try.results10 (res_tmp (v := (B false)) rfl res_nil) rfl) ⟨rfl, rfl⟩ (H.sel' [] rfl rfl)

end Go.Vs
