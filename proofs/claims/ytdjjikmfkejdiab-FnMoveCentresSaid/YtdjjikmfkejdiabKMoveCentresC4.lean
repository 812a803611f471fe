/- The functions compute what their models say. -/
import Derived.Test.YtdjjikmfkejdiabKMoveCentresC3
set_option linter.unusedVariables false
set_option linter.unusedSimpArgs false
set_option maxRecDepth 20000
namespace Go.Vs
open Go Go.Proofs
attribute [local irreducible] Code.wp Code.wpIn wpList wpListIn wpQuiet Calls CallsIn

theorem c_laws_FnMoveCentres {code_0 : List UInt8} {acode_0 : Option Addr} {ccode_0 : Nat} {r : Bool} (h : M.laws_FnMoveCentres code_0 = some r) :
    Cal2 Try.prog 9 [(Sl acode_0 code_0 ccode_0)] [Ch.ro 0 (Sl acode_0 code_0 ccode_0) code_0] (fun n0 v L => v = (B r) ∧ L = []) := by
 refine cal2 (n := 83) Try.func9 rfl rfl rfl rfl ?_
 intro S0 σ0 n0 hn0 H
 unfold M.laws_FnMoveCentres at h
 refine c_seq ?_
 refine rg ?_
 refine st (v := (B false)) (rv_assign rfl) ?_
 refine w_end ?_
 refine q_then ?_
 refine c_seq ?_
 refine c_seq ?_
 refine rg ?_
 refine st (v := (Sl acode_0 code_0 ccode_0)) (rv_move rfl) ?_
 refine st (v := (I (code_0.length : Int))) (rv_len Try.underlying22 rfl) ?_
 refine st (v := (B (decide (1048576 < (code_0.length : Int))))) (rv_gtr (a := (code_0.length : Int)) (b := 1048576) rfl rfl) ?_
 refine w_end ?_
 refine q_then ?_
 refine cd_cond (decide (1048576 < (code_0.length : Int))) rfl (fun hb1 => ?_) (fun hb1 => ?_)
 ·replace h := bif_t hb1 h
  refine c_seq ?_
  refine rg ?_
  refine st (v := (B true)) (rv_assign rfl) ?_
  refine w_end ?_
  refine q_then ?_
  refine c_ret ?_
  refine q_then_r ?_
  obtain rfl := Option.some.inj h
  exact fin_ret (v := (B true)) (results_ok Try.results9 (res_tmp (v := (B true)) rfl res_nil) rfl) ⟨rfl, rfl⟩ (H.sel' [] rfl rfl)
 ·replace h := bif_f hb1 h
  refine c_skip ?_
  refine q_then ?_
  refine c_seq ?_
  refine rg ?_
  refine st (v := (Sl acode_0 code_0 ccode_0)) (rv_move rfl) ?_
  obtain ⟨r2, hx3, h'⟩ := bind_some h
  clear h
  have h := h'; clear h'
  have hc4 := c_spec_DrawMoveCentres (acode_0 := acode_0) (ccode_0 := ccode_0) hx3
  refine st_call (cx_call hc4 (ent_f hc4.fn rfl) hn0 (show Hp S0 σ0 _ ([Ch.ro 0 (Sl acode_0 code_0 ccode_0) code_0] ++ [Ch.ro 0 (Sl acode_0 code_0 ccode_0) code_0]) from (H.sel' [0, 0] rfl rfl))) wn ?_
  rintro _ σ9 ⟨_, ⟨a5, c6, a7, c8, rfl, rfl⟩, H, -⟩
  replace H : Hp S0 σ0 σ9 [Ch.own n0 n0 (Sl a5 r2.1 c6) r2.1, Ch.own n0 n0 (Sl a7 r2.2 c8) r2.2, Ch.ro 0 (Sl acode_0 code_0 ccode_0) code_0] := H
  refine st (v := (.tuple #[(Sl a5 r2.1 c6), (Sl a7 r2.2 c8)])) (rv_move rfl) ?_
  refine st (v := (Sl a5 r2.1 c6)) (rv_extract rfl rfl) ?_
  refine st (v := (Sl a7 r2.2 c8)) (rv_extract rfl rfl) ?_
  refine st (v := (Sl a5 r2.1 c6)) (rv_assign rfl) ?_
  refine st (v := (Sl a7 r2.2 c8)) (rv_assign rfl) ?_
  refine w_end ?_
  refine q_then ?_
  refine c_seq ?_
  refine rg ?_
  refine st (v := (Sl a5 r2.1 c6)) (rv_move rfl) ?_
  refine st (v := (Sl a7 r2.2 c8)) (rv_move rfl) ?_
  obtain ⟨r10, hx11, h'⟩ := bind_some h
  clear h
  have h := h'; clear h'
  have hc12 := c_impl_MoveCentres (acentres_0 := a5) (ccentres_0 := c6) (alist_1 := a7) (clist_1 := c8) hx11
  have hle := Nat.le_trans hn0 H.size
  refine st_call (cx_lend (Loan.lend (Loan.lend Loan.nil)) hc12 (ent_f hc12.fn rfl) (show Hp S0 σ0 _ ([Ch.own n0 n0 (Sl a5 r2.1 c6) r2.1, Ch.own n0 n0 (Sl a7 r2.2 c8) r2.2] ++ ([] ++ [Ch.ro 0 (Sl acode_0 code_0 ccode_0) code_0])) from (H.sel' [0, 1, 2] rfl rfl)) (by rintro _ _ _ ⟨_, _, rfl, rfl, _⟩; exact ⟨Ab.own (Nat.le_refl _), trivial⟩)) wn ?_
  rintro _ σ16 ⟨_, ⟨a13, c14, rfl, rfl, ht15⟩, H, -, -⟩
  replace H : Hp S0 σ0 σ16 [Ch.own σ9.size σ9.size (Sl a13 r10 c14) r10, Ch.own n0 n0 (Sl a5 r2.1 c6) r2.1, Ch.own n0 n0 (Sl a7 r2.2 c8) r2.2, Ch.ro 0 (Sl acode_0 code_0 ccode_0) code_0] := H
  replace H := H.ownLow 0 n0 n0 rfl hle hle
  clear hle
  replace H : Hp S0 σ0 σ16 [Ch.own n0 n0 (Sl a13 r10 c14) r10, Ch.own n0 n0 (Sl a5 r2.1 c6) r2.1, Ch.own n0 n0 (Sl a7 r2.2 c8) r2.2, Ch.ro 0 (Sl acode_0 code_0 ccode_0) code_0] := H
  refine st (v := (Sl a13 r10 c14)) (rv_assign rfl) ?_
  refine w_end ?_
  refine q_then ?_
  refine c_seq ?_
  refine c_seq ?_
  obtain ⟨o17, hj, h'⟩ := bind_some h
  clear h
  refine c_cut (fun e a w => e = .normal ∧ ∃ (ρ : Nat → Value) (σ : St), a = fr 83 (updL ρ [(3, (Sl a5 r2.1 c6)), (4, (Sl a7 r2.2 c8)), (5, (Sl a13 r10 c14)), (30, (B o17))]) ∧ w = σ.w ∧ Hp S0 σ0 σ [Ch.own n0 n0 (Sl a5 r2.1 c6) r2.1, Ch.own n0 n0 (Sl a7 r2.2 c8) r2.2, Ch.own n0 n0 (Sl a13 r10 c14) r10]) ?_ ?_
  ·clear h'
   rename _ = some o17 => h
   refine rg ?_
   refine st (v := (Sl a13 r10 c14)) (rv_move rfl) ?_
   refine st (v := (Sl a5 r2.1 c6)) (rv_move rfl) ?_
   refine st (v := (Sl a7 r2.2 c8)) (rv_move rfl) ?_
   obtain ⟨r18, hx19, h'⟩ := bind_some h
   clear h
   have h := h'; clear h'
   have hc20 := c_spec_MoveCentres (acentres_0 := a5) (ccentres_0 := c6) (alist_1 := a7) (clist_1 := c8) hx19
   have hle := Nat.le_trans hn0 H.size
   refine st_call (cx_lend (Loan.lend (Loan.lend Loan.nil)) hc20 (ent_f hc20.fn rfl) (show Hp S0 σ0 _ ([Ch.own n0 n0 (Sl a5 r2.1 c6) r2.1, Ch.own n0 n0 (Sl a7 r2.2 c8) r2.2] ++ ([] ++ [Ch.own n0 n0 (Sl a13 r10 c14) r10, Ch.ro 0 (Sl acode_0 code_0 ccode_0) code_0])) from (H.sel' [1, 2, 0, 3] rfl rfl)) (by rintro _ _ _ ⟨_, _, rfl, rfl⟩; exact ⟨Ab.own (Nat.le_refl _), trivial⟩)) wn ?_
   rintro _ σ23 ⟨_, ⟨a21, c22, rfl, rfl⟩, H, -, -⟩
   replace H : Hp S0 σ0 σ23 [Ch.own σ16.size σ16.size (Sl a21 r18 c22) r18, Ch.own n0 n0 (Sl a5 r2.1 c6) r2.1, Ch.own n0 n0 (Sl a7 r2.2 c8) r2.2, Ch.own n0 n0 (Sl a13 r10 c14) r10, Ch.ro 0 (Sl acode_0 code_0 ccode_0) code_0] := H
   replace H := H.ownLow 0 n0 n0 rfl hle hle
   clear hle
   replace H : Hp S0 σ0 σ23 [Ch.own n0 n0 (Sl a21 r18 c22) r18, Ch.own n0 n0 (Sl a5 r2.1 c6) r2.1, Ch.own n0 n0 (Sl a7 r2.2 c8) r2.2, Ch.own n0 n0 (Sl a13 r10 c14) r10, Ch.ro 0 (Sl acode_0 code_0 ccode_0) code_0] := H
   obtain ⟨σ24, hw25, H, -⟩ := H.pub 0 rfl (Nat.le_refl _)
   rw [← hw25]; clear hw25
   replace H := H.roLow 0 0 rfl (Nat.zero_le _)
   obtain ⟨r26, hx27, h'⟩ := bind_some h
   clear h
   have h := h'; clear h'
   have hc28 := c_laws_equalLists (aa_0 := a13) (ca_0 := c14) (ab_1 := a21) (cb_1 := c22) hx27
   have hle := Nat.le_trans hn0 H.size
   refine st_call (cx_lend (Loan.lend (Loan.same Loan.nil)) hc28 (ent_f hc28.fn rfl) (show Hp S0 σ0 _ ([Ch.own n0 n0 (Sl a13 r10 c14) r10] ++ ([Ch.ro 0 (Sl a21 r18 c22) r18] ++ [Ch.ro 0 (Sl a21 r18 c22) r18, Ch.ro n0 (Sl a21 r18 c22) r18, Ch.own n0 n0 (Sl a5 r2.1 c6) r2.1, Ch.own n0 n0 (Sl a7 r2.2 c8) r2.2, Ch.ro 0 (Sl acode_0 code_0 ccode_0) code_0])) from (H.sel' [4, 0, 0, 1, 2, 3, 5] rfl rfl)) (by rintro _ _ _ ⟨rfl, rfl⟩; exact trivial)) wn ?_
   rintro _ σ29 ⟨_, ⟨rfl, rfl⟩, H, -, -⟩
   replace H : Hp S0 σ0 σ29 [Ch.own n0 n0 (Sl a13 r10 c14) r10, Ch.ro 0 (Sl a21 r18 c22) r18, Ch.ro n0 (Sl a21 r18 c22) r18, Ch.own n0 n0 (Sl a5 r2.1 c6) r2.1, Ch.own n0 n0 (Sl a7 r2.2 c8) r2.2, Ch.ro 0 (Sl acode_0 code_0 ccode_0) code_0] := H
   clear hle
   replace H : Hp S0 σ0 σ29 [Ch.own n0 n0 (Sl a13 r10 c14) r10, Ch.ro 0 (Sl a21 r18 c22) r18, Ch.ro n0 (Sl a21 r18 c22) r18, Ch.own n0 n0 (Sl a5 r2.1 c6) r2.1, Ch.own n0 n0 (Sl a7 r2.2 c8) r2.2, Ch.ro 0 (Sl acode_0 code_0 ccode_0) code_0] := H
   refine st (v := (B (!r26))) (rv_not rfl) ?_
   refine st (v := (B (!r26))) (rv_move rfl) ?_
   rcases Bool.eq_false_or_eq_true (!r26) with hb30 | hb30
   ·replace h := bif_t hb30 h
    refine st_skip (congrArg some hb30) ?_
    refine st_skip (congrArg some hb30) ?_
    refine st_skip (congrArg some hb30) ?_
    refine st (v := (B true)) (rv_pick_t (congrArg B hb30) rfl) ?_
    refine w_end ?_
    obtain rfl := Option.some.inj h
    exact ⟨rfl, _, σ29, fr_join ⟨rfl, rfl, rfl, rfl, trivial⟩, rfl, H.sel' [3, 4, 0] rfl rfl⟩
   ·replace h := bif_f hb30 h
    refine st_g (v := (Sl a13 r10 c14)) (congrArg some hb30) (rv_move rfl) ?_
    refine st_g (v := (I (r10.length : Int))) (congrArg some hb30) (rv_len Try.underlying29 rfl) ?_
    refine st_g (v := (B ((r10.length : Int) == 0))) (congrArg some hb30) (rv_eql (a := (r10.length : Int)) (b := 0) rfl rfl) ?_
    refine st (v := (B ((r10.length : Int) == 0))) (rv_pick_f (congrArg B hb30) rfl) ?_
    refine w_end ?_
    obtain rfl := Option.some.inj h
    exact ⟨rfl, _, σ29, fr_join ⟨rfl, rfl, rfl, rfl, trivial⟩, rfl, H.sel' [3, 4, 0] rfl rfl⟩
  ·clear hj
   have h := h'
   clear h' H
   rintro e a w ⟨rfl, ρ, σ31, rfl, rfl, H⟩
   refine q_then ?_
   refine cd_cond o17 rfl (fun hb32 => ?_) (fun hb32 => ?_)
   ·replace h := bif_t hb32 h
    refine c_seq ?_
    refine rg ?_
    refine st (v := (Sl a13 r10 c14)) (rv_move rfl) ?_
    refine st (v := (Sl a5 r2.1 c6)) (rv_move rfl) ?_
    refine st (v := (Sl a7 r2.2 c8)) (rv_move rfl) ?_
    obtain ⟨σ33, hw34, H, -⟩ := H.pub 0 rfl (Nat.le_refl _)
    rw [← hw34]; clear hw34
    obtain ⟨σ35, hw36, H, -⟩ := H.pub 1 rfl (Nat.le_refl _)
    rw [← hw36]; clear hw36
    replace H := H.roLow 1 0 rfl (Nat.zero_le _)
    replace H := H.roLow 1 0 rfl (Nat.zero_le _)
    obtain ⟨r37, hx38, h'⟩ := bind_some h
    clear h
    have h := h'; clear h'
    have hc39 := c_spec_MoveCentres (acentres_0 := a5) (ccentres_0 := c6) (alist_1 := a7) (clist_1 := c8) hx38
    refine st_call (cx_call hc39 (ent_f hc39.fn rfl) hn0 (show Hp S0 σ0 _ ([Ch.ro 0 (Sl a5 r2.1 c6) r2.1, Ch.ro 0 (Sl a7 r2.2 c8) r2.2] ++ [Ch.ro 0 (Sl a7 r2.2 c8) r2.2, Ch.ro 0 (Sl a5 r2.1 c6) r2.1, Ch.ro n0 (Sl a7 r2.2 c8) r2.2, Ch.ro n0 (Sl a5 r2.1 c6) r2.1, Ch.own n0 n0 (Sl a13 r10 c14) r10]) from (H.sel' [1, 0, 0, 1, 2, 3, 4] rfl rfl))) wn ?_
    rintro _ σ42 ⟨_, ⟨a40, c41, rfl, rfl⟩, H, -⟩
    replace H : Hp S0 σ0 σ42 [Ch.own n0 n0 (Sl a40 r37 c41) r37, Ch.ro 0 (Sl a7 r2.2 c8) r2.2, Ch.ro 0 (Sl a5 r2.1 c6) r2.1, Ch.ro n0 (Sl a7 r2.2 c8) r2.2, Ch.ro n0 (Sl a5 r2.1 c6) r2.1, Ch.own n0 n0 (Sl a13 r10 c14) r10] := H
    obtain ⟨σ43, hw44, H, -⟩ := H.pub 5 rfl (Nat.le_refl _)
    rw [← hw44]; clear hw44
    obtain ⟨σ45, hw46, H, -⟩ := H.pub 1 rfl (Nat.le_refl _)
    rw [← hw46]; clear hw46
    replace H := H.roLow 1 0 rfl (Nat.zero_le _)
    replace H := H.roLow 1 0 rfl (Nat.zero_le _)
    obtain ⟨r47, hx48, h'⟩ := bind_some h
    clear h
    have h := h'; clear h'
    have hc49 := c_laws_equalLists (aa_0 := a13) (ca_0 := c14) (ab_1 := a40) (cb_1 := c41) hx48
    refine st_call (cx_call hc49 (ent_f hc49.fn rfl) hn0 (show Hp S0 σ0 _ ([Ch.ro 0 (Sl a13 r10 c14) r10, Ch.ro 0 (Sl a40 r37 c41) r37] ++ [Ch.ro 0 (Sl a40 r37 c41) r37, Ch.ro 0 (Sl a13 r10 c14) r10, Ch.ro n0 (Sl a40 r37 c41) r37, Ch.ro n0 (Sl a13 r10 c14) r10, Ch.ro 0 (Sl a7 r2.2 c8) r2.2, Ch.ro 0 (Sl a5 r2.1 c6) r2.1, Ch.ro n0 (Sl a7 r2.2 c8) r2.2, Ch.ro n0 (Sl a5 r2.1 c6) r2.1]) from (H.sel' [1, 0, 0, 1, 2, 3, 4, 5, 6, 7] rfl rfl))) wn ?_
    rintro _ σ50 ⟨_, ⟨rfl, rfl⟩, H, -⟩
    replace H : Hp S0 σ0 σ50 [Ch.ro 0 (Sl a40 r37 c41) r37, Ch.ro 0 (Sl a13 r10 c14) r10, Ch.ro n0 (Sl a40 r37 c41) r37, Ch.ro n0 (Sl a13 r10 c14) r10, Ch.ro 0 (Sl a7 r2.2 c8) r2.2, Ch.ro 0 (Sl a5 r2.1 c6) r2.1, Ch.ro n0 (Sl a7 r2.2 c8) r2.2, Ch.ro n0 (Sl a5 r2.1 c6) r2.1] := H
    replace H : Hp S0 σ0 σ50 [] := H.sel' [] rfl rfl
    refine st (v := (B r47)) (rv_assign rfl) ?_
    refine w_end ?_
    refine q_then ?_
    refine c_ret ?_
    refine q_then_r ?_
    obtain rfl := Option.some.inj h
    exact fin_ret (v := (B r47)) (results_ok Try.results9 (res_tmp (v := (B r47)) rfl res_nil) rfl) ⟨rfl, rfl⟩ (H.sel' [] rfl rfl)
   ·replace h := bif_f hb32 h
    refine c_skip ?_
    refine q_then ?_
    refine c_seq ?_
    refine rg ?_
    refine st (v := (Sl a5 r2.1 c6)) (rv_move rfl) ?_
    obtain ⟨xs51, hx52, h'⟩ := bind_some h
    clear h
    have h := h'; clear h'
    obtain ⟨σ57, hw58, H, -⟩ := H.pub 0 rfl (Nat.le_refl _)
    rw [← hw58]; clear hw58
    obtain ⟨a53, c54, hs55, hR56⟩ := (H.ro 0 rfl).slice hx52
    replace H := H.add (d := Ch.ro n0 (Sl a53 xs51 c54) xs51) hR56 (fun _ h => h)
    clear hR56
    refine st (v := (Sl a53 xs51 c54)) (rv_slice_h Try.underlying29 ti24 hs55 rfl rfl) ?_
    refine st (v := (Sl a7 r2.2 c8)) (rv_move rfl) ?_
    replace H := H.roLow 0 0 rfl (Nat.zero_le _)
    obtain ⟨r59, hx60, h'⟩ := bind_some h
    clear h
    have h := h'; clear h'
    have hc61 := c_impl_MoveCentres (acentres_0 := a53) (ccentres_0 := c54) (alist_1 := a7) (clist_1 := c8) hx60
    have hle := Nat.le_trans hn0 H.size
    refine st_call (cx_lend (Loan.same (Loan.lend Loan.nil)) hc61 (ent_f hc61.fn rfl) (show Hp S0 σ0 _ ([Ch.own n0 n0 (Sl a7 r2.2 c8) r2.2] ++ ([Ch.ro 0 (Sl a53 xs51 c54) xs51] ++ [Ch.ro 0 (Sl a53 xs51 c54) xs51, Ch.ro n0 (Sl a53 xs51 c54) xs51, Ch.ro n0 (Sl a5 r2.1 c6) r2.1, Ch.own n0 n0 (Sl a13 r10 c14) r10])) from (H.sel' [3, 0, 0, 1, 2, 4] rfl rfl)) (by rintro _ _ _ ⟨_, _, rfl, rfl, _⟩; exact ⟨Ab.own (Nat.le_refl _), trivial⟩)) wn ?_
    rintro _ σ65 ⟨_, ⟨a62, c63, rfl, rfl, ht64⟩, H, -, -⟩
    replace H : Hp S0 σ0 σ65 [Ch.own σ57.size σ57.size (Sl a62 r59 c63) r59, Ch.own n0 n0 (Sl a7 r2.2 c8) r2.2, Ch.ro 0 (Sl a53 xs51 c54) xs51, Ch.ro n0 (Sl a53 xs51 c54) xs51, Ch.ro n0 (Sl a5 r2.1 c6) r2.1, Ch.own n0 n0 (Sl a13 r10 c14) r10] := H
    replace H := H.ownLow 0 n0 n0 rfl hle hle
    clear hle
    replace H : Hp S0 σ0 σ65 [Ch.own n0 n0 (Sl a62 r59 c63) r59, Ch.own n0 n0 (Sl a7 r2.2 c8) r2.2, Ch.ro 0 (Sl a53 xs51 c54) xs51, Ch.ro n0 (Sl a53 xs51 c54) xs51, Ch.ro n0 (Sl a5 r2.1 c6) r2.1, Ch.own n0 n0 (Sl a13 r10 c14) r10] := H
    refine st (v := (Sl a62 r59 c63)) (rv_assign rfl) ?_
    refine w_end ?_
    refine q_then ?_
    refine c_seq ?_
    refine rg ?_
    refine st_ex (ex_buildSlice (el := n0) (xs := ([] : List (List Int))) (ps := []) (cs := []) H hn0 Try.underlying29 ti24 rfl rfl (by kernel_rfl) (.nil) rfl) wn ?_
    rintro _ σ67 ⟨b66, rfl, H, -⟩
    refine st (v := (Sl (some ⟨b66, 0, none⟩) ([] : List (List Int)) 0)) (rv_assign rfl) ?_
    refine w_end ?_
    refine q_then ?_
    refine c_seq ?_
    refine c_seq ?_
    refine rg ?_
    refine st (v := (I 0)) (rv_assign rfl) ?_
    refine w_end ?_
    refine q_then ?_
    obtain ⟨o68, hj, h'⟩ := bind_some h
    clear h
    refine c_cut (fun e a w => e = .normal ∧ ∃ (ρ : Nat → Value) (σ : St) (aj1 : Option Addr) (cj2 : Nat), a = fr 83 (updL ρ [(3, (Sl a5 r2.1 c6)), (5, (Sl a13 r10 c14)), (6, (Sl a62 r59 c63)), (7, (Sl aj1 o68 cj2))]) ∧ w = σ.w ∧ Hp S0 σ0 σ [Ch.ro n0 (Sl a5 r2.1 c6) r2.1, Ch.own n0 n0 (Sl a13 r10 c14) r10, Ch.own n0 n0 (Sl a62 r59 c63) r59, Ch.own n0 n0 (Sl aj1 o68 cj2) o68]) ?_ ?_
    ·clear h'
     rename _ = some o68 => h
     refine c_blk ?_
     refine wp_loopM _ h (fun s69 a w => ∃ (ρ : Nat → Value) (σ : St) (aj1 : Option Addr) (cj2 : Nat), a = fr 83 (updL ρ [(3, (Sl a5 r2.1 c6)), (4, (Sl a7 r2.2 c8)), (5, (Sl a13 r10 c14)), (6, (Sl a62 r59 c63)), (7, (Sl aj1 s69.1 cj2)), (8, (I s69.2))]) ∧ w = σ.w ∧ Hp S0 σ0 σ [Ch.ro n0 (Sl a5 r2.1 c6) r2.1, Ch.own n0 n0 (Sl a7 r2.2 c8) r2.2, Ch.own n0 n0 (Sl a13 r10 c14) r10, Ch.own n0 n0 (Sl a62 r59 c63) r59, Ch.own n0 n0 (Sl aj1 s69.1 cj2) s69.1]) ⟨_, σ67, (some ⟨b66, 0, none⟩), 0, fr_join ⟨rfl, rfl, rfl, rfl, rfl, rfl, trivial⟩, rfl, H.sel' [5, 2, 6, 1, 0] rfl rfl⟩ ?_
     clear h H
     rintro s69 a w o ⟨ρ, σ70, a71, c72, rfl, rfl, H⟩ h hres
     refine c_seq ?_
     refine c_seq ?_
     refine rg ?_
     refine st (v := (I s69.2)) (rv_move rfl) ?_
     refine st (v := (Sl a7 r2.2 c8)) (rv_move rfl) ?_
     refine st (v := (I (r2.2.length : Int))) (rv_len Try.underlying23 rfl) ?_
     refine st (v := (B (decide (s69.2 < (r2.2.length : Int))))) (rv_lss (a := s69.2) (b := (r2.2.length : Int)) rfl rfl) ?_
     refine w_end ?_
     refine q_then ?_
     refine cd_cond (decide (s69.2 < (r2.2.length : Int))) rfl (fun hb73 => ?_) (fun hb73 => ?_)
     ·replace h := bif_t hb73 h
      refine c_skip ?_
      refine q_then ?_
      refine c_seq ?_
      refine c_blk ?_
      refine rg ?_
      refine st (v := (Sl a71 s69.1 c72)) (rv_move rfl) ?_
      refine st (v := (Sl a7 r2.2 c8)) (rv_move rfl) ?_
      refine st (v := (I s69.2)) (rv_move rfl) ?_
      obtain ⟨x74, hx75, h'⟩ := bind_some h
      clear h
      have h := h'; clear h'
      obtain ⟨b77, o78, hi76, -⟩ := (H.own 1 rfl).ix hx75
      refine st (v := (pt b77 o78)) (rv_ix Try.underlying23 ti41 rfl rfl hi76) ?_
      refine st (v := (pt b77 (o78 + 1))) (rv_fieldAddr (off := 1) (ft := 24) Try.underlying41 rfl ti24 rfl rfl) ?_
      obtain ⟨v82, hc83, hR81⟩ := ((H.own 1 rfl).at hx75 hi76).snd.fst.slice
      obtain ⟨a79, c80, rfl⟩ := hR81.isSl
      replace H := H.add (d := Ch.ro n0 (Sl a79 x74.2.1 c80) x74.2.1) hR81 (fun _ h => h)
      clear hR81
      refine st (v := (Sl a79 x74.2.1 c80)) (rv_load1 Try.underlying24 rfl rfl hc83) ?_
      refine st_ex (ex_buildSlice (el := n0) (xs := ([x74.2.1] : List (List Int))) (ps := [(0, (Sl a79 x74.2.1 c80))]) (cs := [(Sl a79 x74.2.1 c80)]) H hn0 Try.underlying29 ti24 rfl rfl (by kernel_rfl) (.cons (c := [(Sl a79 x74.2.1 c80)]) ⟨_, rfl, (H.ro 0 rfl)⟩ (.nil)) rfl) wn ?_
      rintro _ σ85 ⟨b84, rfl, H, -⟩
      obtain ⟨xs86, hx87, h'⟩ := bind_some h
      clear h
      have h := h'; clear h'
      refine st_ex (ex_append H (i := 6) rfl Try.underlying29 Try.underlying29 ti24 rfl rfl (by decide) (H.own 0 rfl).rd hx87 hn0 rfl rfl) wn ?_
      rintro _ σ90 ⟨a88, c89, rfl, H, -⟩
      refine st (v := (Sl a88 xs86 c89)) (rv_assign rfl) ?_
      refine w_end ?_
      refine q_blk ?_
      refine q_then ?_
      refine rg ?_
      refine st (v := (I s69.2)) (rv_move rfl) ?_
      refine st (v := (I (w64 (s69.2 + 1)))) (rv_add (a := s69.2) (b := 1) rfl rfl) ?_
      refine st (v := (I (w64 (s69.2 + 1)))) (rv_assign rfl) ?_
      refine w_end ?_
      refine q_then ?_
      obtain rfl := Option.some.inj h
      exact ⟨_, rfl, _, σ90, a88, c89, fr_join ⟨rfl, rfl, rfl, rfl, rfl, rfl, trivial⟩, rfl, H.sel' [3, 4, 5, 6, 0] rfl rfl⟩
     ·replace h := bif_f hb73 h
      refine c_exit ?_
      refine q_then_x ?_
      refine q_then_x ?_
      refine q_blk_hit ?_
      obtain rfl := Option.some.inj h
      obtain rfl := hres _ rfl
      exact ⟨rfl, _, σ70, a71, c72, fr_join ⟨rfl, rfl, rfl, rfl, trivial⟩, rfl, H.sel' [0, 2, 3, 4] rfl rfl⟩
    ·clear hj
     have h := h'
     clear h' H
     rintro e a w ⟨rfl, ρ, σ91, a92, c93, rfl, rfl, H⟩
     refine q_then ?_
     refine c_seq ?_
     refine c_seq ?_
     refine rg ?_
     refine st (v := (Sl a92 o68 c93)) (rv_move rfl) ?_
     refine st (v := (I (o68.length : Int))) (rv_len Try.underlying29 rfl) ?_
     refine st (v := (B ((o68.length : Int) == 0))) (rv_eql (a := (o68.length : Int)) (b := 0) rfl rfl) ?_
     refine w_end ?_
     refine q_then ?_
     refine cd_cond ((o68.length : Int) == 0) rfl (fun hb94 => ?_) (fun hb94 => ?_)
     ·replace h := bif_t hb94 h
      refine c_seq ?_
      refine rg ?_
      refine st (v := (Sl a62 r59 c63)) (rv_move rfl) ?_
      refine st (v := (Sl a5 r2.1 c6)) (rv_move rfl) ?_
      obtain ⟨xs95, hx96, h'⟩ := bind_some h
      clear h
      have h := h'; clear h'
      obtain ⟨a97, c98, hs99, hR100⟩ := (H.ro 0 rfl).slice hx96
      replace H := H.add (d := Ch.ro n0 (Sl a97 xs95 c98) xs95) hR100 (fun _ h => h)
      clear hR100
      refine st (v := (Sl a97 xs95 c98)) (rv_slice_h Try.underlying29 ti24 hs99 rfl rfl) ?_
      obtain ⟨σ101, hw102, H, -⟩ := H.pub 3 rfl (Nat.le_refl _)
      rw [← hw102]; clear hw102
      replace H := H.roLow 0 0 rfl (Nat.zero_le _)
      replace H := H.roLow 2 0 rfl (Nat.zero_le _)
      obtain ⟨r103, hx104, h'⟩ := bind_some h
      clear h
      have h := h'; clear h'
      have hc105 := c_laws_equalLists (aa_0 := a62) (ca_0 := c63) (ab_1 := a97) (cb_1 := c98) hx104
      refine st_call (cx_call hc105 (ent_f hc105.fn rfl) hn0 (show Hp S0 σ0 _ ([Ch.ro 0 (Sl a62 r59 c63) r59, Ch.ro 0 (Sl a97 xs95 c98) xs95] ++ [Ch.ro 0 (Sl a97 xs95 c98) xs95, Ch.ro 0 (Sl a62 r59 c63) r59, Ch.ro n0 (Sl a62 r59 c63) r59, Ch.ro n0 (Sl a97 xs95 c98) xs95, Ch.ro n0 (Sl a5 r2.1 c6) r2.1, Ch.own n0 n0 (Sl a13 r10 c14) r10, Ch.own n0 n0 (Sl a92 o68 c93) o68]) from (H.sel' [1, 0, 0, 1, 2, 3, 4, 5, 6] rfl rfl))) wn ?_
      rintro _ σ106 ⟨_, ⟨rfl, rfl⟩, H, -⟩
      replace H : Hp S0 σ0 σ106 [Ch.ro 0 (Sl a97 xs95 c98) xs95, Ch.ro 0 (Sl a62 r59 c63) r59, Ch.ro n0 (Sl a62 r59 c63) r59, Ch.ro n0 (Sl a97 xs95 c98) xs95, Ch.ro n0 (Sl a5 r2.1 c6) r2.1, Ch.own n0 n0 (Sl a13 r10 c14) r10, Ch.own n0 n0 (Sl a92 o68 c93) o68] := H
      refine st (v := (B r103)) (rv_move rfl) ?_
      rcases Bool.eq_false_or_eq_true r103 with hb107 | hb107
      ·replace h := bif_t hb107 h
       refine st_g (v := (Sl a13 r10 c14)) (congrArg some hb107) (rv_move rfl) ?_
       refine st_g (v := (Sl a5 r2.1 c6)) (congrArg some hb107) (rv_move rfl) ?_
       obtain ⟨σ108, hw109, H, -⟩ := H.pub 5 rfl (Nat.le_refl _)
       rw [← hw109]; clear hw109
       replace H := H.roLow 0 0 rfl (Nat.zero_le _)
       replace H := H.roLow 6 0 rfl (Nat.zero_le _)
       obtain ⟨r110, hx111, h'⟩ := bind_some h
       clear h
       have h := h'; clear h'
       have hc112 := c_laws_equalLists (aa_0 := a13) (ca_0 := c14) (ab_1 := a5) (cb_1 := c6) hx111
       refine st_call (cx_call hc112 (ent_f hc112.fn rfl) hn0 (show Hp S0 σ0 _ ([Ch.ro 0 (Sl a13 r10 c14) r10, Ch.ro 0 (Sl a5 r2.1 c6) r2.1] ++ [Ch.ro 0 (Sl a5 r2.1 c6) r2.1, Ch.ro 0 (Sl a13 r10 c14) r10, Ch.ro n0 (Sl a13 r10 c14) r10, Ch.ro 0 (Sl a97 xs95 c98) xs95, Ch.ro 0 (Sl a62 r59 c63) r59, Ch.ro n0 (Sl a62 r59 c63) r59, Ch.ro n0 (Sl a97 xs95 c98) xs95, Ch.ro n0 (Sl a5 r2.1 c6) r2.1, Ch.own n0 n0 (Sl a92 o68 c93) o68]) from (H.sel' [1, 0, 0, 1, 2, 3, 4, 5, 6, 7, 8] rfl rfl))) (wanted_yes rfl (by exact (congrArg some hb107))) ?_
       rintro _ σ113 ⟨_, ⟨rfl, rfl⟩, H, -⟩
       replace H : Hp S0 σ0 σ113 [Ch.ro 0 (Sl a5 r2.1 c6) r2.1, Ch.ro 0 (Sl a13 r10 c14) r10, Ch.ro n0 (Sl a13 r10 c14) r10, Ch.ro 0 (Sl a97 xs95 c98) xs95, Ch.ro 0 (Sl a62 r59 c63) r59, Ch.ro n0 (Sl a62 r59 c63) r59, Ch.ro n0 (Sl a97 xs95 c98) xs95, Ch.ro n0 (Sl a5 r2.1 c6) r2.1, Ch.own n0 n0 (Sl a92 o68 c93) o68] := H
       replace H : Hp S0 σ0 σ113 [] := H.sel' [] rfl rfl
       refine st (v := (B r110)) (rv_pick_t (congrArg B hb107) rfl) ?_
       refine st (v := (B r110)) (rv_assign rfl) ?_
       refine w_end ?_
       refine q_then ?_
       refine c_ret ?_
       refine q_then_r ?_
       obtain rfl := Option.some.inj h
       exact fin_ret (v := (B r110)) (results_ok Try.results9 (res_tmp (v := (B r110)) rfl res_nil) rfl) ⟨rfl, rfl⟩ (H.sel' [] rfl rfl)
      ·replace h := bif_f hb107 h
       refine st_skip (congrArg some hb107) ?_
       refine st_skip (congrArg some hb107) ?_
       refine st_skip (congrArg some hb107) ?_
       refine st (v := (B false)) (rv_pick_f (congrArg B hb107) rfl) ?_
       refine st (v := (B false)) (rv_assign rfl) ?_
       refine w_end ?_
       refine q_then ?_
       refine c_ret ?_
       refine q_then_r ?_
       obtain rfl := Option.some.inj h
       exact fin_ret (v := (B false)) (results_ok Try.results9 (res_tmp (v := (B false)) rfl res_nil) rfl) ⟨rfl, rfl⟩ (H.sel' [] rfl rfl)
     ·replace h := bif_f hb94 h
      refine c_skip ?_
      refine q_then ?_
      refine c_seq ?_
      refine rg ?_
      refine st (v := (Sl a62 r59 c63)) (rv_move rfl) ?_
      refine st (v := (Sl a92 o68 c93)) (rv_move rfl) ?_
      obtain ⟨σ114, hw115, H, -⟩ := H.pub 3 rfl (Nat.le_refl _)
      rw [← hw115]; clear hw115
      replace H := H.roLow 0 0 rfl (Nat.zero_le _)
      obtain ⟨r116, hx117, h'⟩ := bind_some h
      clear h
      have h := h'; clear h'
      have hc118 := c_impl_MeanOf (alist_0 := a92) (clist_0 := c93) hx117
      refine st_call (cx_call hc118 (ent_f hc118.fn rfl) hn0 (show Hp S0 σ0 _ ([Ch.ro 0 (Sl a92 o68 c93) o68] ++ [Ch.ro 0 (Sl a92 o68 c93) o68, Ch.ro n0 (Sl a92 o68 c93) o68, Ch.ro n0 (Sl a5 r2.1 c6) r2.1, Ch.own n0 n0 (Sl a13 r10 c14) r10, Ch.own n0 n0 (Sl a62 r59 c63) r59]) from (H.sel' [0, 0, 1, 2, 3, 4] rfl rfl))) wn ?_
      rintro _ σ122 ⟨_, ⟨a119, c120, rfl, rfl, ht121⟩, H, -⟩
      replace H : Hp S0 σ0 σ122 [Ch.own n0 n0 (Sl a119 r116 c120) r116, Ch.ro 0 (Sl a92 o68 c93) o68, Ch.ro n0 (Sl a92 o68 c93) o68, Ch.ro n0 (Sl a5 r2.1 c6) r2.1, Ch.own n0 n0 (Sl a13 r10 c14) r10, Ch.own n0 n0 (Sl a62 r59 c63) r59] := H
      obtain ⟨σ123, hw124, H, -⟩ := H.pub 0 rfl (Nat.le_refl _)
      rw [← hw124]; clear hw124
      refine st_ex (ex_buildSlice (el := n0) (xs := ([r116] : List (List Int))) (ps := [(0, (Sl a119 r116 c120))]) (cs := [(Sl a119 r116 c120)]) H hn0 Try.underlying29 ti24 rfl rfl (by kernel_rfl) (.cons (c := [(Sl a119 r116 c120)]) ⟨_, rfl, (H.ro 0 rfl)⟩ (.nil)) rfl) wn ?_
      rintro _ σ126 ⟨b125, rfl, H, -⟩
      obtain ⟨σ127, hw128, H, -⟩ := H.pub 6 rfl (Nat.le_refl _)
      rw [← hw128]; clear hw128
      obtain ⟨σ129, hw130, H, -⟩ := H.pub 1 rfl (Nat.le_refl _)
      rw [← hw130]; clear hw130
      replace H := H.roLow 1 0 rfl (Nat.zero_le _)
      replace H := H.roLow 1 0 rfl (Nat.zero_le _)
      obtain ⟨r131, hx132, h'⟩ := bind_some h
      clear h
      have h := h'; clear h'
      have hc133 := c_laws_equalLists (aa_0 := a62) (ca_0 := c63) (ab_1 := (some ⟨b125, 0, none⟩)) (cb_1 := 1) hx132
      refine st_call (cx_call hc133 (ent_f hc133.fn rfl) hn0 (show Hp S0 σ0 _ ([Ch.ro 0 (Sl a62 r59 c63) r59, Ch.ro 0 (Sl (some ⟨b125, 0, none⟩) ([r116] : List (List Int)) 1) ([r116] : List (List Int))] ++ [Ch.ro 0 (Sl (some ⟨b125, 0, none⟩) ([r116] : List (List Int)) 1) ([r116] : List (List Int)), Ch.ro 0 (Sl a62 r59 c63) r59, Ch.ro n0 (Sl (some ⟨b125, 0, none⟩) ([r116] : List (List Int)) 1) ([r116] : List (List Int)), Ch.ro n0 (Sl a62 r59 c63) r59, Ch.ro n0 (Sl a119 r116 c120) r116, Ch.ro 0 (Sl a92 o68 c93) o68, Ch.ro n0 (Sl a92 o68 c93) o68, Ch.ro n0 (Sl a5 r2.1 c6) r2.1, Ch.own n0 n0 (Sl a13 r10 c14) r10]) from (H.sel' [1, 0, 0, 1, 2, 3, 4, 5, 6, 7, 8] rfl rfl))) wn ?_
      rintro _ σ134 ⟨_, ⟨rfl, rfl⟩, H, -⟩
      replace H : Hp S0 σ0 σ134 [Ch.ro 0 (Sl (some ⟨b125, 0, none⟩) ([r116] : List (List Int)) 1) ([r116] : List (List Int)), Ch.ro 0 (Sl a62 r59 c63) r59, Ch.ro n0 (Sl (some ⟨b125, 0, none⟩) ([r116] : List (List Int)) 1) ([r116] : List (List Int)), Ch.ro n0 (Sl a62 r59 c63) r59, Ch.ro n0 (Sl a119 r116 c120) r116, Ch.ro 0 (Sl a92 o68 c93) o68, Ch.ro n0 (Sl a92 o68 c93) o68, Ch.ro n0 (Sl a5 r2.1 c6) r2.1, Ch.own n0 n0 (Sl a13 r10 c14) r10] := H
      replace H : Hp S0 σ0 σ134 [Ch.ro n0 (Sl a5 r2.1 c6) r2.1, Ch.own n0 n0 (Sl a13 r10 c14) r10] := H.sel' [7, 8] rfl rfl
      refine st (v := (B r131)) (rv_move rfl) ?_
      rcases Bool.eq_false_or_eq_true r131 with hb135 | hb135
      ·replace h := bif_t hb135 h
       refine st_g (v := (Sl a13 r10 c14)) (congrArg some hb135) (rv_move rfl) ?_
       obtain ⟨r136, hx137, h'⟩ := bind_some h
       clear h
       have h := h'; clear h'
       have hc138 := c_impl_ValidCentres (alist_0 := a13) (clist_0 := c14) hx137
       have hle := Nat.le_trans hn0 H.size
       refine st_call (cx_lend (Loan.lend Loan.nil) hc138 (ent_f hc138.fn rfl) (show Hp S0 σ0 _ ([Ch.own n0 n0 (Sl a13 r10 c14) r10] ++ ([] ++ [Ch.ro n0 (Sl a5 r2.1 c6) r2.1])) from (H.sel' [1, 0] rfl rfl)) (by rintro _ _ _ ⟨rfl, rfl⟩; exact trivial)) (wanted_yes rfl (by exact (congrArg some hb135))) ?_
       rintro _ σ139 ⟨_, ⟨rfl, rfl⟩, H, -, -⟩
       replace H : Hp S0 σ0 σ139 [Ch.own n0 n0 (Sl a13 r10 c14) r10, Ch.ro n0 (Sl a5 r2.1 c6) r2.1] := H
       clear hle
       replace H : Hp S0 σ0 σ139 [Ch.own n0 n0 (Sl a13 r10 c14) r10, Ch.ro n0 (Sl a5 r2.1 c6) r2.1] := H
       refine st (v := (B r136)) (rv_pick_t (congrArg B hb135) rfl) ?_
       refine st (v := (B r136)) (rv_move rfl) ?_
       rcases Bool.eq_false_or_eq_true r136 with hb140 | hb140
       ·replace h := bif_t hb140 h
        refine st_g (v := (Sl a13 r10 c14)) (congrArg some hb140) (rv_move rfl) ?_
        refine st_g (v := (I (r10.length : Int))) (congrArg some hb140) (rv_len Try.underlying29 rfl) ?_
        refine st_g (v := (Sl a5 r2.1 c6)) (congrArg some hb140) (rv_move rfl) ?_
        refine st_g (v := (I (r2.1.length : Int))) (congrArg some hb140) (rv_len Try.underlying29 rfl) ?_
        refine st_g (v := (B ((r10.length : Int) == (r2.1.length : Int)))) (congrArg some hb140) (rv_eql (a := (r10.length : Int)) (b := (r2.1.length : Int)) rfl rfl) ?_
        refine st (v := (B ((r10.length : Int) == (r2.1.length : Int)))) (rv_pick_t (congrArg B hb140) rfl) ?_
        refine st (v := (B ((r10.length : Int) == (r2.1.length : Int)))) (rv_assign rfl) ?_
        refine w_end ?_
        refine q_then ?_
        refine c_ret ?_
        obtain rfl := Option.some.inj h
        exact fin_ret (v := (B ((r10.length : Int) == (r2.1.length : Int)))) (results_ok Try.results9 (res_tmp (v := (B ((r10.length : Int) == (r2.1.length : Int)))) rfl res_nil) rfl) ⟨rfl, rfl⟩ (H.sel' [] rfl rfl)
       ·replace h := bif_f hb140 h
        refine st_skip (congrArg some hb140) ?_
        refine st_skip (congrArg some hb140) ?_
        refine st_skip (congrArg some hb140) ?_
        refine st_skip (congrArg some hb140) ?_
        refine st_skip (congrArg some hb140) ?_
        refine st (v := (B false)) (rv_pick_f (congrArg B hb140) rfl) ?_
        refine st (v := (B false)) (rv_assign rfl) ?_
        refine w_end ?_
        refine q_then ?_
        refine c_ret ?_
        obtain rfl := Option.some.inj h
        exact fin_ret (v := (B false)) (results_ok Try.results9 (res_tmp (v := (B false)) rfl res_nil) rfl) ⟨rfl, rfl⟩ (H.sel' [] rfl rfl)
      ·replace h := bif_f hb135 h
       refine st_skip (congrArg some hb135) ?_
       refine st_skip (congrArg some hb135) ?_
       refine st (v := (B false)) (rv_pick_f (congrArg B hb135) rfl) ?_
       refine st (v := (B false)) (rv_move rfl) ?_
       refine st_skip rfl ?_
       refine st_skip rfl ?_
       refine st_skip rfl ?_
       refine st_skip rfl ?_
       refine st_skip rfl ?_
       refine st (v := (B false)) (rv_pick_f rfl rfl) ?_
       refine st (v := (B false)) (rv_assign rfl) ?_
       refine w_end ?_
       refine q_then ?_
       refine c_ret ?_
       obtain rfl := Option.some.inj h
       exact fin_ret (v := (B false)) (results_ok Try.results9 (res_tmp (v := (B false)) rfl res_nil) rfl) ⟨rfl, rfl⟩ (H.sel' [] rfl rfl)

end Go.Vs
