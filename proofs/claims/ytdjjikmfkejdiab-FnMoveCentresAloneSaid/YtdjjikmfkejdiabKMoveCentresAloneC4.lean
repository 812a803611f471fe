/- The functions compute what their models say. -/
import Derived.Test.YtdjjikmfkejdiabKMoveCentresAloneC3
set_option linter.unusedVariables false
set_option linter.unusedSimpArgs false
set_option maxRecDepth 20000
namespace Go.Vs
open Go Go.Proofs
attribute [local irreducible] Code.wp Code.wpIn wpList wpListIn wpQuiet Calls CallsIn

theorem c_laws_FnMoveCentresAlone {code_0 : List UInt8} {acode_0 : Option Addr} {ccode_0 : Nat} {r : Bool} (h : M.laws_FnMoveCentresAlone code_0 = some r) :
    Cal2 Try.prog 10 [(Sl acode_0 code_0 ccode_0)] [Ch.ro 0 (Sl acode_0 code_0 ccode_0) code_0] (fun n0 v L => v = (B r) ∧ L = []) := by
 refine cal2 (n := 66) Try.func10 rfl rfl rfl rfl ?_
 intro S0 σ0 n0 hn0 H
 unfold M.laws_FnMoveCentresAlone at h
 refine c_seq ?_
 refine rg ?_
 refine st (v := (B false)) (rv_assign rfl) ?_
 refine w_end ?_
 refine q_then ?_
 refine c_seq ?_
 refine c_seq ?_
 refine rg ?_
 refine st (v := (Sl acode_0 code_0 ccode_0)) (rv_move rfl) ?_
 refine st (v := (I (code_0.length : Int))) (rv_len Try.underlying22 rfl) ?_
 refine st (v := (B (decide (1048576 < (code_0.length : Int))))) (rv_gtr (a := (code_0.length : Int)) (b := 1048576) rfl rfl) ?_
 refine w_end ?_
 refine q_then ?_
 refine cd_cond (decide (1048576 < (code_0.length : Int))) rfl (fun hb1 => ?_) (fun hb1 => ?_)
 ·replace h := bif_t hb1 h
  refine c_seq ?_
  refine rg ?_
  refine st (v := (B true)) (rv_assign rfl) ?_
  refine w_end ?_
  refine q_then ?_
  refine c_ret ?_
  refine q_then_r ?_
  obtain rfl := Option.some.inj h
  exact fin_ret (v := (B true)) (results_ok Try.results10 (res_tmp (v := (B true)) rfl res_nil) rfl) ⟨rfl, rfl⟩ (H.sel' [] rfl rfl)
 ·replace h := bif_f hb1 h
  refine c_skip ?_
  refine q_then ?_
  refine c_seq ?_
  refine rg ?_
  refine st (v := (Sl acode_0 code_0 ccode_0)) (rv_move rfl) ?_
  obtain ⟨r2, hx3, h'⟩ := bind_some h
  clear h
  have h := h'; clear h'
  have hc4 := c_spec_DrawMoveCentres (acode_0 := acode_0) (ccode_0 := ccode_0) hx3
  refine st_call (cx_call hc4 (ent_f hc4.fn rfl) hn0 (show Hp S0 σ0 _ ([Ch.ro 0 (Sl acode_0 code_0 ccode_0) code_0] ++ [Ch.ro 0 (Sl acode_0 code_0 ccode_0) code_0]) from (H.sel' [0, 0] rfl rfl))) wn ?_
  rintro _ σ9 ⟨_, ⟨a5, c6, a7, c8, rfl, rfl⟩, H, -⟩
  replace H : Hp S0 σ0 σ9 [Ch.own n0 n0 (Sl a5 r2.1 c6) r2.1, Ch.own n0 n0 (Sl a7 r2.2 c8) r2.2, Ch.ro 0 (Sl acode_0 code_0 ccode_0) code_0] := H
  refine st (v := (.tuple #[(Sl a5 r2.1 c6), (Sl a7 r2.2 c8)])) (rv_move rfl) ?_
  refine st (v := (Sl a5 r2.1 c6)) (rv_extract rfl rfl) ?_
  refine st (v := (Sl a7 r2.2 c8)) (rv_extract rfl rfl) ?_
  refine st (v := (Sl a5 r2.1 c6)) (rv_assign rfl) ?_
  refine st (v := (Sl a7 r2.2 c8)) (rv_assign rfl) ?_
  refine w_end ?_
  refine q_then ?_
  refine c_seq ?_
  refine rg ?_
  refine st (v := (Sl a5 r2.1 c6)) (rv_move rfl) ?_
  refine st (v := (Sl a7 r2.2 c8)) (rv_move rfl) ?_
  obtain ⟨r10, hx11, h'⟩ := bind_some h
  clear h
  have h := h'; clear h'
  have hc12 := c_impl_MoveCentres (acentres_0 := a5) (ccentres_0 := c6) (alist_1 := a7) (clist_1 := c8) hx11
  have hle := Nat.le_trans hn0 H.size
  refine st_call (cx_lend (Loan.lend (Loan.lend Loan.nil)) hc12 (ent_f hc12.fn rfl) (show Hp S0 σ0 _ ([Ch.own n0 n0 (Sl a5 r2.1 c6) r2.1, Ch.own n0 n0 (Sl a7 r2.2 c8) r2.2] ++ ([] ++ [Ch.ro 0 (Sl acode_0 code_0 ccode_0) code_0])) from (H.sel' [0, 1, 2] rfl rfl)) (by rintro _ _ _ ⟨_, _, rfl, rfl, _⟩; exact ⟨Ab.own (Nat.le_refl _), trivial⟩)) wn ?_
  rintro _ σ16 ⟨_, ⟨a13, c14, rfl, rfl, ht15⟩, H, -, -⟩
  replace H : Hp S0 σ0 σ16 [Ch.own σ9.size σ9.size (Sl a13 r10 c14) r10, Ch.own n0 n0 (Sl a5 r2.1 c6) r2.1, Ch.own n0 n0 (Sl a7 r2.2 c8) r2.2, Ch.ro 0 (Sl acode_0 code_0 ccode_0) code_0] := H
  replace H := H.ownLow 0 n0 n0 rfl hle hle
  clear hle
  replace H : Hp S0 σ0 σ16 [Ch.own n0 n0 (Sl a13 r10 c14) r10, Ch.own n0 n0 (Sl a5 r2.1 c6) r2.1, Ch.own n0 n0 (Sl a7 r2.2 c8) r2.2, Ch.ro 0 (Sl acode_0 code_0 ccode_0) code_0] := H
  refine st (v := (Sl a13 r10 c14)) (rv_assign rfl) ?_
  refine w_end ?_
  refine q_then ?_
  refine c_seq ?_
  refine c_seq ?_
  obtain ⟨o17, hj, h'⟩ := bind_some h
  clear h
  refine c_cut (fun e a w => e = .normal ∧ ∃ (ρ : Nat → Value) (σ : St), a = fr 66 (updL ρ [(3, (Sl a5 r2.1 c6)), (4, (Sl a7 r2.2 c8)), (5, (Sl a13 r10 c14)), (29, (B o17))]) ∧ w = σ.w ∧ Hp S0 σ0 σ [Ch.own n0 n0 (Sl a5 r2.1 c6) r2.1, Ch.own n0 n0 (Sl a7 r2.2 c8) r2.2, Ch.own n0 n0 (Sl a13 r10 c14) r10]) ?_ ?_
  ·clear h'
   rename _ = some o17 => h
   refine rg ?_
   refine st (v := (Sl a13 r10 c14)) (rv_move rfl) ?_
   refine st (v := (Sl a5 r2.1 c6)) (rv_move rfl) ?_
   refine st (v := (Sl a7 r2.2 c8)) (rv_move rfl) ?_
   obtain ⟨r18, hx19, h'⟩ := bind_some h
   clear h
   have h := h'; clear h'
   have hc20 := c_spec_MoveCentres (acentres_0 := a5) (ccentres_0 := c6) (alist_1 := a7) (clist_1 := c8) hx19
   have hle := Nat.le_trans hn0 H.size
   refine st_call (cx_lend (Loan.lend (Loan.lend Loan.nil)) hc20 (ent_f hc20.fn rfl) (show Hp S0 σ0 _ ([Ch.own n0 n0 (Sl a5 r2.1 c6) r2.1, Ch.own n0 n0 (Sl a7 r2.2 c8) r2.2] ++ ([] ++ [Ch.own n0 n0 (Sl a13 r10 c14) r10, Ch.ro 0 (Sl acode_0 code_0 ccode_0) code_0])) from (H.sel' [1, 2, 0, 3] rfl rfl)) (by rintro _ _ _ ⟨_, _, rfl, rfl⟩; exact ⟨Ab.own (Nat.le_refl _), trivial⟩)) wn ?_
   rintro _ σ23 ⟨_, ⟨a21, c22, rfl, rfl⟩, H, -, -⟩
   replace H : Hp S0 σ0 σ23 [Ch.own σ16.size σ16.size (Sl a21 r18 c22) r18, Ch.own n0 n0 (Sl a5 r2.1 c6) r2.1, Ch.own n0 n0 (Sl a7 r2.2 c8) r2.2, Ch.own n0 n0 (Sl a13 r10 c14) r10, Ch.ro 0 (Sl acode_0 code_0 ccode_0) code_0] := H
   replace H := H.ownLow 0 n0 n0 rfl hle hle
   clear hle
   replace H : Hp S0 σ0 σ23 [Ch.own n0 n0 (Sl a21 r18 c22) r18, Ch.own n0 n0 (Sl a5 r2.1 c6) r2.1, Ch.own n0 n0 (Sl a7 r2.2 c8) r2.2, Ch.own n0 n0 (Sl a13 r10 c14) r10, Ch.ro 0 (Sl acode_0 code_0 ccode_0) code_0] := H
   obtain ⟨σ24, hw25, H, -⟩ := H.pub 0 rfl (Nat.le_refl _)
   rw [← hw25]; clear hw25
   replace H := H.roLow 0 0 rfl (Nat.zero_le _)
   obtain ⟨r26, hx27, h'⟩ := bind_some h
   clear h
   have h := h'; clear h'
   have hc28 := c_laws_equalLists (aa_0 := a13) (ca_0 := c14) (ab_1 := a21) (cb_1 := c22) hx27
   have hle := Nat.le_trans hn0 H.size
   refine st_call (cx_lend (Loan.lend (Loan.same Loan.nil)) hc28 (ent_f hc28.fn rfl) (show Hp S0 σ0 _ ([Ch.own n0 n0 (Sl a13 r10 c14) r10] ++ ([Ch.ro 0 (Sl a21 r18 c22) r18] ++ [Ch.ro 0 (Sl a21 r18 c22) r18, Ch.ro n0 (Sl a21 r18 c22) r18, Ch.own n0 n0 (Sl a5 r2.1 c6) r2.1, Ch.own n0 n0 (Sl a7 r2.2 c8) r2.2, Ch.ro 0 (Sl acode_0 code_0 ccode_0) code_0])) from (H.sel' [4, 0, 0, 1, 2, 3, 5] rfl rfl)) (by rintro _ _ _ ⟨rfl, rfl⟩; exact trivial)) wn ?_
   rintro _ σ29 ⟨_, ⟨rfl, rfl⟩, H, -, -⟩
   replace H : Hp S0 σ0 σ29 [Ch.own n0 n0 (Sl a13 r10 c14) r10, Ch.ro 0 (Sl a21 r18 c22) r18, Ch.ro n0 (Sl a21 r18 c22) r18, Ch.own n0 n0 (Sl a5 r2.1 c6) r2.1, Ch.own n0 n0 (Sl a7 r2.2 c8) r2.2, Ch.ro 0 (Sl acode_0 code_0 ccode_0) code_0] := H
   clear hle
   replace H : Hp S0 σ0 σ29 [Ch.own n0 n0 (Sl a13 r10 c14) r10, Ch.ro 0 (Sl a21 r18 c22) r18, Ch.ro n0 (Sl a21 r18 c22) r18, Ch.own n0 n0 (Sl a5 r2.1 c6) r2.1, Ch.own n0 n0 (Sl a7 r2.2 c8) r2.2, Ch.ro 0 (Sl acode_0 code_0 ccode_0) code_0] := H
   refine st (v := (B (!r26))) (rv_not rfl) ?_
   refine st (v := (B (!r26))) (rv_move rfl) ?_
   rcases Bool.eq_false_or_eq_true (!r26) with hb30 | hb30
   ·replace h := bif_t hb30 h
    refine st_skip (congrArg some hb30) ?_
    refine st_skip (congrArg some hb30) ?_
    refine st_skip (congrArg some hb30) ?_
    refine st (v := (B true)) (rv_pick_t (congrArg B hb30) rfl) ?_
    refine w_end ?_
    obtain rfl := Option.some.inj h
    exact ⟨rfl, _, σ29, fr_join ⟨rfl, rfl, rfl, rfl, trivial⟩, rfl, H.sel' [3, 4, 0] rfl rfl⟩
   ·replace h := bif_f hb30 h
    refine st_g (v := (Sl a13 r10 c14)) (congrArg some hb30) (rv_move rfl) ?_
    refine st_g (v := (I (r10.length : Int))) (congrArg some hb30) (rv_len Try.underlying29 rfl) ?_
    refine st_g (v := (B ((r10.length : Int) == 0))) (congrArg some hb30) (rv_eql (a := (r10.length : Int)) (b := 0) rfl rfl) ?_
    refine st (v := (B ((r10.length : Int) == 0))) (rv_pick_f (congrArg B hb30) rfl) ?_
    refine w_end ?_
    obtain rfl := Option.some.inj h
    exact ⟨rfl, _, σ29, fr_join ⟨rfl, rfl, rfl, rfl, trivial⟩, rfl, H.sel' [3, 4, 0] rfl rfl⟩
  ·clear hj
   have h := h'
   clear h' H
   rintro e a w ⟨rfl, ρ, σ31, rfl, rfl, H⟩
   refine q_then ?_
   refine cd_cond o17 rfl (fun hb32 => ?_) (fun hb32 => ?_)
   ·replace h := bif_t hb32 h
    refine c_seq ?_
    refine rg ?_
    refine st (v := (Sl a13 r10 c14)) (rv_move rfl) ?_
    refine st (v := (Sl a5 r2.1 c6)) (rv_move rfl) ?_
    refine st (v := (Sl a7 r2.2 c8)) (rv_move rfl) ?_
    obtain ⟨σ33, hw34, H, -⟩ := H.pub 0 rfl (Nat.le_refl _)
    rw [← hw34]; clear hw34
    obtain ⟨σ35, hw36, H, -⟩ := H.pub 1 rfl (Nat.le_refl _)
    rw [← hw36]; clear hw36
    replace H := H.roLow 1 0 rfl (Nat.zero_le _)
    replace H := H.roLow 1 0 rfl (Nat.zero_le _)
    obtain ⟨r37, hx38, h'⟩ := bind_some h
    clear h
    have h := h'; clear h'
    have hc39 := c_spec_MoveCentres (acentres_0 := a5) (ccentres_0 := c6) (alist_1 := a7) (clist_1 := c8) hx38
    refine st_call (cx_call hc39 (ent_f hc39.fn rfl) hn0 (show Hp S0 σ0 _ ([Ch.ro 0 (Sl a5 r2.1 c6) r2.1, Ch.ro 0 (Sl a7 r2.2 c8) r2.2] ++ [Ch.ro 0 (Sl a7 r2.2 c8) r2.2, Ch.ro 0 (Sl a5 r2.1 c6) r2.1, Ch.ro n0 (Sl a7 r2.2 c8) r2.2, Ch.ro n0 (Sl a5 r2.1 c6) r2.1, Ch.own n0 n0 (Sl a13 r10 c14) r10]) from (H.sel' [1, 0, 0, 1, 2, 3, 4] rfl rfl))) wn ?_
    rintro _ σ42 ⟨_, ⟨a40, c41, rfl, rfl⟩, H, -⟩
    replace H : Hp S0 σ0 σ42 [Ch.own n0 n0 (Sl a40 r37 c41) r37, Ch.ro 0 (Sl a7 r2.2 c8) r2.2, Ch.ro 0 (Sl a5 r2.1 c6) r2.1, Ch.ro n0 (Sl a7 r2.2 c8) r2.2, Ch.ro n0 (Sl a5 r2.1 c6) r2.1, Ch.own n0 n0 (Sl a13 r10 c14) r10] := H
    obtain ⟨σ43, hw44, H, -⟩ := H.pub 5 rfl (Nat.le_refl _)
    rw [← hw44]; clear hw44
    obtain ⟨σ45, hw46, H, -⟩ := H.pub 1 rfl (Nat.le_refl _)
    rw [← hw46]; clear hw46
    replace H := H.roLow 1 0 rfl (Nat.zero_le _)
    replace H := H.roLow 1 0 rfl (Nat.zero_le _)
    obtain ⟨r47, hx48, h'⟩ := bind_some h
    clear h
    have h := h'; clear h'
    have hc49 := c_laws_equalLists (aa_0 := a13) (ca_0 := c14) (ab_1 := a40) (cb_1 := c41) hx48
    refine st_call (cx_call hc49 (ent_f hc49.fn rfl) hn0 (show Hp S0 σ0 _ ([Ch.ro 0 (Sl a13 r10 c14) r10, Ch.ro 0 (Sl a40 r37 c41) r37] ++ [Ch.ro 0 (Sl a40 r37 c41) r37, Ch.ro 0 (Sl a13 r10 c14) r10, Ch.ro n0 (Sl a40 r37 c41) r37, Ch.ro n0 (Sl a13 r10 c14) r10, Ch.ro 0 (Sl a7 r2.2 c8) r2.2, Ch.ro 0 (Sl a5 r2.1 c6) r2.1, Ch.ro n0 (Sl a7 r2.2 c8) r2.2, Ch.ro n0 (Sl a5 r2.1 c6) r2.1]) from (H.sel' [1, 0, 0, 1, 2, 3, 4, 5, 6, 7] rfl rfl))) wn ?_
    rintro _ σ50 ⟨_, ⟨rfl, rfl⟩, H, -⟩
    replace H : Hp S0 σ0 σ50 [Ch.ro 0 (Sl a40 r37 c41) r37, Ch.ro 0 (Sl a13 r10 c14) r10, Ch.ro n0 (Sl a40 r37 c41) r37, Ch.ro n0 (Sl a13 r10 c14) r10, Ch.ro 0 (Sl a7 r2.2 c8) r2.2, Ch.ro 0 (Sl a5 r2.1 c6) r2.1, Ch.ro n0 (Sl a7 r2.2 c8) r2.2, Ch.ro n0 (Sl a5 r2.1 c6) r2.1] := H
    replace H : Hp S0 σ0 σ50 [] := H.sel' [] rfl rfl
    refine st (v := (B r47)) (rv_assign rfl) ?_
    refine w_end ?_
    refine q_then ?_
    refine c_ret ?_
    refine q_then_r ?_
    obtain rfl := Option.some.inj h
    exact fin_ret (v := (B r47)) (results_ok Try.results10 (res_tmp (v := (B r47)) rfl res_nil) rfl) ⟨rfl, rfl⟩ (H.sel' [] rfl rfl)
   ·replace h := bif_f hb32 h
    refine c_skip ?_
    refine q_then ?_
    refine c_seq ?_
    refine rg ?_
    refine st (v := (Sl a5 r2.1 c6)) (rv_move rfl) ?_
    refine st (v := (Sl a7 r2.2 c8)) (rv_move rfl) ?_
    obtain ⟨σ51, hw52, H, -⟩ := H.pub 1 rfl (Nat.le_refl _)
    rw [← hw52]; clear hw52
    replace H := H.roLow 0 0 rfl (Nat.zero_le _)
    obtain ⟨r53, hx54, h'⟩ := bind_some h
    clear h
    have h := h'; clear h'
    have hc55 := c_impl_AssignItems (acentres_0 := a5) (ccentres_0 := c6) (alist_1 := a7) (clist_1 := c8) hx54
    have hle := Nat.le_trans hn0 H.size
    refine st_call (cx_lend (Loan.lend (Loan.same Loan.nil)) hc55 (ent_f hc55.fn rfl) (show Hp S0 σ0 _ ([Ch.own n0 n0 (Sl a5 r2.1 c6) r2.1] ++ ([Ch.ro 0 (Sl a7 r2.2 c8) r2.2] ++ [Ch.ro 0 (Sl a7 r2.2 c8) r2.2, Ch.ro n0 (Sl a7 r2.2 c8) r2.2, Ch.own n0 n0 (Sl a13 r10 c14) r10])) from (H.sel' [2, 0, 0, 1, 3] rfl rfl)) (by rintro _ _ _ ⟨_, _, rfl, rfl, _⟩; exact ⟨Ab.ownSc, trivial⟩)) wn ?_
    rintro _ σ59 ⟨_, ⟨a56, c57, rfl, rfl, ht58⟩, H, -, -⟩
    replace H : Hp S0 σ0 σ59 [Ch.own σ51.size σ51.size (Sl a56 r53 c57) r53, Ch.own n0 n0 (Sl a5 r2.1 c6) r2.1, Ch.ro 0 (Sl a7 r2.2 c8) r2.2, Ch.ro n0 (Sl a7 r2.2 c8) r2.2, Ch.own n0 n0 (Sl a13 r10 c14) r10] := H
    replace H := H.ownLow 0 n0 n0 rfl hle hle
    clear hle
    replace H : Hp S0 σ0 σ59 [Ch.own n0 n0 (Sl a56 r53 c57) r53, Ch.own n0 n0 (Sl a5 r2.1 c6) r2.1, Ch.ro 0 (Sl a7 r2.2 c8) r2.2, Ch.ro n0 (Sl a7 r2.2 c8) r2.2, Ch.own n0 n0 (Sl a13 r10 c14) r10] := H
    refine st (v := (Sl a56 r53 c57)) (rv_assign rfl) ?_
    refine w_end ?_
    refine q_then ?_
    refine c_seq ?_
    refine c_seq ?_
    refine rg ?_
    refine st (v := (I 0)) (rv_assign rfl) ?_
    refine w_end ?_
    refine q_then ?_
    obtain ⟨o60, hj, h'⟩ := bind_some h
    clear h
    refine c_cut (fun e a w => (∃ t, o60 = (.inl t) ∧ e = .normal ∧ ∃ (ρ : Nat → Value) (σ : St), a = fr 66 (updL ρ []) ∧ w = σ.w ∧ Hp S0 σ0 σ []) ∨ (∃ t, o60 = (.inr t) ∧ e = .ret ∧ ∃ (ρ : Nat → Value) (σ : St), a = fr 66 (updL ρ [(2, (B t))]) ∧ w = σ.w ∧ Hp S0 σ0 σ [])) ?_ ?_
    ·clear h'
     rename _ = some o60 => h
     refine c_blk ?_
     obtain ⟨σ62, hw63, H, -⟩ := H.pub 0 rfl (Nat.le_refl _)
     rw [← hw63]; clear hw63
     refine wp_loopM _ h (fun s61 a w => ∃ (ρ : Nat → Value) (σ : St), a = fr 66 (updL ρ [(3, (Sl a5 r2.1 c6)), (5, (Sl a13 r10 c14)), (6, (Sl a56 r53 c57)), (7, (I s61))]) ∧ w = σ.w ∧ Hp S0 σ0 σ [Ch.own n0 n0 (Sl a5 r2.1 c6) r2.1, Ch.own n0 n0 (Sl a13 r10 c14) r10, Ch.ro n0 (Sl a56 r53 c57) r53]) ⟨_, σ62, fr_join ⟨rfl, rfl, rfl, rfl, trivial⟩, rfl, H.sel' [1, 4, 0] rfl rfl⟩ ?_
     clear h H
     rintro s61 a w o ⟨ρ, σ64, rfl, rfl, H⟩ h hres
     refine c_seq ?_
     refine c_seq ?_
     refine rg ?_
     refine st (v := (I s61)) (rv_move rfl) ?_
     refine st (v := (Sl a5 r2.1 c6)) (rv_move rfl) ?_
     refine st (v := (I (r2.1.length : Int))) (rv_len Try.underlying29 rfl) ?_
     refine st (v := (B (decide (s61 < (r2.1.length : Int))))) (rv_lss (a := s61) (b := (r2.1.length : Int)) rfl rfl) ?_
     refine w_end ?_
     refine q_then ?_
     refine cd_cond (decide (s61 < (r2.1.length : Int))) rfl (fun hb65 => ?_) (fun hb65 => ?_)
     ·replace h := bif_t hb65 h
      refine c_skip ?_
      refine q_then ?_
      refine c_seq ?_
      refine c_blk ?_
      refine c_seq ?_
      obtain ⟨o66, hj, h'⟩ := bind_some h
      clear h
      refine c_cut (fun e a w => e = .normal ∧ ∃ (ρ : Nat → Value) (σ : St), a = fr 66 (updL ρ [(3, (Sl a5 r2.1 c6)), (5, (Sl a13 r10 c14)), (6, (Sl a56 r53 c57)), (7, (I s61)), (65, (B o66))]) ∧ w = σ.w ∧ Hp S0 σ0 σ [Ch.own n0 n0 (Sl a5 r2.1 c6) r2.1, Ch.own n0 n0 (Sl a13 r10 c14) r10, Ch.ro n0 (Sl a56 r53 c57) r53]) ?_ ?_
      ·clear h'
       rename _ = some o66 => h
       replace H := H.roLow 2 0 rfl (Nat.zero_le _)
       obtain ⟨r67, hx68, h'⟩ := bind_some h
       clear h
       have h := h'; clear h'
       have hc69 := c_laws_isIn (alist_0 := a56) (clist_0 := c57) hx68
       rcases Bool.eq_false_or_eq_true (!r67) with hb70 | hb70
       ·replace h := bif_t hb70 h
        rcases Bool.eq_false_or_eq_true (decide ((r10.length : Int) ≤ s61)) with hb71 | hb71
        ·replace h := bif_t hb71 h
         have Hs := H
         refine rg2 (σ := σ64) (Nm := Unit) 18 [2] [[false], [true]] [[(0, 0)], [(0, 0)], [(0, 1)], [(1, 1)], [(1, 1)], [(1, 1)], [(1, 1)], [(1, 1)], [(1, 1)], [(1, 1)], [(1, 1)], [(1, 1)], [(1, 1)], [(1, 1)], [(1, 1)], [(1, 1)], [(1, 1)], [(1, 1)]] 1 [fun _ => fun σm => Hp S0 σ0 σm [Ch.ro 0 (Sl a56 r53 c57) r53, Ch.own n0 n0 (Sl a5 r2.1 c6) r2.1, Ch.own n0 n0 (Sl a13 r10 c14) r10, Ch.ro n0 (Sl a56 r53 c57) r53] ∧ Md (cov []) σ64 σm, fun _ => fun σm => Hp S0 σ0 σm [Ch.ro 0 (Sl a56 r53 c57) r53, Ch.own n0 n0 (Sl a5 r2.1 c6) r2.1, Ch.own n0 n0 (Sl a13 r10 c14) r10, Ch.ro n0 (Sl a56 r53 c57) r53] ∧ Md (cov []) σ64 σm] [fun _ => (Sl a56 r53 c57), fun _ => (I s61), fun _ => (B r67), fun _ => (B (!r67)), fun _ => (B (!r67)), fun _ => (I s61), fun _ => (Sl a13 r10 c14), fun _ => (I (r10.length : Int)), fun _ => (B (decide ((r10.length : Int) ≤ s61))), fun _ => (B (decide ((r10.length : Int) ≤ s61))), fun _ => undef, fun _ => undef, fun _ => undef, fun _ => undef, fun _ => undef, fun _ => undef, fun _ => undef, fun _ => undef] () (by kernel_rfl) (by kernel_rfl) ?_ ?_ ?_
         ·intro σm m0
          exact ⟨H.grow (m0.mono fun _ h => h.elim), m0⟩
         ·refine ac rfl (by
            intro k _nm ρ σm hJ hoff hdep
            have e6 := look_off (N := 66) (hoff 6 rfl) rfl
            exact dp_v (v := (Sl a56 r53 c57)) wn (rv_move e6) rfl hJ) ?_
          refine ac rfl (by
            intro k _nm ρ σm hJ hoff hdep
            have e7 := look_off (N := 66) (hoff 7 rfl) rfl
            exact dp_v (v := (I s61)) wn (rv_move e7) rfl hJ) ?_
          refine all_cons (by
            refine ⟨?_, ?_⟩
            ·intro _nm ρ σm hJ hoff hdep
             have e44 : look 66 ρ 44 = (Sl a56 r53 c57) := hdep 0 rfl rfl 44 rfl
             have e45 : look 66 ρ 45 = (I s61) := hdep 1 rfl rfl 45 rfl
             obtain ⟨H, m⟩ := id hJ
             refine dp_cx wn (cx_call hc69 (ent_f hc69.fn (by show [look 66 ρ 44, look 66 ρ 45] = _; rw [e44, e45])) hn0 (show Hp S0 σ0 _ ([Ch.ro 0 (Sl a56 r53 c57) r53] ++ [Ch.ro 0 (Sl a56 r53 c57) r53, Ch.own n0 n0 (Sl a5 r2.1 c6) r2.1, Ch.own n0 n0 (Sl a13 r10 c14) r10, Ch.ro n0 (Sl a56 r53 c57) r53]) from (H.sel' [0, 0, 1, 2, 3] rfl rfl))) ?_
             rintro _ σq ⟨_, ⟨rfl, rfl⟩, H2, m2⟩
             exact ⟨_, (), rfl, rfl, ⟨H2.sel' [0, 1, 2, 3] rfl rfl, m.comp0 (m2.mono (fun i h => by simp [cov, Ch.ro] at h))⟩, stab [0, 1] (by kernel_rfl) ⟨rfl, rfl, trivial⟩⟩
            trivial) ?_
          refine ac rfl (by
            intro k _nm ρ σm hJ hoff hdep
            have e46 := hdep 2 rfl rfl 46 rfl
            exact dp_v (v := (B (!r67))) wn (rv_not e46) rfl hJ) ?_
          refine ac rfl (by
            intro k _nm ρ σm hJ hoff hdep
            have e47 := hdep 3 rfl rfl 47 rfl
            exact dp_v (v := (B (!r67))) wn (rv_move e47) rfl hJ) ?_
          refine ac rfl (by
            intro k _nm ρ σm hJ hoff hdep
            have e7 := look_off (N := 66) (hoff 7 rfl) rfl
            have e48 := hdep 4 rfl rfl 48 rfl
            exact dp_v (v := (I s61)) (wanted_yes rfl (yv_of rfl (e48.trans (congrArg B hb70)))) (rv_move e7) rfl hJ) ?_
          refine ac rfl (by
            intro k _nm ρ σm hJ hoff hdep
            have e5 := look_off (N := 66) (hoff 5 rfl) rfl
            have e48 := hdep 4 rfl rfl 48 rfl
            exact dp_v (v := (Sl a13 r10 c14)) (wanted_yes rfl (yv_of rfl (e48.trans (congrArg B hb70)))) (rv_move e5) rfl hJ) ?_
          refine ac rfl (by
            intro k _nm ρ σm hJ hoff hdep
            have e50 := hdep 6 rfl rfl 50 rfl
            have e48 := hdep 4 rfl rfl 48 rfl
            exact dp_v (v := (I (r10.length : Int))) (wanted_yes rfl (yv_of rfl (e48.trans (congrArg B hb70)))) (rv_len Try.underlying29 e50) rfl hJ) ?_
          refine ac rfl (by
            intro k _nm ρ σm hJ hoff hdep
            have e49 := hdep 5 rfl rfl 49 rfl
            have e51 := hdep 7 rfl rfl 51 rfl
            have e48 := hdep 4 rfl rfl 48 rfl
            exact dp_v (v := (B (decide ((r10.length : Int) ≤ s61)))) (wanted_yes rfl (yv_of rfl (e48.trans (congrArg B hb70)))) (rv_geq (a := s61) (b := (r10.length : Int)) e49 e51) rfl hJ) ?_
          refine ac rfl (by
            intro k _nm ρ σm hJ hoff hdep
            have e52 := hdep 8 rfl rfl 52 rfl
            have e48 := hdep 4 rfl rfl 48 rfl
            exact dp_v (v := (B (decide ((r10.length : Int) ≤ s61)))) (wanted_yes rfl (yv_of rfl (e48.trans (congrArg B hb70)))) (rv_move e52) rfl hJ) ?_
          refine ac rfl (by
            intro k _nm ρ σm hJ hoff hdep
            have e53 := hdep 9 rfl rfl 53 rfl
            exact dp_skip (wanted_no rfl (yv_of rfl (e53.trans (congrArg B hb71)))) rfl hJ) ?_
          refine ac rfl (by
            intro k _nm ρ σm hJ hoff hdep
            have e53 := hdep 9 rfl rfl 53 rfl
            exact dp_skip (wanted_no rfl (yv_of rfl (e53.trans (congrArg B hb71)))) rfl hJ) ?_
          refine ac rfl (by
            intro k _nm ρ σm hJ hoff hdep
            have e53 := hdep 9 rfl rfl 53 rfl
            exact dp_skip (wanted_no rfl (yv_of rfl (e53.trans (congrArg B hb71)))) rfl hJ) ?_
          refine ac rfl (by
            intro k _nm ρ σm hJ hoff hdep
            have e53 := hdep 9 rfl rfl 53 rfl
            exact dp_skip (wanted_no rfl (yv_of rfl (e53.trans (congrArg B hb71)))) rfl hJ) ?_
          refine ac rfl (by
            intro k _nm ρ σm hJ hoff hdep
            have e53 := hdep 9 rfl rfl 53 rfl
            exact dp_skip (wanted_no rfl (yv_of rfl (e53.trans (congrArg B hb71)))) rfl hJ) ?_
          refine ac rfl (by
            intro k _nm ρ σm hJ hoff hdep
            have e53 := hdep 9 rfl rfl 53 rfl
            exact dp_skip (wanted_no rfl (yv_of rfl (e53.trans (congrArg B hb71)))) rfl hJ) ?_
          refine ac rfl (by
            intro k _nm ρ σm hJ hoff hdep
            have e53 := hdep 9 rfl rfl 53 rfl
            exact dp_skip (wanted_no rfl (yv_of rfl (e53.trans (congrArg B hb71)))) rfl hJ) ?_
          refine ac rfl (by
            intro k _nm ρ σm hJ hoff hdep
            have e53 := hdep 9 rfl rfl 53 rfl
            exact dp_skip (wanted_no rfl (yv_of rfl (e53.trans (congrArg B hb71)))) rfl hJ) ?_
          exact all_nil
         ·intro _nm ρ σ72 hJ hoff hrel
          have e3 := look_off (N := 66) (hoff 3 rfl) rfl
          have e5 := look_off (N := 66) (hoff 5 rfl) rfl
          have e6 := look_off (N := 66) (hoff 6 rfl) rfl
          have e7 := look_off (N := 66) (hoff 7 rfl) rfl
          have e48 := hrel 4 rfl 48 rfl
          have e53 := hrel 9 rfl 53 rfl
          have e57 := hrel 13 rfl 57 rfl
          have e61 := hrel 17 rfl 61 rfl
          obtain ⟨H, -⟩ := (show Hp S0 σ0 σ72 [Ch.ro 0 (Sl a56 r53 c57) r53, Ch.own n0 n0 (Sl a5 r2.1 c6) r2.1, Ch.own n0 n0 (Sl a13 r10 c14) r10, Ch.ro n0 (Sl a56 r53 c57) r53] ∧ Md (cov []) σ64 σ72 from hJ)
          clear hJ Hs
          rw [fr_lookL (L := [(3, (Sl a5 r2.1 c6)), (5, (Sl a13 r10 c14)), (6, (Sl a56 r53 c57)), (7, (I s61)), (48, (B (!r67))), (53, (B (decide ((r10.length : Int) ≤ s61)))), (57, undef), (61, undef)]) ⟨e3, e5, e6, e7, e48, e53, e57, e61, trivial⟩]
          clear hoff hrel e3 e5 e6 e7 e48 e53 e57 e61
          refine st_skip (congrArg some hb71) ?_
          refine st_skip (congrArg some hb71) ?_
          refine st_g (v := (B true)) (congrArg some hb70) (rv_pick_t (congrArg B hb71) rfl) ?_
          refine st (v := (B true)) (rv_pick_t (congrArg B hb70) rfl) ?_
          refine w_end ?_
          obtain rfl := Option.some.inj h
          exact ⟨rfl, _, σ72, fr_join ⟨rfl, rfl, rfl, rfl, rfl, trivial⟩, rfl, H.sel' [1, 2, 3] rfl rfl⟩
        ·replace h := bif_f hb71 h
         obtain ⟨x73, hx74, h'⟩ := bind_some h
         clear h
         have h := h'; clear h'
         obtain ⟨b76, o77, hi75, -⟩ := (H.own 2 rfl).ix hx74
         obtain ⟨v81, hc82, hR80⟩ := ((H.own 2 rfl).at hx74 hi75).slice
         obtain ⟨a78, c79, rfl⟩ := hR80.isSl
         replace H := H.add (d := Ch.ro n0 (Sl a78 x73 c79) x73) hR80 (fun _ h => h)
         clear hR80
         obtain ⟨x83, hx84, h'⟩ := bind_some h
         clear h
         have h := h'; clear h'
         obtain ⟨b86, o87, hi85, -⟩ := (H.own 2 rfl).ix hx84
         obtain ⟨v91, hc92, hR90⟩ := ((H.own 2 rfl).at hx84 hi85).slice
         obtain ⟨a88, c89, rfl⟩ := hR90.isSl
         replace H := H.add (d := Ch.ro n0 (Sl a88 x83 c89) x83) hR90 (fun _ h => h)
         clear hR90
         have Hs := H
         refine rg2 (σ := σ64) (Nm := Unit) 18 [2] [[false], [true]] [[(0, 0)], [(0, 0)], [(0, 1)], [(1, 1)], [(1, 1)], [(1, 1)], [(1, 1)], [(1, 1)], [(1, 1)], [(1, 1)], [(1, 1)], [(1, 1)], [(1, 1)], [(1, 1)], [(1, 1)], [(1, 1)], [(1, 1)], [(1, 1)]] 1 [fun _ => fun σm => Hp S0 σ0 σm [Ch.ro n0 (Sl a88 x83 c89) x83, Ch.ro n0 (Sl a78 x73 c79) x73, Ch.ro 0 (Sl a56 r53 c57) r53, Ch.own n0 n0 (Sl a5 r2.1 c6) r2.1, Ch.own n0 n0 (Sl a13 r10 c14) r10, Ch.ro n0 (Sl a56 r53 c57) r53] ∧ Md (cov []) σ64 σm, fun _ => fun σm => Hp S0 σ0 σm [Ch.ro n0 (Sl a88 x83 c89) x83, Ch.ro n0 (Sl a78 x73 c79) x73, Ch.ro 0 (Sl a56 r53 c57) r53, Ch.own n0 n0 (Sl a5 r2.1 c6) r2.1, Ch.own n0 n0 (Sl a13 r10 c14) r10, Ch.ro n0 (Sl a56 r53 c57) r53] ∧ Md (cov []) σ64 σm] [fun _ => (Sl a56 r53 c57), fun _ => (I s61), fun _ => (B r67), fun _ => (B (!r67)), fun _ => (B (!r67)), fun _ => (I s61), fun _ => (Sl a13 r10 c14), fun _ => (I (r10.length : Int)), fun _ => (B (decide ((r10.length : Int) ≤ s61))), fun _ => (B (decide ((r10.length : Int) ≤ s61))), fun _ => (Sl a13 r10 c14), fun _ => (I s61), fun _ => (pt b76 o77), fun _ => (Sl a78 x73 c79), fun _ => (Sl a5 r2.1 c6), fun _ => (I s61), fun _ => (pt b86 o87), fun _ => (Sl a88 x83 c89)] () (by kernel_rfl) (by kernel_rfl) ?_ ?_ ?_
         ·intro σm m0
          exact ⟨H.grow (m0.mono fun _ h => h.elim), m0⟩
         ·refine ac rfl (by
            intro k _nm ρ σm hJ hoff hdep
            have e6 := look_off (N := 66) (hoff 6 rfl) rfl
            exact dp_v (v := (Sl a56 r53 c57)) wn (rv_move e6) rfl hJ) ?_
          refine ac rfl (by
            intro k _nm ρ σm hJ hoff hdep
            have e7 := look_off (N := 66) (hoff 7 rfl) rfl
            exact dp_v (v := (I s61)) wn (rv_move e7) rfl hJ) ?_
          refine all_cons (by
            refine ⟨?_, ?_⟩
            ·intro _nm ρ σm hJ hoff hdep
             have e44 : look 66 ρ 44 = (Sl a56 r53 c57) := hdep 0 rfl rfl 44 rfl
             have e45 : look 66 ρ 45 = (I s61) := hdep 1 rfl rfl 45 rfl
             obtain ⟨H, m⟩ := id hJ
             refine dp_cx wn (cx_call hc69 (ent_f hc69.fn (by show [look 66 ρ 44, look 66 ρ 45] = _; rw [e44, e45])) hn0 (show Hp S0 σ0 _ ([Ch.ro 0 (Sl a56 r53 c57) r53] ++ [Ch.ro n0 (Sl a88 x83 c89) x83, Ch.ro n0 (Sl a78 x73 c79) x73, Ch.ro 0 (Sl a56 r53 c57) r53, Ch.own n0 n0 (Sl a5 r2.1 c6) r2.1, Ch.own n0 n0 (Sl a13 r10 c14) r10, Ch.ro n0 (Sl a56 r53 c57) r53]) from (H.sel' [2, 0, 1, 2, 3, 4, 5] rfl rfl))) ?_
             rintro _ σq ⟨_, ⟨rfl, rfl⟩, H2, m2⟩
             exact ⟨_, (), rfl, rfl, ⟨H2.sel' [0, 1, 2, 3, 4, 5] rfl rfl, m.comp0 (m2.mono (fun i h => by simp [cov, Ch.ro] at h))⟩, stab [0, 1] (by kernel_rfl) ⟨rfl, rfl, trivial⟩⟩
            trivial) ?_
          refine ac rfl (by
            intro k _nm ρ σm hJ hoff hdep
            have e46 := hdep 2 rfl rfl 46 rfl
            exact dp_v (v := (B (!r67))) wn (rv_not e46) rfl hJ) ?_
          refine ac rfl (by
            intro k _nm ρ σm hJ hoff hdep
            have e47 := hdep 3 rfl rfl 47 rfl
            exact dp_v (v := (B (!r67))) wn (rv_move e47) rfl hJ) ?_
          refine ac rfl (by
            intro k _nm ρ σm hJ hoff hdep
            have e7 := look_off (N := 66) (hoff 7 rfl) rfl
            have e48 := hdep 4 rfl rfl 48 rfl
            exact dp_v (v := (I s61)) (wanted_yes rfl (yv_of rfl (e48.trans (congrArg B hb70)))) (rv_move e7) rfl hJ) ?_
          refine ac rfl (by
            intro k _nm ρ σm hJ hoff hdep
            have e5 := look_off (N := 66) (hoff 5 rfl) rfl
            have e48 := hdep 4 rfl rfl 48 rfl
            exact dp_v (v := (Sl a13 r10 c14)) (wanted_yes rfl (yv_of rfl (e48.trans (congrArg B hb70)))) (rv_move e5) rfl hJ) ?_
          refine ac rfl (by
            intro k _nm ρ σm hJ hoff hdep
            have e50 := hdep 6 rfl rfl 50 rfl
            have e48 := hdep 4 rfl rfl 48 rfl
            exact dp_v (v := (I (r10.length : Int))) (wanted_yes rfl (yv_of rfl (e48.trans (congrArg B hb70)))) (rv_len Try.underlying29 e50) rfl hJ) ?_
          refine ac rfl (by
            intro k _nm ρ σm hJ hoff hdep
            have e49 := hdep 5 rfl rfl 49 rfl
            have e51 := hdep 7 rfl rfl 51 rfl
            have e48 := hdep 4 rfl rfl 48 rfl
            exact dp_v (v := (B (decide ((r10.length : Int) ≤ s61)))) (wanted_yes rfl (yv_of rfl (e48.trans (congrArg B hb70)))) (rv_geq (a := s61) (b := (r10.length : Int)) e49 e51) rfl hJ) ?_
          refine ac rfl (by
            intro k _nm ρ σm hJ hoff hdep
            have e52 := hdep 8 rfl rfl 52 rfl
            have e48 := hdep 4 rfl rfl 48 rfl
            exact dp_v (v := (B (decide ((r10.length : Int) ≤ s61)))) (wanted_yes rfl (yv_of rfl (e48.trans (congrArg B hb70)))) (rv_move e52) rfl hJ) ?_
          refine ac rfl (by
            intro k _nm ρ σm hJ hoff hdep
            have e5 := look_off (N := 66) (hoff 5 rfl) rfl
            have e53 := hdep 9 rfl rfl 53 rfl
            exact dp_v (v := (Sl a13 r10 c14)) (wanted_yes rfl (yv_of rfl (e53.trans (congrArg B hb71)))) (rv_move e5) rfl hJ) ?_
          refine ac rfl (by
            intro k _nm ρ σm hJ hoff hdep
            have e7 := look_off (N := 66) (hoff 7 rfl) rfl
            have e53 := hdep 9 rfl rfl 53 rfl
            exact dp_v (v := (I s61)) (wanted_yes rfl (yv_of rfl (e53.trans (congrArg B hb71)))) (rv_move e7) rfl hJ) ?_
          refine ac rfl (by
            intro k _nm ρ σm hJ hoff hdep
            have e54 := hdep 10 rfl rfl 54 rfl
            have e55 := hdep 11 rfl rfl 55 rfl
            have e53 := hdep 9 rfl rfl 53 rfl
            exact dp_v (v := (pt b76 o77)) (wanted_yes rfl (yv_of rfl (e53.trans (congrArg B hb71)))) (rv_ix Try.underlying29 ti24 e54 e55 hi75) rfl hJ) ?_
          refine all_cons (by
            refine ⟨?_, ?_⟩
            ·intro _nm ρ σm hJ hoff hdep
             have e56 := hdep 12 rfl rfl 56 rfl
             have e53 := hdep 9 rfl rfl 53 rfl
             obtain ⟨H, m⟩ := id hJ
             replace hc82 := m.hcell hc82 nocov
             exact dp_v (v := (Sl a78 x73 c79)) (wanted_yes rfl (yv_of rfl (e53.trans (congrArg B hb71)))) (rv_load1 Try.underlying24 rfl e56 hc82) rfl hJ
            trivial) ?_
          refine ac rfl (by
            intro k _nm ρ σm hJ hoff hdep
            have e3 := look_off (N := 66) (hoff 3 rfl) rfl
            have e53 := hdep 9 rfl rfl 53 rfl
            exact dp_v (v := (Sl a5 r2.1 c6)) (wanted_yes rfl (yv_of rfl (e53.trans (congrArg B hb71)))) (rv_move e3) rfl hJ) ?_
          refine ac rfl (by
            intro k _nm ρ σm hJ hoff hdep
            have e7 := look_off (N := 66) (hoff 7 rfl) rfl
            have e53 := hdep 9 rfl rfl 53 rfl
            exact dp_v (v := (I s61)) (wanted_yes rfl (yv_of rfl (e53.trans (congrArg B hb71)))) (rv_move e7) rfl hJ) ?_
          refine ac rfl (by
            intro k _nm ρ σm hJ hoff hdep
            have e58 := hdep 14 rfl rfl 58 rfl
            have e59 := hdep 15 rfl rfl 59 rfl
            have e53 := hdep 9 rfl rfl 53 rfl
            exact dp_v (v := (pt b86 o87)) (wanted_yes rfl (yv_of rfl (e53.trans (congrArg B hb71)))) (rv_ix Try.underlying29 ti24 e58 e59 hi85) rfl hJ) ?_
          refine all_cons (by
            refine ⟨?_, ?_⟩
            ·intro _nm ρ σm hJ hoff hdep
             have e60 := hdep 16 rfl rfl 60 rfl
             have e53 := hdep 9 rfl rfl 53 rfl
             obtain ⟨H, m⟩ := id hJ
             replace hc92 := m.hcell hc92 nocov
             exact dp_v (v := (Sl a88 x83 c89)) (wanted_yes rfl (yv_of rfl (e53.trans (congrArg B hb71)))) (rv_load1 Try.underlying24 rfl e60 hc92) rfl hJ
            trivial) ?_
          exact all_nil
         ·intro _nm ρ σ93 hJ hoff hrel
          have e3 := look_off (N := 66) (hoff 3 rfl) rfl
          have e5 := look_off (N := 66) (hoff 5 rfl) rfl
          have e6 := look_off (N := 66) (hoff 6 rfl) rfl
          have e7 := look_off (N := 66) (hoff 7 rfl) rfl
          have e48 := hrel 4 rfl 48 rfl
          have e53 := hrel 9 rfl 53 rfl
          have e57 := hrel 13 rfl 57 rfl
          have e61 := hrel 17 rfl 61 rfl
          obtain ⟨H, -⟩ := (show Hp S0 σ0 σ93 [Ch.ro n0 (Sl a88 x83 c89) x83, Ch.ro n0 (Sl a78 x73 c79) x73, Ch.ro 0 (Sl a56 r53 c57) r53, Ch.own n0 n0 (Sl a5 r2.1 c6) r2.1, Ch.own n0 n0 (Sl a13 r10 c14) r10, Ch.ro n0 (Sl a56 r53 c57) r53] ∧ Md (cov []) σ64 σ93 from hJ)
          clear hJ Hs
          rw [fr_lookL (L := [(3, (Sl a5 r2.1 c6)), (5, (Sl a13 r10 c14)), (6, (Sl a56 r53 c57)), (7, (I s61)), (48, (B (!r67))), (53, (B (decide ((r10.length : Int) ≤ s61)))), (57, (Sl a78 x73 c79)), (61, (Sl a88 x83 c89))]) ⟨e3, e5, e6, e7, e48, e53, e57, e61, trivial⟩]
          clear hoff hrel e3 e5 e6 e7 e48 e53 e57 e61
          replace H := H.roLow 1 0 rfl (Nat.zero_le _)
          replace H := H.roLow 1 0 rfl (Nat.zero_le _)
          obtain ⟨r94, hx95, h'⟩ := bind_some h
          clear h
          have h := h'; clear h'
          have hc96 := c_laws_equalInts (aa_0 := a78) (ca_0 := c79) (ab_1 := a88) (cb_1 := c89) hx95
          refine st_call (cx_call hc96 (ent_f hc96.fn rfl) hn0 (show Hp S0 σ0 _ ([Ch.ro 0 (Sl a78 x73 c79) x73, Ch.ro 0 (Sl a88 x83 c89) x83] ++ [Ch.ro 0 (Sl a88 x83 c89) x83, Ch.ro 0 (Sl a78 x73 c79) x73, Ch.ro n0 (Sl a88 x83 c89) x83, Ch.ro n0 (Sl a78 x73 c79) x73, Ch.ro 0 (Sl a56 r53 c57) r53, Ch.own n0 n0 (Sl a5 r2.1 c6) r2.1, Ch.own n0 n0 (Sl a13 r10 c14) r10, Ch.ro n0 (Sl a56 r53 c57) r53]) from (H.sel' [1, 0, 0, 1, 2, 3, 4, 5, 6, 7] rfl rfl))) (wanted_yes rfl (by exact (congrArg some hb71))) ?_
          rintro _ σ97 ⟨_, ⟨rfl, rfl⟩, H, -⟩
          replace H : Hp S0 σ0 σ97 [Ch.ro 0 (Sl a88 x83 c89) x83, Ch.ro 0 (Sl a78 x73 c79) x73, Ch.ro n0 (Sl a88 x83 c89) x83, Ch.ro n0 (Sl a78 x73 c79) x73, Ch.ro 0 (Sl a56 r53 c57) r53, Ch.own n0 n0 (Sl a5 r2.1 c6) r2.1, Ch.own n0 n0 (Sl a13 r10 c14) r10, Ch.ro n0 (Sl a56 r53 c57) r53] := H
          replace H : Hp S0 σ0 σ97 [Ch.own n0 n0 (Sl a5 r2.1 c6) r2.1, Ch.own n0 n0 (Sl a13 r10 c14) r10, Ch.ro n0 (Sl a56 r53 c57) r53] := H.sel' [5, 6, 7] rfl rfl
          refine st_g (v := (B (!r94))) (congrArg some hb71) (rv_not rfl) ?_
          refine st_g (v := (B (!r94))) (congrArg some hb70) (rv_pick_f (congrArg B hb71) rfl) ?_
          refine st (v := (B (!r94))) (rv_pick_t (congrArg B hb70) rfl) ?_
          refine w_end ?_
          obtain rfl := Option.some.inj h
          exact ⟨rfl, _, σ97, fr_join ⟨rfl, rfl, rfl, rfl, rfl, trivial⟩, rfl, H.sel' [0, 1, 2] rfl rfl⟩
       ·replace h := bif_f hb70 h
        have Hs := H
        refine rg2 (σ := σ64) (Nm := Unit) 18 [2] [[false], [true]] [[(0, 0)], [(0, 0)], [(0, 1)], [(1, 1)], [(1, 1)], [(1, 1)], [(1, 1)], [(1, 1)], [(1, 1)], [(1, 1)], [(1, 1)], [(1, 1)], [(1, 1)], [(1, 1)], [(1, 1)], [(1, 1)], [(1, 1)], [(1, 1)]] 1 [fun _ => fun σm => Hp S0 σ0 σm [Ch.ro 0 (Sl a56 r53 c57) r53, Ch.own n0 n0 (Sl a5 r2.1 c6) r2.1, Ch.own n0 n0 (Sl a13 r10 c14) r10, Ch.ro n0 (Sl a56 r53 c57) r53] ∧ Md (cov []) σ64 σm, fun _ => fun σm => Hp S0 σ0 σm [Ch.ro 0 (Sl a56 r53 c57) r53, Ch.own n0 n0 (Sl a5 r2.1 c6) r2.1, Ch.own n0 n0 (Sl a13 r10 c14) r10, Ch.ro n0 (Sl a56 r53 c57) r53] ∧ Md (cov []) σ64 σm] [fun _ => (Sl a56 r53 c57), fun _ => (I s61), fun _ => (B r67), fun _ => (B (!r67)), fun _ => (B (!r67)), fun _ => undef, fun _ => undef, fun _ => undef, fun _ => undef, fun _ => undef, fun _ => undef, fun _ => undef, fun _ => undef, fun _ => undef, fun _ => undef, fun _ => undef, fun _ => undef, fun _ => undef] () (by kernel_rfl) (by kernel_rfl) ?_ ?_ ?_
        ·intro σm m0
         exact ⟨H.grow (m0.mono fun _ h => h.elim), m0⟩
        ·refine ac rfl (by
           intro k _nm ρ σm hJ hoff hdep
           have e6 := look_off (N := 66) (hoff 6 rfl) rfl
           exact dp_v (v := (Sl a56 r53 c57)) wn (rv_move e6) rfl hJ) ?_
         refine ac rfl (by
           intro k _nm ρ σm hJ hoff hdep
           have e7 := look_off (N := 66) (hoff 7 rfl) rfl
           exact dp_v (v := (I s61)) wn (rv_move e7) rfl hJ) ?_
         refine all_cons (by
           refine ⟨?_, ?_⟩
           ·intro _nm ρ σm hJ hoff hdep
            have e44 : look 66 ρ 44 = (Sl a56 r53 c57) := hdep 0 rfl rfl 44 rfl
            have e45 : look 66 ρ 45 = (I s61) := hdep 1 rfl rfl 45 rfl
            obtain ⟨H, m⟩ := id hJ
            refine dp_cx wn (cx_call hc69 (ent_f hc69.fn (by show [look 66 ρ 44, look 66 ρ 45] = _; rw [e44, e45])) hn0 (show Hp S0 σ0 _ ([Ch.ro 0 (Sl a56 r53 c57) r53] ++ [Ch.ro 0 (Sl a56 r53 c57) r53, Ch.own n0 n0 (Sl a5 r2.1 c6) r2.1, Ch.own n0 n0 (Sl a13 r10 c14) r10, Ch.ro n0 (Sl a56 r53 c57) r53]) from (H.sel' [0, 0, 1, 2, 3] rfl rfl))) ?_
            rintro _ σq ⟨_, ⟨rfl, rfl⟩, H2, m2⟩
            exact ⟨_, (), rfl, rfl, ⟨H2.sel' [0, 1, 2, 3] rfl rfl, m.comp0 (m2.mono (fun i h => by simp [cov, Ch.ro] at h))⟩, stab [0, 1] (by kernel_rfl) ⟨rfl, rfl, trivial⟩⟩
           trivial) ?_
         refine ac rfl (by
           intro k _nm ρ σm hJ hoff hdep
           have e46 := hdep 2 rfl rfl 46 rfl
           exact dp_v (v := (B (!r67))) wn (rv_not e46) rfl hJ) ?_
         refine ac rfl (by
           intro k _nm ρ σm hJ hoff hdep
           have e47 := hdep 3 rfl rfl 47 rfl
           exact dp_v (v := (B (!r67))) wn (rv_move e47) rfl hJ) ?_
         refine ac rfl (by
           intro k _nm ρ σm hJ hoff hdep
           have e48 := hdep 4 rfl rfl 48 rfl
           exact dp_skip (wanted_no rfl (yv_of rfl (e48.trans (congrArg B hb70)))) rfl hJ) ?_
         refine ac rfl (by
           intro k _nm ρ σm hJ hoff hdep
           have e48 := hdep 4 rfl rfl 48 rfl
           exact dp_skip (wanted_no rfl (yv_of rfl (e48.trans (congrArg B hb70)))) rfl hJ) ?_
         refine ac rfl (by
           intro k _nm ρ σm hJ hoff hdep
           have e48 := hdep 4 rfl rfl 48 rfl
           exact dp_skip (wanted_no rfl (yv_of rfl (e48.trans (congrArg B hb70)))) rfl hJ) ?_
         refine ac rfl (by
           intro k _nm ρ σm hJ hoff hdep
           have e48 := hdep 4 rfl rfl 48 rfl
           exact dp_skip (wanted_no rfl (yv_of rfl (e48.trans (congrArg B hb70)))) rfl hJ) ?_
         refine ac rfl (by
           intro k _nm ρ σm hJ hoff hdep
           have e48 := hdep 4 rfl rfl 48 rfl
           exact dp_skip (wanted_no rfl (yv_of rfl (e48.trans (congrArg B hb70)))) rfl hJ) ?_
         refine ac rfl (by
           intro k _nm ρ σm hJ hoff hdep
           have e53 := hdep 9 rfl rfl 53 rfl
           exact dp_skip (wanted_u rfl (yv_undef rfl e53)) rfl hJ) ?_
         refine ac rfl (by
           intro k _nm ρ σm hJ hoff hdep
           have e53 := hdep 9 rfl rfl 53 rfl
           exact dp_skip (wanted_u rfl (yv_undef rfl e53)) rfl hJ) ?_
         refine ac rfl (by
           intro k _nm ρ σm hJ hoff hdep
           have e53 := hdep 9 rfl rfl 53 rfl
           exact dp_skip (wanted_u rfl (yv_undef rfl e53)) rfl hJ) ?_
         refine ac rfl (by
           intro k _nm ρ σm hJ hoff hdep
           have e53 := hdep 9 rfl rfl 53 rfl
           exact dp_skip (wanted_u rfl (yv_undef rfl e53)) rfl hJ) ?_
         refine ac rfl (by
           intro k _nm ρ σm hJ hoff hdep
           have e53 := hdep 9 rfl rfl 53 rfl
           exact dp_skip (wanted_u rfl (yv_undef rfl e53)) rfl hJ) ?_
         refine ac rfl (by
           intro k _nm ρ σm hJ hoff hdep
           have e53 := hdep 9 rfl rfl 53 rfl
           exact dp_skip (wanted_u rfl (yv_undef rfl e53)) rfl hJ) ?_
         refine ac rfl (by
           intro k _nm ρ σm hJ hoff hdep
           have e53 := hdep 9 rfl rfl 53 rfl
           exact dp_skip (wanted_u rfl (yv_undef rfl e53)) rfl hJ) ?_
         refine ac rfl (by
           intro k _nm ρ σm hJ hoff hdep
           have e53 := hdep 9 rfl rfl 53 rfl
           exact dp_skip (wanted_u rfl (yv_undef rfl e53)) rfl hJ) ?_
         exact all_nil
        ·intro _nm ρ σ98 hJ hoff hrel
         have e3 := look_off (N := 66) (hoff 3 rfl) rfl
         have e5 := look_off (N := 66) (hoff 5 rfl) rfl
         have e6 := look_off (N := 66) (hoff 6 rfl) rfl
         have e7 := look_off (N := 66) (hoff 7 rfl) rfl
         have e48 := hrel 4 rfl 48 rfl
         have e53 := hrel 9 rfl 53 rfl
         have e57 := hrel 13 rfl 57 rfl
         have e61 := hrel 17 rfl 61 rfl
         obtain ⟨H, -⟩ := (show Hp S0 σ0 σ98 [Ch.ro 0 (Sl a56 r53 c57) r53, Ch.own n0 n0 (Sl a5 r2.1 c6) r2.1, Ch.own n0 n0 (Sl a13 r10 c14) r10, Ch.ro n0 (Sl a56 r53 c57) r53] ∧ Md (cov []) σ64 σ98 from hJ)
         clear hJ Hs
         rw [fr_lookL (L := [(3, (Sl a5 r2.1 c6)), (5, (Sl a13 r10 c14)), (6, (Sl a56 r53 c57)), (7, (I s61)), (48, (B (!r67))), (53, undef), (57, undef), (61, undef)]) ⟨e3, e5, e6, e7, e48, e53, e57, e61, trivial⟩]
         clear hoff hrel e3 e5 e6 e7 e48 e53 e57 e61
         refine st_skip_u rfl ?_
         refine st_skip_u rfl ?_
         refine st_skip (congrArg some hb70) ?_
         refine st (v := (B false)) (rv_pick_f (congrArg B hb70) rfl) ?_
         refine w_end ?_
         obtain rfl := Option.some.inj h
         exact ⟨rfl, _, σ98, fr_join ⟨rfl, rfl, rfl, rfl, rfl, trivial⟩, rfl, H.sel' [1, 2, 3] rfl rfl⟩
      ·clear hj
       have h := h'
       clear h' H
       rintro e a w ⟨rfl, ρ, σ99, rfl, rfl, H⟩
       refine q_then ?_
       refine cd_cond o66 rfl (fun hb100 => ?_) (fun hb100 => ?_)
       ·replace h := bif_t hb100 h
        refine c_seq ?_
        refine rg ?_
        refine st (v := (B false)) (rv_assign rfl) ?_
        refine w_end ?_
        refine q_then ?_
        refine c_ret ?_
        refine q_blk_r ?_
        refine q_then_r ?_
        refine q_then_r ?_
        refine q_blk_r ?_
        obtain rfl := Option.some.inj h
        obtain rfl := hres _ rfl
        exact .inr (⟨_, rfl, rfl, _, σ99, fr_join ⟨rfl, trivial⟩, rfl, H.sel' [] rfl rfl⟩)
       ·replace h := bif_f hb100 h
        refine c_skip ?_
        refine q_blk ?_
        refine q_then ?_
        refine rg ?_
        refine st (v := (I s61)) (rv_move rfl) ?_
        refine st (v := (I (w64 (s61 + 1)))) (rv_add (a := s61) (b := 1) rfl rfl) ?_
        refine st (v := (I (w64 (s61 + 1)))) (rv_assign rfl) ?_
        refine w_end ?_
        refine q_then ?_
        obtain rfl := Option.some.inj h
        exact ⟨_, rfl, _, σ99, fr_join ⟨rfl, rfl, rfl, rfl, trivial⟩, rfl, H.sel' [0, 1, 2] rfl rfl⟩
     ·replace h := bif_f hb65 h
      refine c_exit ?_
      refine q_then_x ?_
      refine q_then_x ?_
      refine q_blk_hit ?_
      obtain rfl := Option.some.inj h
      obtain rfl := hres _ rfl
      exact .inl ⟨_, rfl, rfl, _, σ64, fr_join trivial, rfl, H.sel' [] rfl rfl⟩
    ·clear hj
     have h := h'
     clear h' H
     rintro e a w (⟨t101, rfl, rfl, ρ, σ102, rfl, rfl, H⟩ | ⟨t103, rfl, rfl, ρ, σ104, rfl, rfl, H⟩)
     ·replace h := selim_l h
      refine q_then ?_
      refine c_seq ?_
      refine rg ?_
      refine st (v := (B true)) (rv_assign rfl) ?_
      refine w_end ?_
      refine q_then ?_
      refine c_ret ?_
      obtain rfl := Option.some.inj h
      exact fin_ret (v := (B true)) (results_ok Try.results10 (res_tmp (v := (B true)) rfl res_nil) rfl) ⟨rfl, rfl⟩ (H.sel' [] rfl rfl)
     ·replace h := selim_r h
      refine q_then_r ?_
      obtain rfl := Option.some.inj h
      exact fin_ret (v := (B t103)) (results_ok Try.results10 (res_tmp (v := (B t103)) rfl res_nil) rfl) ⟨rfl, rfl⟩ (H.sel' [] rfl rfl)

end Go.Vs
