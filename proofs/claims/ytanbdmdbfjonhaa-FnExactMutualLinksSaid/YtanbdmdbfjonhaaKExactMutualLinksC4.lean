/- The functions compute what their models say. -/
import Derived.Test.YtanbdmdbfjonhaaKExactMutualLinksC3
set_option linter.unusedVariables false
set_option linter.unusedSimpArgs false
set_option maxRecDepth 20000
namespace Go.Vs
open Go Go.Proofs
attribute [local irreducible] Code.wp Code.wpIn wpList wpListIn wpQuiet Calls CallsIn

theorem c_laws_FnExactMutualLinks {aList_0 : List (Int × (List Int) × Int)} {aKind_1 : Int} {aMany_2 : Int} {aaList_0 : Option Addr} {caList_0 : Nat} {r : Bool} (h : M.laws_FnExactMutualLinks aList_0 aKind_1 aMany_2 = some r) :
    Cal2 Try.prog 11 [(Sl aaList_0 aList_0 caList_0), (I aKind_1), (I aMany_2)] [Ch.ro 0 (Sl aaList_0 aList_0 caList_0) aList_0] (fun n0 v L => v = (B r) ∧ L = []) := by
 refine cal2 (n := 79) Try.func11 rfl rfl rfl rfl ?_
 intro S0 σ0 n0 hn0 H
 unfold M.laws_FnExactMutualLinks at h
 refine c_seq ?_
 refine rg ?_
 refine st (v := (B false)) (rv_assign rfl) ?_
 refine w_end ?_
 refine q_then ?_
 refine c_seq ?_
 refine rg ?_
 refine st (v := (I 1048576)) (rv_assign rfl) ?_
 refine w_end ?_
 refine q_then ?_
 refine c_seq ?_
 refine rg ?_
 refine st (v := (Sl aaList_0 aList_0 caList_0)) (rv_move rfl) ?_
 refine st (v := (I 1048576)) (rv_move rfl) ?_
 obtain ⟨r1, hx2, h'⟩ := bind_some h
 clear h
 have h := h'; clear h'
 have hc3 := c_laws_szItemS (aa_0 := aaList_0) (ca_0 := caList_0) hx2
 refine st_call (cx_call hc3 (ent_f hc3.fn rfl) hn0 (show Hp S0 σ0 _ ([Ch.ro 0 (Sl aaList_0 aList_0 caList_0) aList_0] ++ [Ch.ro 0 (Sl aaList_0 aList_0 caList_0) aList_0]) from (H.sel' [0, 0] rfl rfl))) wn ?_
 rintro _ σ4 ⟨_, ⟨rfl, rfl⟩, H, -⟩
 replace H : Hp S0 σ0 σ4 [Ch.ro 0 (Sl aaList_0 aList_0 caList_0) aList_0] := H
 refine st (v := (I r1)) (rv_assign rfl) ?_
 refine w_end ?_
 refine q_then ?_
 refine c_seq ?_
 refine c_seq ?_
 refine rg ?_
 refine st (v := (I r1)) (rv_move rfl) ?_
 refine st (v := (B (decide (r1 < 0)))) (rv_lss (a := r1) (b := 0) rfl rfl) ?_
 refine w_end ?_
 refine q_then ?_
 refine cd_cond (decide (r1 < 0)) rfl (fun hb5 => ?_) (fun hb5 => ?_)
 ·replace h := bif_t hb5 h
  refine c_seq ?_
  refine rg ?_
  refine st (v := (B true)) (rv_assign rfl) ?_
  refine w_end ?_
  refine q_then ?_
  refine c_ret ?_
  refine q_then_r ?_
  obtain rfl := Option.some.inj h
  exact fin_ret (v := (B true)) (results_ok Try.results11 (res_tmp (v := (B true)) rfl res_nil) rfl) ⟨rfl, rfl⟩ (H.sel' [] rfl rfl)
 ·replace h := bif_f hb5 h
  refine c_skip ?_
  refine q_then ?_
  refine c_seq ?_
  refine rg ?_
  refine st (v := (Sl aaList_0 aList_0 caList_0)) (rv_move rfl) ?_
  obtain ⟨r6, hx7, h'⟩ := bind_some h
  clear h
  have h := h'; clear h'
  have hc8 := c_laws_toItemS (aa_0 := aaList_0) (ca_0 := caList_0) hx7
  refine st_call (cx_call hc8 (ent_f hc8.fn rfl) hn0 (show Hp S0 σ0 _ ([Ch.ro 0 (Sl aaList_0 aList_0 caList_0) aList_0] ++ [Ch.ro 0 (Sl aaList_0 aList_0 caList_0) aList_0]) from (H.sel' [0, 0] rfl rfl))) wn ?_
  rintro _ σ13 ⟨_, ⟨a9, c10, K11, rfl, rfl, hK12⟩, H, -⟩
  replace H : Hp S0 σ0 σ13 [Ch.big K11, Ch.ro 0 (Sl aaList_0 aList_0 caList_0) aList_0] := H
  refine st (v := (I aKind_1)) (rv_move rfl) ?_
  refine st (v := (I aMany_2)) (rv_move rfl) ?_
  obtain ⟨r14, hx15, h'⟩ := bind_some h
  clear h
  have h := h'; clear h'
  have hc16 := c_spec_MutualLinks (alist_0 := a9) (clist_0 := c10) hx15
  have hle := Nat.le_trans hn0 H.size
  refine st_call (cx_lend (Loan.lendB hK12.lends Loan.nil) hc16 (ent_f hc16.fn rfl) (show Hp S0 σ0 _ ([Ch.big K11] ++ ([] ++ [Ch.ro 0 (Sl aaList_0 aList_0 caList_0) aList_0])) from (H.sel' [0, 1] rfl rfl)) (by rintro _ _ _ ⟨_, _, rfl, rfl⟩; exact ⟨Ab.own (Nat.le_refl _), trivial⟩)) wn ?_
  rintro _ σ19 ⟨_, ⟨a17, c18, rfl, rfl⟩, H, -, -⟩
  replace H : Hp S0 σ0 σ19 [Ch.own σ13.size σ13.size (Sl a17 r14 c18) r14, Ch.big K11, Ch.ro 0 (Sl aaList_0 aList_0 caList_0) aList_0] := H
  replace H := H.ownLow 0 n0 n0 rfl hle hle
  clear hle
  replace H : Hp S0 σ0 σ19 [Ch.own n0 n0 (Sl a17 r14 c18) r14, Ch.big K11, Ch.ro 0 (Sl aaList_0 aList_0 caList_0) aList_0] := H
  refine st (v := (Sl a17 r14 c18)) (rv_assign rfl) ?_
  refine w_end ?_
  refine q_then ?_
  refine c_seq ?_
  refine rg ?_
  refine st (v := (Sl aaList_0 aList_0 caList_0)) (rv_move rfl) ?_
  obtain ⟨r20, hx21, h'⟩ := bind_some h
  clear h
  have h := h'; clear h'
  have hc22 := c_laws_toItemS (aa_0 := aaList_0) (ca_0 := caList_0) hx21
  refine st_call (cx_call hc22 (ent_f hc22.fn rfl) hn0 (show Hp S0 σ0 _ ([Ch.ro 0 (Sl aaList_0 aList_0 caList_0) aList_0] ++ [Ch.own n0 n0 (Sl a17 r14 c18) r14, Ch.big K11, Ch.ro 0 (Sl aaList_0 aList_0 caList_0) aList_0]) from (H.sel' [2, 0, 1, 2] rfl rfl))) wn ?_
  rintro _ σ27 ⟨_, ⟨a23, c24, K25, rfl, rfl, hK26⟩, H, -⟩
  replace H : Hp S0 σ0 σ27 [Ch.big K25, Ch.own n0 n0 (Sl a17 r14 c18) r14, Ch.big K11, Ch.ro 0 (Sl aaList_0 aList_0 caList_0) aList_0] := H
  refine st (v := (Sl a23 r20 c24)) (rv_assign rfl) ?_
  refine w_end ?_
  refine q_then ?_
  refine c_seq ?_
  refine rg ?_
  refine st (v := (Sl a23 r20 c24)) (rv_move rfl) ?_
  refine st (v := (I aKind_1)) (rv_move rfl) ?_
  refine st (v := (I aMany_2)) (rv_move rfl) ?_
  obtain ⟨r28, hx29, h'⟩ := bind_some h
  clear h
  have h := h'; clear h'
  have hc30 := c_impl_MutualLinks (alist_0 := a23) (clist_0 := c24) hx29
  have hle := Nat.le_trans hn0 H.size
  refine st_call (cx_lend (Loan.lendB hK26.lends Loan.nil) hc30 (ent_f hc30.fn rfl) (show Hp S0 σ0 _ ([Ch.big K25] ++ ([] ++ [Ch.own n0 n0 (Sl a17 r14 c18) r14, Ch.big K11, Ch.ro 0 (Sl aaList_0 aList_0 caList_0) aList_0])) from (H.sel' [0, 1, 2, 3] rfl rfl)) (by rintro _ _ _ ⟨_, _, _, rfl, rfl, hK34⟩; exact ⟨Dp.abSc hK34, trivial⟩)) wn ?_
  rintro _ σ35 ⟨_, ⟨a31, c32, K33, rfl, rfl, hK34⟩, H, -, -⟩
  replace H : Hp S0 σ0 σ35 [Ch.big K33, Ch.big K25, Ch.own n0 n0 (Sl a17 r14 c18) r14, Ch.big K11, Ch.ro 0 (Sl aaList_0 aList_0 caList_0) aList_0] := H
  clear hle
  replace H : Hp S0 σ0 σ35 [Ch.big K33, Ch.big K25, Ch.own n0 n0 (Sl a17 r14 c18) r14, Ch.big K11, Ch.ro 0 (Sl aaList_0 aList_0 caList_0) aList_0] := H
  refine st (v := (Sl a31 r28 c32)) (rv_assign rfl) ?_
  refine w_end ?_
  refine q_then ?_
  refine c_seq ?_
  refine c_seq ?_
  refine rg ?_
  refine st (v := (Sl a31 r28 c32)) (rv_move rfl) ?_
  refine st (v := (Sl a17 r14 c18)) (rv_move rfl) ?_
  obtain ⟨r36, hx37, h'⟩ := bind_some h
  clear h
  have h := h'; clear h'
  have hc38 := c_laws_eqIntSS (aa_0 := a31) (ca_0 := c32) (ab_1 := a17) (cb_1 := c18) hx37
  have hle := Nat.le_trans hn0 H.size
  refine st_call (cx_lend (Loan.lendB hK34.lends (Loan.lend Loan.nil)) hc38 (ent_f hc38.fn rfl) (show Hp S0 σ0 _ ([Ch.big K33, Ch.own n0 n0 (Sl a17 r14 c18) r14] ++ ([] ++ [Ch.big K25, Ch.big K11, Ch.ro 0 (Sl aaList_0 aList_0 caList_0) aList_0])) from (H.sel' [0, 2, 1, 3, 4] rfl rfl)) (by rintro _ _ _ ⟨rfl, rfl⟩; exact trivial)) wn ?_
  rintro _ σ39 ⟨_, ⟨rfl, rfl⟩, H, -, -⟩
  replace H : Hp S0 σ0 σ39 [Ch.big K33, Ch.own n0 n0 (Sl a17 r14 c18) r14, Ch.big K25, Ch.big K11, Ch.ro 0 (Sl aaList_0 aList_0 caList_0) aList_0] := H
  clear hle
  replace H : Hp S0 σ0 σ39 [Ch.big K33, Ch.own n0 n0 (Sl a17 r14 c18) r14, Ch.big K25, Ch.big K11, Ch.ro 0 (Sl aaList_0 aList_0 caList_0) aList_0] := H
  refine st (v := (B (!r36))) (rv_not rfl) ?_
  refine w_end ?_
  refine q_then ?_
  refine cd_cond (!r36) rfl (fun hb40 => ?_) (fun hb40 => ?_)
  ·replace h := bif_t hb40 h
   refine c_seq ?_
   refine rg ?_
   refine st (v := (B false)) (rv_assign rfl) ?_
   refine w_end ?_
   refine q_then ?_
   refine c_ret ?_
   refine q_then_r ?_
   obtain rfl := Option.some.inj h
   exact fin_ret (v := (B false)) (results_ok Try.results11 (res_tmp (v := (B false)) rfl res_nil) rfl) ⟨rfl, rfl⟩ (H.sel' [] rfl rfl)
  ·replace h := bif_f hb40 h
   refine c_skip ?_
   refine q_then ?_
   refine c_seq ?_
   refine c_seq ?_
   refine rg ?_
   refine st (v := (Sl a23 r20 c24)) (rv_move rfl) ?_
   refine st (v := (Sl aaList_0 aList_0 caList_0)) (rv_move rfl) ?_
   obtain ⟨r41, hx42, h'⟩ := bind_some h
   clear h
   have h := h'; clear h'
   have hc43 := c_laws_toItemS (aa_0 := aaList_0) (ca_0 := caList_0) hx42
   refine st_call (cx_call hc43 (ent_f hc43.fn rfl) hn0 (show Hp S0 σ0 _ ([Ch.ro 0 (Sl aaList_0 aList_0 caList_0) aList_0] ++ [Ch.big K33, Ch.own n0 n0 (Sl a17 r14 c18) r14, Ch.big K25, Ch.big K11, Ch.ro 0 (Sl aaList_0 aList_0 caList_0) aList_0]) from (H.sel' [4, 0, 1, 2, 3, 4] rfl rfl))) wn ?_
   rintro _ σ48 ⟨_, ⟨a44, c45, K46, rfl, rfl, hK47⟩, H, -⟩
   replace H : Hp S0 σ0 σ48 [Ch.big K46, Ch.big K33, Ch.own n0 n0 (Sl a17 r14 c18) r14, Ch.big K25, Ch.big K11, Ch.ro 0 (Sl aaList_0 aList_0 caList_0) aList_0] := H
   obtain ⟨r49, hx50, h'⟩ := bind_some h
   clear h
   have h := h'; clear h'
   have hc51 := c_laws_eqItemS (aa_0 := a23) (ca_0 := c24) (ab_1 := a44) (cb_1 := c45) hx50
   have hle := Nat.le_trans hn0 H.size
   refine st_call (cx_lend (Loan.lendB hK26.lends (Loan.lendB hK47.lends Loan.nil)) hc51 (ent_f hc51.fn rfl) (show Hp S0 σ0 _ ([Ch.big K25, Ch.big K46] ++ ([] ++ [Ch.big K33, Ch.own n0 n0 (Sl a17 r14 c18) r14, Ch.big K11, Ch.ro 0 (Sl aaList_0 aList_0 caList_0) aList_0])) from (H.sel' [3, 0, 1, 2, 4, 5] rfl rfl)) (by rintro _ _ _ ⟨rfl, rfl⟩; exact trivial)) wn ?_
   rintro _ σ52 ⟨_, ⟨rfl, rfl⟩, H, -, -⟩
   replace H : Hp S0 σ0 σ52 [Ch.big K25, Ch.big K46, Ch.big K33, Ch.own n0 n0 (Sl a17 r14 c18) r14, Ch.big K11, Ch.ro 0 (Sl aaList_0 aList_0 caList_0) aList_0] := H
   clear hle
   replace H : Hp S0 σ0 σ52 [Ch.big K25, Ch.big K46, Ch.big K33, Ch.own n0 n0 (Sl a17 r14 c18) r14, Ch.big K11, Ch.ro 0 (Sl aaList_0 aList_0 caList_0) aList_0] := H
   refine st (v := (B (!r49))) (rv_not rfl) ?_
   refine w_end ?_
   refine q_then ?_
   refine cd_cond (!r49) rfl (fun hb53 => ?_) (fun hb53 => ?_)
   ·replace h := bif_t hb53 h
    refine c_seq ?_
    refine rg ?_
    refine st (v := (B false)) (rv_assign rfl) ?_
    refine w_end ?_
    refine q_then ?_
    refine c_ret ?_
    refine q_then_r ?_
    obtain rfl := Option.some.inj h
    exact fin_ret (v := (B false)) (results_ok Try.results11 (res_tmp (v := (B false)) rfl res_nil) rfl) ⟨rfl, rfl⟩ (H.sel' [] rfl rfl)
   ·replace h := bif_f hb53 h
    refine c_skip ?_
    refine q_then ?_
    refine c_seq ?_
    refine rg ?_
    refine st (v := (I 1)) (rv_assign rfl) ?_
    refine w_end ?_
    refine q_then ?_
    refine c_seq ?_
    refine rg ?_
    refine st (v := (Sl a23 r20 c24)) (rv_move rfl) ?_
    refine st (v := (I 1)) (rv_move rfl) ?_
    obtain ⟨r54, hx55, h'⟩ := bind_some h
    clear h
    have h := h'; clear h'
    have hc56 := c_laws_markItemS (aa_0 := a23) (ca_0 := c24) (hK := hK26) hx55
    refine st_call (cx_call hc56 (ent_f hc56.fn rfl) hn0 (show Hp S0 σ0 _ ([Ch.big K25] ++ [Ch.big K46, Ch.big K33, Ch.own n0 n0 (Sl a17 r14 c18) r14, Ch.big K11, Ch.ro 0 (Sl aaList_0 aList_0 caList_0) aList_0]) from (H.sel' [0, 1, 2, 3, 4, 5] rfl rfl))) wn ?_
    rintro _ σ57 ⟨_, ⟨rfl, rfl⟩, H, -⟩
    replace H : Hp S0 σ0 σ57 [Ch.big K46, Ch.big K33, Ch.own n0 n0 (Sl a17 r14 c18) r14, Ch.big K11, Ch.ro 0 (Sl aaList_0 aList_0 caList_0) aList_0] := H
    refine st (v := (I r54)) (rv_assign rfl) ?_
    refine w_end ?_
    refine q_then ?_
    refine c_seq ?_
    refine c_seq ?_
    obtain ⟨o58, hj, h'⟩ := bind_some h
    clear h
    refine c_cut (fun e a w => e = .normal ∧ ∃ (ρ : Nat → Value) (σ : St), a = fr 79 (updL ρ [(0, (Sl aaList_0 aList_0 caList_0)), (1, (I aKind_1)), (2, (I aMany_2)), (8, (Sl a17 r14 c18)), (10, (Sl a31 r28 c32)), (50, (B o58))]) ∧ w = σ.w ∧ Hp S0 σ0 σ [Ch.ro 0 (Sl aaList_0 aList_0 caList_0) aList_0, Ch.own n0 n0 (Sl a17 r14 c18) r14, Ch.big K33]) ?_ ?_
    ·clear h'
     rename _ = some o58 => h
     refine rg ?_
     refine st (v := (I r54)) (rv_move rfl) ?_
     refine st (v := (B (decide (r54 < 0)))) (rv_lss (a := r54) (b := 0) rfl rfl) ?_
     refine st (v := (B (decide (r54 < 0)))) (rv_move rfl) ?_
     rcases Bool.eq_false_or_eq_true (decide (r54 < 0)) with hb59 | hb59
     ·replace h := bif_t hb59 h
      refine st_skip (congrArg some hb59) ?_
      refine st_skip (congrArg some hb59) ?_
      refine st_skip (congrArg some hb59) ?_
      refine st_skip (congrArg some hb59) ?_
      refine st (v := (B true)) (rv_pick_t (congrArg B hb59) rfl) ?_
      refine w_end ?_
      obtain rfl := Option.some.inj h
      exact ⟨rfl, _, σ57, fr_join ⟨rfl, rfl, rfl, rfl, rfl, rfl, trivial⟩, rfl, H.sel' [4, 2, 1] rfl rfl⟩
     ·replace h := bif_f hb59 h
      refine st_g (v := (Sl a31 r28 c32)) (congrArg some hb59) (rv_move rfl) ?_
      refine st_g (v := (Sl a17 r14 c18)) (congrArg some hb59) (rv_move rfl) ?_
      obtain ⟨r60, hx61, h'⟩ := bind_some h
      clear h
      have h := h'; clear h'
      have hc62 := c_laws_eqIntSS (aa_0 := a31) (ca_0 := c32) (ab_1 := a17) (cb_1 := c18) hx61
      have hle := Nat.le_trans hn0 H.size
      refine st_call (cx_lend (Loan.lendB hK34.lends (Loan.lend Loan.nil)) hc62 (ent_f hc62.fn rfl) (show Hp S0 σ0 _ ([Ch.big K33, Ch.own n0 n0 (Sl a17 r14 c18) r14] ++ ([] ++ [Ch.big K46, Ch.big K11, Ch.ro 0 (Sl aaList_0 aList_0 caList_0) aList_0])) from (H.sel' [1, 2, 0, 3, 4] rfl rfl)) (by rintro _ _ _ ⟨rfl, rfl⟩; exact trivial)) (wanted_yes rfl (by exact (congrArg some hb59))) ?_
      rintro _ σ63 ⟨_, ⟨rfl, rfl⟩, H, -, -⟩
      replace H : Hp S0 σ0 σ63 [Ch.big K33, Ch.own n0 n0 (Sl a17 r14 c18) r14, Ch.big K46, Ch.big K11, Ch.ro 0 (Sl aaList_0 aList_0 caList_0) aList_0] := H
      clear hle
      replace H : Hp S0 σ0 σ63 [Ch.big K33, Ch.own n0 n0 (Sl a17 r14 c18) r14, Ch.big K46, Ch.big K11, Ch.ro 0 (Sl aaList_0 aList_0 caList_0) aList_0] := H
      refine st_g (v := (B (!r60))) (congrArg some hb59) (rv_not rfl) ?_
      refine st (v := (B (!r60))) (rv_pick_f (congrArg B hb59) rfl) ?_
      refine w_end ?_
      obtain rfl := Option.some.inj h
      exact ⟨rfl, _, σ63, fr_join ⟨rfl, rfl, rfl, rfl, rfl, rfl, trivial⟩, rfl, H.sel' [4, 1, 0] rfl rfl⟩
    ·clear hj
     have h := h'
     clear h' H
     rintro e a w ⟨rfl, ρ, σ64, rfl, rfl, H⟩
     refine q_then ?_
     refine cd_cond o58 rfl (fun hb65 => ?_) (fun hb65 => ?_)
     ·replace h := bif_t hb65 h
      refine c_seq ?_
      refine rg ?_
      refine st (v := (B false)) (rv_assign rfl) ?_
      refine w_end ?_
      refine q_then ?_
      refine c_ret ?_
      refine q_then_r ?_
      obtain rfl := Option.some.inj h
      exact fin_ret (v := (B false)) (results_ok Try.results11 (res_tmp (v := (B false)) rfl res_nil) rfl) ⟨rfl, rfl⟩ (H.sel' [] rfl rfl)
     ·replace h := bif_f hb65 h
      refine c_skip ?_
      refine q_then ?_
      refine c_seq ?_
      refine rg ?_
      refine st (v := (I 1)) (rv_assign rfl) ?_
      refine w_end ?_
      refine q_then ?_
      refine c_seq ?_
      refine rg ?_
      refine st (v := (Sl a31 r28 c32)) (rv_move rfl) ?_
      refine st (v := (I 1)) (rv_move rfl) ?_
      obtain ⟨r66, hx67, h'⟩ := bind_some h
      clear h
      have h := h'; clear h'
      have hc68 := c_laws_markIntSS (aa_0 := a31) (ca_0 := c32) (hK := hK34) hx67
      refine st_call (cx_call hc68 (ent_f hc68.fn rfl) hn0 (show Hp S0 σ0 _ ([Ch.big K33] ++ [Ch.ro 0 (Sl aaList_0 aList_0 caList_0) aList_0, Ch.own n0 n0 (Sl a17 r14 c18) r14]) from (H.sel' [2, 0, 1] rfl rfl))) wn ?_
      rintro _ σ70 ⟨_, ⟨rfl, rfl, hn69⟩, H, -⟩
      replace H : Hp S0 σ0 σ70 [Ch.ro 0 (Sl a31 r66.2 c32) r66.2, Ch.ro 0 (Sl aaList_0 aList_0 caList_0) aList_0, Ch.own n0 n0 (Sl a17 r14 c18) r14] := H
      have hsl : (Sl a31 r28 c32) = (Sl a31 r66.2 c32) := sl_len hn69.symm
      try rw [hsl]
      try rw [hsl] at H
      clear hsl
      refine st (v := (I r66.1)) (rv_assign rfl) ?_
      refine w_end ?_
      refine q_then ?_
      refine c_seq ?_
      refine rg ?_
      refine st (v := (I 1)) (rv_assign rfl) ?_
      refine w_end ?_
      refine q_then ?_
      refine c_seq ?_
      refine rg ?_
      refine st (v := (Sl a31 r66.2 c32)) (rv_move rfl) ?_
      refine st (v := (I 1)) (rv_move rfl) ?_
      obtain ⟨r71, hx72, h'⟩ := bind_some h
      clear h
      have h := h'; clear h'
      have hc73 := c_laws_heldIntSS (aa_0 := a31) (ca_0 := c32) hx72
      refine st_call (cx_call hc73 (ent_f hc73.fn rfl) hn0 (show Hp S0 σ0 _ ([Ch.ro 0 (Sl a31 r66.2 c32) r66.2] ++ [Ch.ro 0 (Sl a31 r66.2 c32) r66.2, Ch.ro 0 (Sl aaList_0 aList_0 caList_0) aList_0, Ch.own n0 n0 (Sl a17 r14 c18) r14]) from (H.sel' [0, 0, 1, 2] rfl rfl))) wn ?_
      rintro _ σ74 ⟨_, ⟨rfl, rfl⟩, H, -⟩
      replace H : Hp S0 σ0 σ74 [Ch.ro 0 (Sl a31 r66.2 c32) r66.2, Ch.ro 0 (Sl aaList_0 aList_0 caList_0) aList_0, Ch.own n0 n0 (Sl a17 r14 c18) r14] := H
      refine st (v := (I r71)) (rv_assign rfl) ?_
      refine w_end ?_
      refine q_then ?_
      refine c_seq ?_
      refine c_seq ?_
      refine rg ?_
      refine st (v := (I r71)) (rv_move rfl) ?_
      refine st (v := (B (decide (r71 < 0)))) (rv_lss (a := r71) (b := 0) rfl rfl) ?_
      refine w_end ?_
      refine q_then ?_
      refine cd_cond (decide (r71 < 0)) rfl (fun hb75 => ?_) (fun hb75 => ?_)
      ·replace h := bif_t hb75 h
       refine c_seq ?_
       refine rg ?_
       refine st (v := (B false)) (rv_assign rfl) ?_
       refine w_end ?_
       refine q_then ?_
       refine c_ret ?_
       refine q_then_r ?_
       obtain rfl := Option.some.inj h
       exact fin_ret (v := (B false)) (results_ok Try.results11 (res_tmp (v := (B false)) rfl res_nil) rfl) ⟨rfl, rfl⟩ (H.sel' [] rfl rfl)
      ·replace h := bif_f hb75 h
       refine c_skip ?_
       refine q_then ?_
       refine c_seq ?_
       refine c_seq ?_
       refine rg ?_
       refine st (v := (I r71)) (rv_move rfl) ?_
       refine st (v := (I r66.1)) (rv_move rfl) ?_
       refine st (v := (B (r71 != r66.1))) (rv_neq (a := r71) (b := r66.1) rfl rfl) ?_
       refine w_end ?_
       refine q_then ?_
       refine cd_cond (r71 != r66.1) rfl (fun hb76 => ?_) (fun hb76 => ?_)
       ·replace h := bif_t hb76 h
        refine c_seq ?_
        refine rg ?_
        refine st (v := (B false)) (rv_assign rfl) ?_
        refine w_end ?_
        refine q_then ?_
        refine c_ret ?_
        refine q_then_r ?_
        obtain rfl := Option.some.inj h
        exact fin_ret (v := (B false)) (results_ok Try.results11 (res_tmp (v := (B false)) rfl res_nil) rfl) ⟨rfl, rfl⟩ (H.sel' [] rfl rfl)
       ·replace h := bif_f hb76 h
        refine c_skip ?_
        refine q_then ?_
        refine c_seq ?_
        refine rg ?_
        refine st (v := (Sl aaList_0 aList_0 caList_0)) (rv_move rfl) ?_
        obtain ⟨r77, hx78, h'⟩ := bind_some h
        clear h
        have h := h'; clear h'
        have hc79 := c_laws_toItemS (aa_0 := aaList_0) (ca_0 := caList_0) hx78
        refine st_call (cx_call hc79 (ent_f hc79.fn rfl) hn0 (show Hp S0 σ0 _ ([Ch.ro 0 (Sl aaList_0 aList_0 caList_0) aList_0] ++ [Ch.ro 0 (Sl a31 r66.2 c32) r66.2, Ch.ro 0 (Sl aaList_0 aList_0 caList_0) aList_0, Ch.own n0 n0 (Sl a17 r14 c18) r14]) from (H.sel' [1, 0, 1, 2] rfl rfl))) wn ?_
        rintro _ σ84 ⟨_, ⟨a80, c81, K82, rfl, rfl, hK83⟩, H, -⟩
        replace H : Hp S0 σ0 σ84 [Ch.big K82, Ch.ro 0 (Sl a31 r66.2 c32) r66.2, Ch.ro 0 (Sl aaList_0 aList_0 caList_0) aList_0, Ch.own n0 n0 (Sl a17 r14 c18) r14] := H
        refine st (v := (I aKind_1)) (rv_move rfl) ?_
        refine st (v := (I aMany_2)) (rv_move rfl) ?_
        obtain ⟨r85, hx86, h'⟩ := bind_some h
        clear h
        have h := h'; clear h'
        have hc87 := c_impl_MutualLinks (alist_0 := a80) (clist_0 := c81) hx86
        have hle := Nat.le_trans hn0 H.size
        refine st_call (cx_lend (Loan.lendB hK83.lends Loan.nil) hc87 (ent_f hc87.fn rfl) (show Hp S0 σ0 _ ([Ch.big K82] ++ ([] ++ [Ch.ro 0 (Sl a31 r66.2 c32) r66.2, Ch.ro 0 (Sl aaList_0 aList_0 caList_0) aList_0, Ch.own n0 n0 (Sl a17 r14 c18) r14])) from (H.sel' [0, 1, 2, 3] rfl rfl)) (by rintro _ _ _ ⟨_, _, _, rfl, rfl, hK91⟩; exact ⟨Dp.abSc hK91, trivial⟩)) wn ?_
        rintro _ σ92 ⟨_, ⟨a88, c89, K90, rfl, rfl, hK91⟩, H, -, -⟩
        replace H : Hp S0 σ0 σ92 [Ch.big K90, Ch.big K82, Ch.ro 0 (Sl a31 r66.2 c32) r66.2, Ch.ro 0 (Sl aaList_0 aList_0 caList_0) aList_0, Ch.own n0 n0 (Sl a17 r14 c18) r14] := H
        clear hle
        replace H : Hp S0 σ0 σ92 [Ch.big K90, Ch.big K82, Ch.ro 0 (Sl a31 r66.2 c32) r66.2, Ch.ro 0 (Sl aaList_0 aList_0 caList_0) aList_0, Ch.own n0 n0 (Sl a17 r14 c18) r14] := H
        refine st (v := (Sl a88 r85 c89)) (rv_assign rfl) ?_
        refine w_end ?_
        refine q_then ?_
        refine c_seq ?_
        refine c_seq ?_
        refine rg ?_
        refine st (v := (Sl a88 r85 c89)) (rv_move rfl) ?_
        refine st (v := (Sl a17 r14 c18)) (rv_move rfl) ?_
        obtain ⟨σ93, hw94, H, -⟩ := H.pub 4 rfl (Nat.le_refl _)
        rw [← hw94]; clear hw94
        replace H := H.roLow 0 0 rfl (Nat.zero_le _)
        obtain ⟨r95, hx96, h'⟩ := bind_some h
        clear h
        have h := h'; clear h'
        have hc97 := c_laws_eqIntSS (aa_0 := a88) (ca_0 := c89) (ab_1 := a17) (cb_1 := c18) hx96
        have hle := Nat.le_trans hn0 H.size
        refine st_call (cx_lend (Loan.lendB hK91.lends (Loan.same Loan.nil)) hc97 (ent_f hc97.fn rfl) (show Hp S0 σ0 _ ([Ch.big K90] ++ ([Ch.ro 0 (Sl a17 r14 c18) r14] ++ [Ch.ro 0 (Sl a17 r14 c18) r14, Ch.ro n0 (Sl a17 r14 c18) r14, Ch.big K82, Ch.ro 0 (Sl a31 r66.2 c32) r66.2, Ch.ro 0 (Sl aaList_0 aList_0 caList_0) aList_0])) from (H.sel' [2, 0, 0, 1, 3, 4, 5] rfl rfl)) (by rintro _ _ _ ⟨rfl, rfl⟩; exact trivial)) wn ?_
        rintro _ σ98 ⟨_, ⟨rfl, rfl⟩, H, -, -⟩
        replace H : Hp S0 σ0 σ98 [Ch.big K90, Ch.ro 0 (Sl a17 r14 c18) r14, Ch.ro n0 (Sl a17 r14 c18) r14, Ch.big K82, Ch.ro 0 (Sl a31 r66.2 c32) r66.2, Ch.ro 0 (Sl aaList_0 aList_0 caList_0) aList_0] := H
        clear hle
        replace H : Hp S0 σ0 σ98 [Ch.big K90, Ch.ro 0 (Sl a17 r14 c18) r14, Ch.ro n0 (Sl a17 r14 c18) r14, Ch.big K82, Ch.ro 0 (Sl a31 r66.2 c32) r66.2, Ch.ro 0 (Sl aaList_0 aList_0 caList_0) aList_0] := H
        refine st (v := (B (!r95))) (rv_not rfl) ?_
        refine w_end ?_
        refine q_then ?_
        refine cd_cond (!r95) rfl (fun hb99 => ?_) (fun hb99 => ?_)
        ·replace h := bif_t hb99 h
         refine c_seq ?_
         refine rg ?_
         refine st (v := (B false)) (rv_assign rfl) ?_
         refine w_end ?_
         refine q_then ?_
         refine c_ret ?_
         refine q_then_r ?_
         obtain rfl := Option.some.inj h
         exact fin_ret (v := (B false)) (results_ok Try.results11 (res_tmp (v := (B false)) rfl res_nil) rfl) ⟨rfl, rfl⟩ (H.sel' [] rfl rfl)
        ·replace h := bif_f hb99 h
         refine c_skip ?_
         refine q_then ?_
         refine c_seq ?_
         refine rg ?_
         refine st (v := (I 1)) (rv_assign rfl) ?_
         refine w_end ?_
         refine q_then ?_
         refine c_seq ?_
         refine rg ?_
         refine st (v := (Sl a31 r66.2 c32)) (rv_move rfl) ?_
         refine st (v := (I 1)) (rv_move rfl) ?_
         obtain ⟨r100, hx101, h'⟩ := bind_some h
         clear h
         have h := h'; clear h'
         have hc102 := c_laws_heldIntSS (aa_0 := a31) (ca_0 := c32) hx101
         refine st_call (cx_call hc102 (ent_f hc102.fn rfl) hn0 (show Hp S0 σ0 _ ([Ch.ro 0 (Sl a31 r66.2 c32) r66.2] ++ [Ch.big K90, Ch.ro 0 (Sl a17 r14 c18) r14, Ch.ro n0 (Sl a17 r14 c18) r14, Ch.big K82, Ch.ro 0 (Sl a31 r66.2 c32) r66.2, Ch.ro 0 (Sl aaList_0 aList_0 caList_0) aList_0]) from (H.sel' [4, 0, 1, 2, 3, 4, 5] rfl rfl))) wn ?_
         rintro _ σ103 ⟨_, ⟨rfl, rfl⟩, H, -⟩
         replace H : Hp S0 σ0 σ103 [Ch.big K90, Ch.ro 0 (Sl a17 r14 c18) r14, Ch.ro n0 (Sl a17 r14 c18) r14, Ch.big K82, Ch.ro 0 (Sl a31 r66.2 c32) r66.2, Ch.ro 0 (Sl aaList_0 aList_0 caList_0) aList_0] := H
         refine st (v := (I r100)) (rv_assign rfl) ?_
         refine w_end ?_
         refine q_then ?_
         refine c_seq ?_
         refine c_seq ?_
         refine rg ?_
         refine st (v := (I r100)) (rv_move rfl) ?_
         refine st (v := (B (decide (r100 < 0)))) (rv_lss (a := r100) (b := 0) rfl rfl) ?_
         refine w_end ?_
         refine q_then ?_
         refine cd_cond (decide (r100 < 0)) rfl (fun hb104 => ?_) (fun hb104 => ?_)
         ·replace h := bif_t hb104 h
          refine c_seq ?_
          refine rg ?_
          refine st (v := (B false)) (rv_assign rfl) ?_
          refine w_end ?_
          refine q_then ?_
          refine c_ret ?_
          refine q_then_r ?_
          obtain rfl := Option.some.inj h
          exact fin_ret (v := (B false)) (results_ok Try.results11 (res_tmp (v := (B false)) rfl res_nil) rfl) ⟨rfl, rfl⟩ (H.sel' [] rfl rfl)
         ·replace h := bif_f hb104 h
          refine c_skip ?_
          refine q_then ?_
          refine c_seq ?_
          refine c_seq ?_
          refine rg ?_
          refine st (v := (I r100)) (rv_move rfl) ?_
          refine st (v := (I r66.1)) (rv_move rfl) ?_
          refine st (v := (B (r100 != r66.1))) (rv_neq (a := r100) (b := r66.1) rfl rfl) ?_
          refine w_end ?_
          refine q_then ?_
          refine cd_cond (r100 != r66.1) rfl (fun hb105 => ?_) (fun hb105 => ?_)
          ·replace h := bif_t hb105 h
           refine c_seq ?_
           refine rg ?_
           refine st (v := (B false)) (rv_assign rfl) ?_
           refine w_end ?_
           refine q_then ?_
           refine c_ret ?_
           refine q_then_r ?_
           obtain rfl := Option.some.inj h
           exact fin_ret (v := (B false)) (results_ok Try.results11 (res_tmp (v := (B false)) rfl res_nil) rfl) ⟨rfl, rfl⟩ (H.sel' [] rfl rfl)
          ·replace h := bif_f hb105 h
           refine c_skip ?_
           refine q_then ?_
           refine c_seq ?_
           refine rg ?_
           refine st (v := (B true)) (rv_assign rfl) ?_
           refine w_end ?_
           refine q_then ?_
           refine c_ret ?_
           obtain rfl := Option.some.inj h
           exact fin_ret (v := (B true)) (results_ok Try.results11 (res_tmp (v := (B true)) rfl res_nil) rfl) ⟨rfl, rfl⟩ (H.sel' [] rfl rfl)

end Go.Vs
