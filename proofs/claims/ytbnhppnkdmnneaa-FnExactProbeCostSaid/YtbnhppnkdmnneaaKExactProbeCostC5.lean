/- The functions compute what their models say. -/
import Derived.Test.YtbnhppnkdmnneaaKExactProbeCostC4
set_option linter.unusedVariables false
set_option linter.unusedSimpArgs false
set_option maxRecDepth 20000
namespace Go.Vs
open Go Go.Proofs
attribute [local irreducible] Code.wp Code.wpIn wpList wpListIn wpQuiet Calls CallsIn

theorem c_laws_FnExactProbeCost {aCentres_0 : List (List Int)} {aList_1 : List (Int × (List Int) × Int)} {aAt_2 : List Int} {aMany_3 : Int} {aaCentres_0 : Option Addr} {caCentres_0 : Nat} {aaList_1 : Option Addr} {caList_1 : Nat} {aaAt_2 : Option Addr} {caAt_2 : Nat} {r : Bool} (h : M.laws_FnExactProbeCost aCentres_0 aList_1 aAt_2 aMany_3 = some r) :
    Cal2 Try.prog 12 [(Sl aaCentres_0 aCentres_0 caCentres_0), (Sl aaList_1 aList_1 caList_1), (Sl aaAt_2 aAt_2 caAt_2), (I aMany_3)] [Ch.ro 0 (Sl aaCentres_0 aCentres_0 caCentres_0) aCentres_0, Ch.ro 0 (Sl aaList_1 aList_1 caList_1) aList_1, Ch.ro 0 (Sl aaAt_2 aAt_2 caAt_2) aAt_2] (fun n0 v L => v = (B r) ∧ L = []) := by
 refine cal2 (n := 65) Try.func12 rfl rfl rfl rfl ?_
 intro S0 σ0 n0 hn0 H
 unfold M.laws_FnExactProbeCost at h
 refine c_seq ?_
 refine rg ?_
 refine st (v := (B false)) (rv_assign rfl) ?_
 refine w_end ?_
 refine q_then ?_
 refine c_seq ?_
 refine c_seq ?_
 refine rg ?_
 refine st (v := (Sl aaAt_2 aAt_2 caAt_2)) (rv_move rfl) ?_
 refine st (v := (I (aAt_2.length : Int))) (rv_len Try.underlying24 rfl) ?_
 refine st (v := (B (decide (1048576 < (aAt_2.length : Int))))) (rv_gtr (a := (aAt_2.length : Int)) (b := 1048576) rfl rfl) ?_
 refine w_end ?_
 refine q_then ?_
 refine cd_cond (decide (1048576 < (aAt_2.length : Int))) rfl (fun hb1 => ?_) (fun hb1 => ?_)
 ·replace h := bif_t hb1 h
  refine c_seq ?_
  refine rg ?_
  refine st (v := (B true)) (rv_assign rfl) ?_
  refine w_end ?_
  refine q_then ?_
  refine c_ret ?_
  refine q_then_r ?_
  obtain rfl := Option.some.inj h
  exact fin_ret (v := (B true)) (results_ok Try.results12 (res_tmp (v := (B true)) rfl res_nil) rfl) ⟨rfl, rfl⟩ (H.sel' [] rfl rfl)
 ·replace h := bif_f hb1 h
  refine c_skip ?_
  refine q_then ?_
  refine c_seq ?_
  refine rg ?_
  refine st (v := (I 1048576)) (rv_assign rfl) ?_
  refine w_end ?_
  refine q_then ?_
  refine c_seq ?_
  refine rg ?_
  refine st (v := (Sl aaCentres_0 aCentres_0 caCentres_0)) (rv_move rfl) ?_
  refine st (v := (I 1048576)) (rv_move rfl) ?_
  obtain ⟨r2, hx3, h'⟩ := bind_some h
  clear h
  have h := h'; clear h'
  have hc4 := c_laws_szIntSS (aa_0 := aaCentres_0) (ca_0 := caCentres_0) hx3
  refine st_call (cx_call hc4 (ent_f hc4.fn rfl) hn0 (show Hp S0 σ0 _ ([Ch.ro 0 (Sl aaCentres_0 aCentres_0 caCentres_0) aCentres_0] ++ [Ch.ro 0 (Sl aaCentres_0 aCentres_0 caCentres_0) aCentres_0, Ch.ro 0 (Sl aaList_1 aList_1 caList_1) aList_1, Ch.ro 0 (Sl aaAt_2 aAt_2 caAt_2) aAt_2]) from (H.sel' [0, 0, 1, 2] rfl rfl))) wn ?_
  rintro _ σ5 ⟨_, ⟨rfl, rfl⟩, H, -⟩
  replace H : Hp S0 σ0 σ5 [Ch.ro 0 (Sl aaCentres_0 aCentres_0 caCentres_0) aCentres_0, Ch.ro 0 (Sl aaList_1 aList_1 caList_1) aList_1, Ch.ro 0 (Sl aaAt_2 aAt_2 caAt_2) aAt_2] := H
  refine st (v := (I r2)) (rv_assign rfl) ?_
  refine w_end ?_
  refine q_then ?_
  refine c_seq ?_
  refine c_seq ?_
  refine rg ?_
  refine st (v := (I r2)) (rv_move rfl) ?_
  refine st (v := (B (decide (r2 < 0)))) (rv_lss (a := r2) (b := 0) rfl rfl) ?_
  refine w_end ?_
  refine q_then ?_
  refine cd_cond (decide (r2 < 0)) rfl (fun hb6 => ?_) (fun hb6 => ?_)
  ·replace h := bif_t hb6 h
   refine c_seq ?_
   refine rg ?_
   refine st (v := (B true)) (rv_assign rfl) ?_
   refine w_end ?_
   refine q_then ?_
   refine c_ret ?_
   refine q_then_r ?_
   obtain rfl := Option.some.inj h
   exact fin_ret (v := (B true)) (results_ok Try.results12 (res_tmp (v := (B true)) rfl res_nil) rfl) ⟨rfl, rfl⟩ (H.sel' [] rfl rfl)
  ·replace h := bif_f hb6 h
   refine c_skip ?_
   refine q_then ?_
   refine c_seq ?_
   refine rg ?_
   refine st (v := (Sl aaList_1 aList_1 caList_1)) (rv_move rfl) ?_
   refine st (v := (I r2)) (rv_move rfl) ?_
   obtain ⟨r7, hx8, h'⟩ := bind_some h
   clear h
   have h := h'; clear h'
   have hc9 := c_laws_szItemS (aa_0 := aaList_1) (ca_0 := caList_1) hx8
   refine st_call (cx_call hc9 (ent_f hc9.fn rfl) hn0 (show Hp S0 σ0 _ ([Ch.ro 0 (Sl aaList_1 aList_1 caList_1) aList_1] ++ [Ch.ro 0 (Sl aaCentres_0 aCentres_0 caCentres_0) aCentres_0, Ch.ro 0 (Sl aaList_1 aList_1 caList_1) aList_1, Ch.ro 0 (Sl aaAt_2 aAt_2 caAt_2) aAt_2]) from (H.sel' [1, 0, 1, 2] rfl rfl))) wn ?_
   rintro _ σ10 ⟨_, ⟨rfl, rfl⟩, H, -⟩
   replace H : Hp S0 σ0 σ10 [Ch.ro 0 (Sl aaCentres_0 aCentres_0 caCentres_0) aCentres_0, Ch.ro 0 (Sl aaList_1 aList_1 caList_1) aList_1, Ch.ro 0 (Sl aaAt_2 aAt_2 caAt_2) aAt_2] := H
   refine st (v := (I r7)) (rv_assign rfl) ?_
   refine w_end ?_
   refine q_then ?_
   refine c_seq ?_
   refine c_seq ?_
   refine rg ?_
   refine st (v := (I r7)) (rv_move rfl) ?_
   refine st (v := (B (decide (r7 < 0)))) (rv_lss (a := r7) (b := 0) rfl rfl) ?_
   refine w_end ?_
   refine q_then ?_
   refine cd_cond (decide (r7 < 0)) rfl (fun hb11 => ?_) (fun hb11 => ?_)
   ·replace h := bif_t hb11 h
    refine c_seq ?_
    refine rg ?_
    refine st (v := (B true)) (rv_assign rfl) ?_
    refine w_end ?_
    refine q_then ?_
    refine c_ret ?_
    refine q_then_r ?_
    obtain rfl := Option.some.inj h
    exact fin_ret (v := (B true)) (results_ok Try.results12 (res_tmp (v := (B true)) rfl res_nil) rfl) ⟨rfl, rfl⟩ (H.sel' [] rfl rfl)
   ·replace h := bif_f hb11 h
    refine c_skip ?_
    refine q_then ?_
    refine c_seq ?_
    refine rg ?_
    refine st (v := (Sl aaCentres_0 aCentres_0 caCentres_0)) (rv_move rfl) ?_
    obtain ⟨r12, hx13, h'⟩ := bind_some h
    clear h
    have h := h'; clear h'
    have hc14 := c_laws_toIntSS (aa_0 := aaCentres_0) (ca_0 := caCentres_0) hx13
    refine st_call (cx_call hc14 (ent_f hc14.fn rfl) hn0 (show Hp S0 σ0 _ ([Ch.ro 0 (Sl aaCentres_0 aCentres_0 caCentres_0) aCentres_0] ++ [Ch.ro 0 (Sl aaCentres_0 aCentres_0 caCentres_0) aCentres_0, Ch.ro 0 (Sl aaList_1 aList_1 caList_1) aList_1, Ch.ro 0 (Sl aaAt_2 aAt_2 caAt_2) aAt_2]) from (H.sel' [0, 0, 1, 2] rfl rfl))) wn ?_
    rintro _ σ18 ⟨_, ⟨a15, c16, rfl, rfl, ht17⟩, H, -⟩
    replace H : Hp S0 σ0 σ18 [Ch.own n0 n0 (Sl a15 r12 c16) r12, Ch.ro 0 (Sl aaCentres_0 aCentres_0 caCentres_0) aCentres_0, Ch.ro 0 (Sl aaList_1 aList_1 caList_1) aList_1, Ch.ro 0 (Sl aaAt_2 aAt_2 caAt_2) aAt_2] := H
    refine st (v := (Sl aaList_1 aList_1 caList_1)) (rv_move rfl) ?_
    obtain ⟨r19, hx20, h'⟩ := bind_some h
    clear h
    have h := h'; clear h'
    have hc21 := c_laws_toItemS (aa_0 := aaList_1) (ca_0 := caList_1) hx20
    refine st_call (cx_call hc21 (ent_f hc21.fn rfl) hn0 (show Hp S0 σ0 _ ([Ch.ro 0 (Sl aaList_1 aList_1 caList_1) aList_1] ++ [Ch.own n0 n0 (Sl a15 r12 c16) r12, Ch.ro 0 (Sl aaCentres_0 aCentres_0 caCentres_0) aCentres_0, Ch.ro 0 (Sl aaList_1 aList_1 caList_1) aList_1, Ch.ro 0 (Sl aaAt_2 aAt_2 caAt_2) aAt_2]) from (H.sel' [2, 0, 1, 2, 3] rfl rfl))) wn ?_
    rintro _ σ25 ⟨_, ⟨a22, c23, rfl, rfl, ht24⟩, H, -⟩
    replace H : Hp S0 σ0 σ25 [Ch.own n0 n0 (Sl a22 r19 c23) r19, Ch.own n0 n0 (Sl a15 r12 c16) r12, Ch.ro 0 (Sl aaCentres_0 aCentres_0 caCentres_0) aCentres_0, Ch.ro 0 (Sl aaList_1 aList_1 caList_1) aList_1, Ch.ro 0 (Sl aaAt_2 aAt_2 caAt_2) aAt_2] := H
    refine st (v := (Sl aaAt_2 aAt_2 caAt_2)) (rv_move rfl) ?_
    obtain ⟨r26, hx27, h'⟩ := bind_some h
    clear h
    have h := h'; clear h'
    have hc28 := c_laws_toIntS (aa_0 := aaAt_2) (ca_0 := caAt_2) hx27
    refine st_call (cx_call hc28 (ent_f hc28.fn rfl) hn0 (show Hp S0 σ0 _ ([Ch.ro 0 (Sl aaAt_2 aAt_2 caAt_2) aAt_2] ++ [Ch.own n0 n0 (Sl a22 r19 c23) r19, Ch.own n0 n0 (Sl a15 r12 c16) r12, Ch.ro 0 (Sl aaCentres_0 aCentres_0 caCentres_0) aCentres_0, Ch.ro 0 (Sl aaList_1 aList_1 caList_1) aList_1, Ch.ro 0 (Sl aaAt_2 aAt_2 caAt_2) aAt_2]) from (H.sel' [4, 0, 1, 2, 3, 4] rfl rfl))) wn ?_
    rintro _ σ32 ⟨_, ⟨a29, c30, rfl, rfl, ht31⟩, H, -⟩
    replace H : Hp S0 σ0 σ32 [Ch.own n0 n0 (Sl a29 r26 c30) r26, Ch.own n0 n0 (Sl a22 r19 c23) r19, Ch.own n0 n0 (Sl a15 r12 c16) r12, Ch.ro 0 (Sl aaCentres_0 aCentres_0 caCentres_0) aCentres_0, Ch.ro 0 (Sl aaList_1 aList_1 caList_1) aList_1, Ch.ro 0 (Sl aaAt_2 aAt_2 caAt_2) aAt_2] := H
    refine st (v := (I aMany_3)) (rv_move rfl) ?_
    obtain ⟨σ33, hw34, H, -⟩ := H.pub 2 rfl (Nat.le_refl _)
    rw [← hw34]; clear hw34
    obtain ⟨σ35, hw36, H, -⟩ := H.pub 2 rfl (Nat.le_refl _)
    rw [← hw36]; clear hw36
    obtain ⟨σ37, hw38, H, -⟩ := H.pub 2 rfl (Nat.le_refl _)
    rw [← hw38]; clear hw38
    replace H := H.roLow 2 0 rfl (Nat.zero_le _)
    replace H := H.roLow 2 0 rfl (Nat.zero_le _)
    replace H := H.roLow 2 0 rfl (Nat.zero_le _)
    obtain ⟨r39, hx40, h'⟩ := bind_some h
    clear h
    have h := h'; clear h'
    have hc41 := c_spec_ProbeCost (acentres_0 := a15) (ccentres_0 := c16) (alist_1 := a22) (clist_1 := c23) (aat_2 := a29) (cat_2 := c30) hx40
    refine st_call (cx_call hc41 (ent_f hc41.fn rfl) hn0 (show Hp S0 σ0 _ ([Ch.ro 0 (Sl a15 r12 c16) r12, Ch.ro 0 (Sl a22 r19 c23) r19, Ch.ro 0 (Sl a29 r26 c30) r26] ++ [Ch.ro 0 (Sl a29 r26 c30) r26, Ch.ro 0 (Sl a22 r19 c23) r19, Ch.ro 0 (Sl a15 r12 c16) r12, Ch.ro n0 (Sl a29 r26 c30) r26, Ch.ro n0 (Sl a22 r19 c23) r19, Ch.ro n0 (Sl a15 r12 c16) r12, Ch.ro 0 (Sl aaCentres_0 aCentres_0 caCentres_0) aCentres_0, Ch.ro 0 (Sl aaList_1 aList_1 caList_1) aList_1, Ch.ro 0 (Sl aaAt_2 aAt_2 caAt_2) aAt_2]) from (H.sel' [2, 1, 0, 0, 1, 2, 3, 4, 5, 6, 7, 8] rfl rfl))) wn ?_
    rintro _ σ42 ⟨_, ⟨rfl, rfl⟩, H, -⟩
    replace H : Hp S0 σ0 σ42 [Ch.ro 0 (Sl a29 r26 c30) r26, Ch.ro 0 (Sl a22 r19 c23) r19, Ch.ro 0 (Sl a15 r12 c16) r12, Ch.ro n0 (Sl a29 r26 c30) r26, Ch.ro n0 (Sl a22 r19 c23) r19, Ch.ro n0 (Sl a15 r12 c16) r12, Ch.ro 0 (Sl aaCentres_0 aCentres_0 caCentres_0) aCentres_0, Ch.ro 0 (Sl aaList_1 aList_1 caList_1) aList_1, Ch.ro 0 (Sl aaAt_2 aAt_2 caAt_2) aAt_2] := H
    replace H : Hp S0 σ0 σ42 [Ch.ro 0 (Sl aaCentres_0 aCentres_0 caCentres_0) aCentres_0, Ch.ro 0 (Sl aaList_1 aList_1 caList_1) aList_1, Ch.ro 0 (Sl aaAt_2 aAt_2 caAt_2) aAt_2] := H.sel' [6, 7, 8] rfl rfl
    refine st (v := (I r39)) (rv_assign rfl) ?_
    refine w_end ?_
    refine q_then ?_
    refine c_seq ?_
    refine rg ?_
    refine st (v := (Sl aaCentres_0 aCentres_0 caCentres_0)) (rv_move rfl) ?_
    obtain ⟨r43, hx44, h'⟩ := bind_some h
    clear h
    have h := h'; clear h'
    have hc45 := c_laws_toIntSS (aa_0 := aaCentres_0) (ca_0 := caCentres_0) hx44
    refine st_call (cx_call hc45 (ent_f hc45.fn rfl) hn0 (show Hp S0 σ0 _ ([Ch.ro 0 (Sl aaCentres_0 aCentres_0 caCentres_0) aCentres_0] ++ [Ch.ro 0 (Sl aaCentres_0 aCentres_0 caCentres_0) aCentres_0, Ch.ro 0 (Sl aaList_1 aList_1 caList_1) aList_1, Ch.ro 0 (Sl aaAt_2 aAt_2 caAt_2) aAt_2]) from (H.sel' [0, 0, 1, 2] rfl rfl))) wn ?_
    rintro _ σ49 ⟨_, ⟨a46, c47, rfl, rfl, ht48⟩, H, -⟩
    replace H : Hp S0 σ0 σ49 [Ch.own n0 n0 (Sl a46 r43 c47) r43, Ch.ro 0 (Sl aaCentres_0 aCentres_0 caCentres_0) aCentres_0, Ch.ro 0 (Sl aaList_1 aList_1 caList_1) aList_1, Ch.ro 0 (Sl aaAt_2 aAt_2 caAt_2) aAt_2] := H
    refine st (v := (Sl a46 r43 c47)) (rv_assign rfl) ?_
    refine w_end ?_
    refine q_then ?_
    refine c_seq ?_
    refine rg ?_
    refine st (v := (Sl aaList_1 aList_1 caList_1)) (rv_move rfl) ?_
    obtain ⟨r50, hx51, h'⟩ := bind_some h
    clear h
    have h := h'; clear h'
    have hc52 := c_laws_toItemS (aa_0 := aaList_1) (ca_0 := caList_1) hx51
    refine st_call (cx_call hc52 (ent_f hc52.fn rfl) hn0 (show Hp S0 σ0 _ ([Ch.ro 0 (Sl aaList_1 aList_1 caList_1) aList_1] ++ [Ch.own n0 n0 (Sl a46 r43 c47) r43, Ch.ro 0 (Sl aaCentres_0 aCentres_0 caCentres_0) aCentres_0, Ch.ro 0 (Sl aaList_1 aList_1 caList_1) aList_1, Ch.ro 0 (Sl aaAt_2 aAt_2 caAt_2) aAt_2]) from (H.sel' [2, 0, 1, 2, 3] rfl rfl))) wn ?_
    rintro _ σ56 ⟨_, ⟨a53, c54, rfl, rfl, ht55⟩, H, -⟩
    replace H : Hp S0 σ0 σ56 [Ch.own n0 n0 (Sl a53 r50 c54) r50, Ch.own n0 n0 (Sl a46 r43 c47) r43, Ch.ro 0 (Sl aaCentres_0 aCentres_0 caCentres_0) aCentres_0, Ch.ro 0 (Sl aaList_1 aList_1 caList_1) aList_1, Ch.ro 0 (Sl aaAt_2 aAt_2 caAt_2) aAt_2] := H
    refine st (v := (Sl a53 r50 c54)) (rv_assign rfl) ?_
    refine w_end ?_
    refine q_then ?_
    refine c_seq ?_
    refine rg ?_
    refine st (v := (Sl aaAt_2 aAt_2 caAt_2)) (rv_move rfl) ?_
    obtain ⟨r57, hx58, h'⟩ := bind_some h
    clear h
    have h := h'; clear h'
    have hc59 := c_laws_toIntS (aa_0 := aaAt_2) (ca_0 := caAt_2) hx58
    refine st_call (cx_call hc59 (ent_f hc59.fn rfl) hn0 (show Hp S0 σ0 _ ([Ch.ro 0 (Sl aaAt_2 aAt_2 caAt_2) aAt_2] ++ [Ch.own n0 n0 (Sl a53 r50 c54) r50, Ch.own n0 n0 (Sl a46 r43 c47) r43, Ch.ro 0 (Sl aaCentres_0 aCentres_0 caCentres_0) aCentres_0, Ch.ro 0 (Sl aaList_1 aList_1 caList_1) aList_1, Ch.ro 0 (Sl aaAt_2 aAt_2 caAt_2) aAt_2]) from (H.sel' [4, 0, 1, 2, 3, 4] rfl rfl))) wn ?_
    rintro _ σ63 ⟨_, ⟨a60, c61, rfl, rfl, ht62⟩, H, -⟩
    replace H : Hp S0 σ0 σ63 [Ch.own n0 n0 (Sl a60 r57 c61) r57, Ch.own n0 n0 (Sl a53 r50 c54) r50, Ch.own n0 n0 (Sl a46 r43 c47) r43, Ch.ro 0 (Sl aaCentres_0 aCentres_0 caCentres_0) aCentres_0, Ch.ro 0 (Sl aaList_1 aList_1 caList_1) aList_1, Ch.ro 0 (Sl aaAt_2 aAt_2 caAt_2) aAt_2] := H
    refine st (v := (Sl a60 r57 c61)) (rv_assign rfl) ?_
    refine w_end ?_
    refine q_then ?_
    refine c_seq ?_
    refine rg ?_
    refine st (v := (Sl a46 r43 c47)) (rv_move rfl) ?_
    refine st (v := (Sl a53 r50 c54)) (rv_move rfl) ?_
    refine st (v := (Sl a60 r57 c61)) (rv_move rfl) ?_
    refine st (v := (I aMany_3)) (rv_move rfl) ?_
    obtain ⟨r64, hx65, h'⟩ := bind_some h
    clear h
    have h := h'; clear h'
    have hc66 := c_impl_ProbeCost (acentres_0 := a46) (ccentres_0 := c47) (alist_1 := a53) (clist_1 := c54) (aat_2 := a60) (cat_2 := c61) hx65
    have hle := Nat.le_trans hn0 H.size
    refine st_call (cx_lend (Loan.lend (Loan.lend (Loan.lend Loan.nil))) hc66 (ent_f hc66.fn rfl) (show Hp S0 σ0 _ ([Ch.own n0 n0 (Sl a46 r43 c47) r43, Ch.own n0 n0 (Sl a53 r50 c54) r50, Ch.own n0 n0 (Sl a60 r57 c61) r57] ++ ([] ++ [Ch.ro 0 (Sl aaCentres_0 aCentres_0 caCentres_0) aCentres_0, Ch.ro 0 (Sl aaList_1 aList_1 caList_1) aList_1, Ch.ro 0 (Sl aaAt_2 aAt_2 caAt_2) aAt_2])) from (H.sel' [2, 1, 0, 3, 4, 5] rfl rfl)) (by rintro _ _ _ ⟨rfl, rfl⟩; exact trivial)) wn ?_
    rintro _ σ67 ⟨_, ⟨rfl, rfl⟩, H, -, -⟩
    replace H : Hp S0 σ0 σ67 [Ch.own n0 n0 (Sl a46 r43 c47) r43, Ch.own n0 n0 (Sl a53 r50 c54) r50, Ch.own n0 n0 (Sl a60 r57 c61) r57, Ch.ro 0 (Sl aaCentres_0 aCentres_0 caCentres_0) aCentres_0, Ch.ro 0 (Sl aaList_1 aList_1 caList_1) aList_1, Ch.ro 0 (Sl aaAt_2 aAt_2 caAt_2) aAt_2] := H
    clear hle
    replace H : Hp S0 σ0 σ67 [Ch.own n0 n0 (Sl a46 r43 c47) r43, Ch.own n0 n0 (Sl a53 r50 c54) r50, Ch.own n0 n0 (Sl a60 r57 c61) r57, Ch.ro 0 (Sl aaCentres_0 aCentres_0 caCentres_0) aCentres_0, Ch.ro 0 (Sl aaList_1 aList_1 caList_1) aList_1, Ch.ro 0 (Sl aaAt_2 aAt_2 caAt_2) aAt_2] := H
    refine st (v := (I r64)) (rv_assign rfl) ?_
    refine w_end ?_
    refine q_then ?_
    refine c_seq ?_
    refine c_seq ?_
    refine rg ?_
    refine st (v := (I r64)) (rv_move rfl) ?_
    refine st (v := (I r39)) (rv_move rfl) ?_
    refine st (v := (B (r64 != r39))) (rv_neq (a := r64) (b := r39) rfl rfl) ?_
    refine w_end ?_
    refine q_then ?_
    refine cd_cond (r64 != r39) rfl (fun hb68 => ?_) (fun hb68 => ?_)
    ·replace h := bif_t hb68 h
     refine c_seq ?_
     refine rg ?_
     refine st (v := (B false)) (rv_assign rfl) ?_
     refine w_end ?_
     refine q_then ?_
     refine c_ret ?_
     refine q_then_r ?_
     obtain rfl := Option.some.inj h
     exact fin_ret (v := (B false)) (results_ok Try.results12 (res_tmp (v := (B false)) rfl res_nil) rfl) ⟨rfl, rfl⟩ (H.sel' [] rfl rfl)
    ·replace h := bif_f hb68 h
     refine c_skip ?_
     refine q_then ?_
     refine c_seq ?_
     refine c_seq ?_
     refine rg ?_
     refine st (v := (Sl a46 r43 c47)) (rv_move rfl) ?_
     refine st (v := (Sl aaCentres_0 aCentres_0 caCentres_0)) (rv_move rfl) ?_
     obtain ⟨r69, hx70, h'⟩ := bind_some h
     clear h
     have h := h'; clear h'
     have hc71 := c_laws_toIntSS (aa_0 := aaCentres_0) (ca_0 := caCentres_0) hx70
     refine st_call (cx_call hc71 (ent_f hc71.fn rfl) hn0 (show Hp S0 σ0 _ ([Ch.ro 0 (Sl aaCentres_0 aCentres_0 caCentres_0) aCentres_0] ++ [Ch.own n0 n0 (Sl a46 r43 c47) r43, Ch.own n0 n0 (Sl a53 r50 c54) r50, Ch.own n0 n0 (Sl a60 r57 c61) r57, Ch.ro 0 (Sl aaCentres_0 aCentres_0 caCentres_0) aCentres_0, Ch.ro 0 (Sl aaList_1 aList_1 caList_1) aList_1, Ch.ro 0 (Sl aaAt_2 aAt_2 caAt_2) aAt_2]) from (H.sel' [3, 0, 1, 2, 3, 4, 5] rfl rfl))) wn ?_
     rintro _ σ75 ⟨_, ⟨a72, c73, rfl, rfl, ht74⟩, H, -⟩
     replace H : Hp S0 σ0 σ75 [Ch.own n0 n0 (Sl a72 r69 c73) r69, Ch.own n0 n0 (Sl a46 r43 c47) r43, Ch.own n0 n0 (Sl a53 r50 c54) r50, Ch.own n0 n0 (Sl a60 r57 c61) r57, Ch.ro 0 (Sl aaCentres_0 aCentres_0 caCentres_0) aCentres_0, Ch.ro 0 (Sl aaList_1 aList_1 caList_1) aList_1, Ch.ro 0 (Sl aaAt_2 aAt_2 caAt_2) aAt_2] := H
     obtain ⟨σ76, hw77, H, -⟩ := H.pub 1 rfl (Nat.le_refl _)
     rw [← hw77]; clear hw77
     obtain ⟨σ78, hw79, H, -⟩ := H.pub 1 rfl (Nat.le_refl _)
     rw [← hw79]; clear hw79
     replace H := H.roLow 1 0 rfl (Nat.zero_le _)
     replace H := H.roLow 1 0 rfl (Nat.zero_le _)
     obtain ⟨r80, hx81, h'⟩ := bind_some h
     clear h
     have h := h'; clear h'
     have hc82 := c_laws_eqIntSS (aa_0 := a46) (ca_0 := c47) (ab_1 := a72) (cb_1 := c73) hx81
     refine st_call (cx_call hc82 (ent_f hc82.fn rfl) hn0 (show Hp S0 σ0 _ ([Ch.ro 0 (Sl a46 r43 c47) r43, Ch.ro 0 (Sl a72 r69 c73) r69] ++ [Ch.ro 0 (Sl a72 r69 c73) r69, Ch.ro 0 (Sl a46 r43 c47) r43, Ch.ro n0 (Sl a72 r69 c73) r69, Ch.ro n0 (Sl a46 r43 c47) r43, Ch.own n0 n0 (Sl a53 r50 c54) r50, Ch.own n0 n0 (Sl a60 r57 c61) r57, Ch.ro 0 (Sl aaCentres_0 aCentres_0 caCentres_0) aCentres_0, Ch.ro 0 (Sl aaList_1 aList_1 caList_1) aList_1, Ch.ro 0 (Sl aaAt_2 aAt_2 caAt_2) aAt_2]) from (H.sel' [1, 0, 0, 1, 2, 3, 4, 5, 6, 7, 8] rfl rfl))) wn ?_
     rintro _ σ83 ⟨_, ⟨rfl, rfl⟩, H, -⟩
     replace H : Hp S0 σ0 σ83 [Ch.ro 0 (Sl a72 r69 c73) r69, Ch.ro 0 (Sl a46 r43 c47) r43, Ch.ro n0 (Sl a72 r69 c73) r69, Ch.ro n0 (Sl a46 r43 c47) r43, Ch.own n0 n0 (Sl a53 r50 c54) r50, Ch.own n0 n0 (Sl a60 r57 c61) r57, Ch.ro 0 (Sl aaCentres_0 aCentres_0 caCentres_0) aCentres_0, Ch.ro 0 (Sl aaList_1 aList_1 caList_1) aList_1, Ch.ro 0 (Sl aaAt_2 aAt_2 caAt_2) aAt_2] := H
     replace H : Hp S0 σ0 σ83 [Ch.own n0 n0 (Sl a53 r50 c54) r50, Ch.own n0 n0 (Sl a60 r57 c61) r57, Ch.ro 0 (Sl aaList_1 aList_1 caList_1) aList_1, Ch.ro 0 (Sl aaAt_2 aAt_2 caAt_2) aAt_2] := H.sel' [4, 5, 7, 8] rfl rfl
     refine st (v := (B (!r80))) (rv_not rfl) ?_
     refine w_end ?_
     refine q_then ?_
     refine cd_cond (!r80) rfl (fun hb84 => ?_) (fun hb84 => ?_)
     ·replace h := bif_t hb84 h
      refine c_seq ?_
      refine rg ?_
      refine st (v := (B false)) (rv_assign rfl) ?_
      refine w_end ?_
      refine q_then ?_
      refine c_ret ?_
      refine q_then_r ?_
      obtain rfl := Option.some.inj h
      exact fin_ret (v := (B false)) (results_ok Try.results12 (res_tmp (v := (B false)) rfl res_nil) rfl) ⟨rfl, rfl⟩ (H.sel' [] rfl rfl)
     ·replace h := bif_f hb84 h
      refine c_skip ?_
      refine q_then ?_
      refine c_seq ?_
      refine c_seq ?_
      refine rg ?_
      refine st (v := (Sl a53 r50 c54)) (rv_move rfl) ?_
      refine st (v := (Sl aaList_1 aList_1 caList_1)) (rv_move rfl) ?_
      obtain ⟨r85, hx86, h'⟩ := bind_some h
      clear h
      have h := h'; clear h'
      have hc87 := c_laws_toItemS (aa_0 := aaList_1) (ca_0 := caList_1) hx86
      refine st_call (cx_call hc87 (ent_f hc87.fn rfl) hn0 (show Hp S0 σ0 _ ([Ch.ro 0 (Sl aaList_1 aList_1 caList_1) aList_1] ++ [Ch.own n0 n0 (Sl a53 r50 c54) r50, Ch.own n0 n0 (Sl a60 r57 c61) r57, Ch.ro 0 (Sl aaList_1 aList_1 caList_1) aList_1, Ch.ro 0 (Sl aaAt_2 aAt_2 caAt_2) aAt_2]) from (H.sel' [2, 0, 1, 2, 3] rfl rfl))) wn ?_
      rintro _ σ91 ⟨_, ⟨a88, c89, rfl, rfl, ht90⟩, H, -⟩
      replace H : Hp S0 σ0 σ91 [Ch.own n0 n0 (Sl a88 r85 c89) r85, Ch.own n0 n0 (Sl a53 r50 c54) r50, Ch.own n0 n0 (Sl a60 r57 c61) r57, Ch.ro 0 (Sl aaList_1 aList_1 caList_1) aList_1, Ch.ro 0 (Sl aaAt_2 aAt_2 caAt_2) aAt_2] := H
      obtain ⟨σ92, hw93, H, -⟩ := H.pub 1 rfl (Nat.le_refl _)
      rw [← hw93]; clear hw93
      obtain ⟨σ94, hw95, H, -⟩ := H.pub 1 rfl (Nat.le_refl _)
      rw [← hw95]; clear hw95
      replace H := H.roLow 1 0 rfl (Nat.zero_le _)
      replace H := H.roLow 1 0 rfl (Nat.zero_le _)
      obtain ⟨r96, hx97, h'⟩ := bind_some h
      clear h
      have h := h'; clear h'
      have hc98 := c_laws_eqItemS (aa_0 := a53) (ca_0 := c54) (ab_1 := a88) (cb_1 := c89) hx97
      refine st_call (cx_call hc98 (ent_f hc98.fn rfl) hn0 (show Hp S0 σ0 _ ([Ch.ro 0 (Sl a53 r50 c54) r50, Ch.ro 0 (Sl a88 r85 c89) r85] ++ [Ch.ro 0 (Sl a88 r85 c89) r85, Ch.ro 0 (Sl a53 r50 c54) r50, Ch.ro n0 (Sl a88 r85 c89) r85, Ch.ro n0 (Sl a53 r50 c54) r50, Ch.own n0 n0 (Sl a60 r57 c61) r57, Ch.ro 0 (Sl aaList_1 aList_1 caList_1) aList_1, Ch.ro 0 (Sl aaAt_2 aAt_2 caAt_2) aAt_2]) from (H.sel' [1, 0, 0, 1, 2, 3, 4, 5, 6] rfl rfl))) wn ?_
      rintro _ σ99 ⟨_, ⟨rfl, rfl⟩, H, -⟩
      replace H : Hp S0 σ0 σ99 [Ch.ro 0 (Sl a88 r85 c89) r85, Ch.ro 0 (Sl a53 r50 c54) r50, Ch.ro n0 (Sl a88 r85 c89) r85, Ch.ro n0 (Sl a53 r50 c54) r50, Ch.own n0 n0 (Sl a60 r57 c61) r57, Ch.ro 0 (Sl aaList_1 aList_1 caList_1) aList_1, Ch.ro 0 (Sl aaAt_2 aAt_2 caAt_2) aAt_2] := H
      refine st (v := (B (!r96))) (rv_not rfl) ?_
      refine w_end ?_
      refine q_then ?_
      refine cd_cond (!r96) rfl (fun hb100 => ?_) (fun hb100 => ?_)
      ·replace h := bif_t hb100 h
       refine c_seq ?_
       refine rg ?_
       refine st (v := (B false)) (rv_assign rfl) ?_
       refine w_end ?_
       refine q_then ?_
       refine c_ret ?_
       refine q_then_r ?_
       obtain rfl := Option.some.inj h
       exact fin_ret (v := (B false)) (results_ok Try.results12 (res_tmp (v := (B false)) rfl res_nil) rfl) ⟨rfl, rfl⟩ (H.sel' [] rfl rfl)
      ·replace h := bif_f hb100 h
       refine c_skip ?_
       refine q_then ?_
       refine c_seq ?_
       refine c_seq ?_
       refine rg ?_
       refine st (v := (Sl a60 r57 c61)) (rv_move rfl) ?_
       refine st (v := (Sl aaAt_2 aAt_2 caAt_2)) (rv_move rfl) ?_
       obtain ⟨r101, hx102, h'⟩ := bind_some h
       clear h
       have h := h'; clear h'
       have hc103 := c_laws_toIntS (aa_0 := aaAt_2) (ca_0 := caAt_2) hx102
       refine st_call (cx_call hc103 (ent_f hc103.fn rfl) hn0 (show Hp S0 σ0 _ ([Ch.ro 0 (Sl aaAt_2 aAt_2 caAt_2) aAt_2] ++ [Ch.ro 0 (Sl a88 r85 c89) r85, Ch.ro 0 (Sl a53 r50 c54) r50, Ch.ro n0 (Sl a88 r85 c89) r85, Ch.ro n0 (Sl a53 r50 c54) r50, Ch.own n0 n0 (Sl a60 r57 c61) r57, Ch.ro 0 (Sl aaList_1 aList_1 caList_1) aList_1, Ch.ro 0 (Sl aaAt_2 aAt_2 caAt_2) aAt_2]) from (H.sel' [6, 0, 1, 2, 3, 4, 5, 6] rfl rfl))) wn ?_
       rintro _ σ107 ⟨_, ⟨a104, c105, rfl, rfl, ht106⟩, H, -⟩
       replace H : Hp S0 σ0 σ107 [Ch.own n0 n0 (Sl a104 r101 c105) r101, Ch.ro 0 (Sl a88 r85 c89) r85, Ch.ro 0 (Sl a53 r50 c54) r50, Ch.ro n0 (Sl a88 r85 c89) r85, Ch.ro n0 (Sl a53 r50 c54) r50, Ch.own n0 n0 (Sl a60 r57 c61) r57, Ch.ro 0 (Sl aaList_1 aList_1 caList_1) aList_1, Ch.ro 0 (Sl aaAt_2 aAt_2 caAt_2) aAt_2] := H
       replace H : Hp S0 σ0 σ107 [Ch.own n0 n0 (Sl a104 r101 c105) r101, Ch.own n0 n0 (Sl a60 r57 c61) r57] := H.sel' [0, 5] rfl rfl
       obtain ⟨σ108, hw109, H, -⟩ := H.pub 1 rfl (Nat.le_refl _)
       rw [← hw109]; clear hw109
       obtain ⟨σ110, hw111, H, -⟩ := H.pub 1 rfl (Nat.le_refl _)
       rw [← hw111]; clear hw111
       replace H := H.roLow 1 0 rfl (Nat.zero_le _)
       replace H := H.roLow 1 0 rfl (Nat.zero_le _)
       obtain ⟨r112, hx113, h'⟩ := bind_some h
       clear h
       have h := h'; clear h'
       have hc114 := c_laws_eqIntS (aa_0 := a60) (ca_0 := c61) (ab_1 := a104) (cb_1 := c105) hx113
       refine st_call (cx_call hc114 (ent_f hc114.fn rfl) hn0 (show Hp S0 σ0 _ ([Ch.ro 0 (Sl a60 r57 c61) r57, Ch.ro 0 (Sl a104 r101 c105) r101] ++ [Ch.ro 0 (Sl a104 r101 c105) r101, Ch.ro 0 (Sl a60 r57 c61) r57, Ch.ro n0 (Sl a104 r101 c105) r101, Ch.ro n0 (Sl a60 r57 c61) r57]) from (H.sel' [1, 0, 0, 1, 2, 3] rfl rfl))) wn ?_
       rintro _ σ115 ⟨_, ⟨rfl, rfl⟩, H, -⟩
       replace H : Hp S0 σ0 σ115 [Ch.ro 0 (Sl a104 r101 c105) r101, Ch.ro 0 (Sl a60 r57 c61) r57, Ch.ro n0 (Sl a104 r101 c105) r101, Ch.ro n0 (Sl a60 r57 c61) r57] := H
       refine st (v := (B (!r112))) (rv_not rfl) ?_
       refine w_end ?_
       refine q_then ?_
       refine cd_cond (!r112) rfl (fun hb116 => ?_) (fun hb116 => ?_)
       ·replace h := bif_t hb116 h
        refine c_seq ?_
        refine rg ?_
        refine st (v := (B false)) (rv_assign rfl) ?_
        refine w_end ?_
        refine q_then ?_
        refine c_ret ?_
        refine q_then_r ?_
        obtain rfl := Option.some.inj h
        exact fin_ret (v := (B false)) (results_ok Try.results12 (res_tmp (v := (B false)) rfl res_nil) rfl) ⟨rfl, rfl⟩ (H.sel' [] rfl rfl)
       ·replace h := bif_f hb116 h
        refine c_skip ?_
        refine q_then ?_
        refine c_seq ?_
        refine rg ?_
        refine st (v := (B true)) (rv_assign rfl) ?_
        refine w_end ?_
        refine q_then ?_
        refine c_ret ?_
        obtain rfl := Option.some.inj h
        exact fin_ret (v := (B true)) (results_ok Try.results12 (res_tmp (v := (B true)) rfl res_nil) rfl) ⟨rfl, rfl⟩ (H.sel' [] rfl rfl)

end Go.Vs
