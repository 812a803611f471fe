/- The functions compute what their models say. -/
import Derived.Test.YtbnhppnkdmnneaaKExactAssignItemsC2
set_option linter.unusedVariables false
set_option linter.unusedSimpArgs false
set_option maxRecDepth 20000
namespace Go.Vs
open Go Go.Proofs
attribute [local irreducible] Code.wp Code.wpIn wpList wpListIn wpQuiet Calls CallsIn

theorem c_laws_FnExactAssignItems {aCentres_0 : List (List Int)} {aList_1 : List (Int × (List Int) × Int)} {aaCentres_0 : Option Addr} {caCentres_0 : Nat} {aaList_1 : Option Addr} {caList_1 : Nat} {r : Bool} (h : M.laws_FnExactAssignItems aCentres_0 aList_1 = some r) :
    Cal2 Try.prog 7 [(Sl aaCentres_0 aCentres_0 caCentres_0), (Sl aaList_1 aList_1 caList_1)] [Ch.ro 0 (Sl aaCentres_0 aCentres_0 caCentres_0) aCentres_0, Ch.ro 0 (Sl aaList_1 aList_1 caList_1) aList_1] (fun n0 v L => v = (B r) ∧ L = []) := by
 refine cal2 (n := 92) Try.func7 rfl rfl rfl rfl ?_
 intro S0 σ0 n0 hn0 H
 unfold M.laws_FnExactAssignItems at h
 refine c_seq ?_
 refine rg ?_
 refine st (v := (B false)) (rv_assign rfl) ?_
 refine w_end ?_
 refine q_then ?_
 refine c_seq ?_
 refine rg ?_
 refine st (v := (I 1048576)) (rv_assign rfl) ?_
 refine w_end ?_
 refine q_then ?_
 refine c_seq ?_
 refine rg ?_
 refine st (v := (Sl aaCentres_0 aCentres_0 caCentres_0)) (rv_move rfl) ?_
 refine st (v := (I 1048576)) (rv_move rfl) ?_
 obtain ⟨r1, hx2, h'⟩ := bind_some h
 clear h
 have h := h'; clear h'
 have hc3 := c_laws_szIntSS (aa_0 := aaCentres_0) (ca_0 := caCentres_0) hx2
 refine st_call (cx_call hc3 (ent_f hc3.fn rfl) hn0 (show Hp S0 σ0 _ ([Ch.ro 0 (Sl aaCentres_0 aCentres_0 caCentres_0) aCentres_0] ++ [Ch.ro 0 (Sl aaCentres_0 aCentres_0 caCentres_0) aCentres_0, Ch.ro 0 (Sl aaList_1 aList_1 caList_1) aList_1]) from (H.sel' [0, 0, 1] rfl rfl))) wn ?_
 rintro _ σ4 ⟨_, ⟨rfl, rfl⟩, H, -⟩
 replace H : Hp S0 σ0 σ4 [Ch.ro 0 (Sl aaCentres_0 aCentres_0 caCentres_0) aCentres_0, Ch.ro 0 (Sl aaList_1 aList_1 caList_1) aList_1] := H
 refine st (v := (I r1)) (rv_assign rfl) ?_
 refine w_end ?_
 refine q_then ?_
 refine c_seq ?_
 refine c_seq ?_
 refine rg ?_
 refine st (v := (I r1)) (rv_move rfl) ?_
 refine st (v := (B (decide (r1 < 0)))) (rv_lss (a := r1) (b := 0) rfl rfl) ?_
 refine w_end ?_
 refine q_then ?_
 refine cd_cond (decide (r1 < 0)) rfl (fun hb5 => ?_) (fun hb5 => ?_)
 ·replace h := bif_t hb5 h
  refine c_seq ?_
  refine rg ?_
  refine st (v := (B true)) (rv_assign rfl) ?_
  refine w_end ?_
  refine q_then ?_
  refine c_ret ?_
  refine q_then_r ?_
  obtain rfl := Option.some.inj h
  exact fin_ret (v := (B true)) (results_ok Try.results7 (res_tmp (v := (B true)) rfl res_nil) rfl) ⟨rfl, rfl⟩ (H.sel' [] rfl rfl)
 ·replace h := bif_f hb5 h
  refine c_skip ?_
  refine q_then ?_
  refine c_seq ?_
  refine rg ?_
  refine st (v := (Sl aaList_1 aList_1 caList_1)) (rv_move rfl) ?_
  refine st (v := (I r1)) (rv_move rfl) ?_
  obtain ⟨r6, hx7, h'⟩ := bind_some h
  clear h
  have h := h'; clear h'
  have hc8 := c_laws_szItemS (aa_0 := aaList_1) (ca_0 := caList_1) hx7
  refine st_call (cx_call hc8 (ent_f hc8.fn rfl) hn0 (show Hp S0 σ0 _ ([Ch.ro 0 (Sl aaList_1 aList_1 caList_1) aList_1] ++ [Ch.ro 0 (Sl aaCentres_0 aCentres_0 caCentres_0) aCentres_0, Ch.ro 0 (Sl aaList_1 aList_1 caList_1) aList_1]) from (H.sel' [1, 0, 1] rfl rfl))) wn ?_
  rintro _ σ9 ⟨_, ⟨rfl, rfl⟩, H, -⟩
  replace H : Hp S0 σ0 σ9 [Ch.ro 0 (Sl aaCentres_0 aCentres_0 caCentres_0) aCentres_0, Ch.ro 0 (Sl aaList_1 aList_1 caList_1) aList_1] := H
  refine st (v := (I r6)) (rv_assign rfl) ?_
  refine w_end ?_
  refine q_then ?_
  refine c_seq ?_
  refine c_seq ?_
  refine rg ?_
  refine st (v := (I r6)) (rv_move rfl) ?_
  refine st (v := (B (decide (r6 < 0)))) (rv_lss (a := r6) (b := 0) rfl rfl) ?_
  refine w_end ?_
  refine q_then ?_
  refine cd_cond (decide (r6 < 0)) rfl (fun hb10 => ?_) (fun hb10 => ?_)
  ·replace h := bif_t hb10 h
   refine c_seq ?_
   refine rg ?_
   refine st (v := (B true)) (rv_assign rfl) ?_
   refine w_end ?_
   refine q_then ?_
   refine c_ret ?_
   refine q_then_r ?_
   obtain rfl := Option.some.inj h
   exact fin_ret (v := (B true)) (results_ok Try.results7 (res_tmp (v := (B true)) rfl res_nil) rfl) ⟨rfl, rfl⟩ (H.sel' [] rfl rfl)
  ·replace h := bif_f hb10 h
   refine c_skip ?_
   refine q_then ?_
   refine c_seq ?_
   refine rg ?_
   refine st (v := (Sl aaCentres_0 aCentres_0 caCentres_0)) (rv_move rfl) ?_
   obtain ⟨r11, hx12, h'⟩ := bind_some h
   clear h
   have h := h'; clear h'
   have hc13 := c_laws_toIntSS (aa_0 := aaCentres_0) (ca_0 := caCentres_0) hx12
   refine st_call (cx_call hc13 (ent_f hc13.fn rfl) hn0 (show Hp S0 σ0 _ ([Ch.ro 0 (Sl aaCentres_0 aCentres_0 caCentres_0) aCentres_0] ++ [Ch.ro 0 (Sl aaCentres_0 aCentres_0 caCentres_0) aCentres_0, Ch.ro 0 (Sl aaList_1 aList_1 caList_1) aList_1]) from (H.sel' [0, 0, 1] rfl rfl))) wn ?_
   rintro _ σ18 ⟨_, ⟨a14, c15, K16, rfl, rfl, hK17⟩, H, -⟩
   replace H : Hp S0 σ0 σ18 [Ch.big K16, Ch.ro 0 (Sl aaCentres_0 aCentres_0 caCentres_0) aCentres_0, Ch.ro 0 (Sl aaList_1 aList_1 caList_1) aList_1] := H
   refine st (v := (Sl aaList_1 aList_1 caList_1)) (rv_move rfl) ?_
   obtain ⟨r19, hx20, h'⟩ := bind_some h
   clear h
   have h := h'; clear h'
   have hc21 := c_laws_toItemS (aa_0 := aaList_1) (ca_0 := caList_1) hx20
   refine st_call (cx_call hc21 (ent_f hc21.fn rfl) hn0 (show Hp S0 σ0 _ ([Ch.ro 0 (Sl aaList_1 aList_1 caList_1) aList_1] ++ [Ch.big K16, Ch.ro 0 (Sl aaCentres_0 aCentres_0 caCentres_0) aCentres_0, Ch.ro 0 (Sl aaList_1 aList_1 caList_1) aList_1]) from (H.sel' [2, 0, 1, 2] rfl rfl))) wn ?_
   rintro _ σ26 ⟨_, ⟨a22, c23, K24, rfl, rfl, hK25⟩, H, -⟩
   replace H : Hp S0 σ0 σ26 [Ch.big K24, Ch.big K16, Ch.ro 0 (Sl aaCentres_0 aCentres_0 caCentres_0) aCentres_0, Ch.ro 0 (Sl aaList_1 aList_1 caList_1) aList_1] := H
   obtain ⟨r27, hx28, h'⟩ := bind_some h
   clear h
   have h := h'; clear h'
   have hc29 := c_spec_AssignItems (acentres_0 := a14) (ccentres_0 := c15) (alist_1 := a22) (clist_1 := c23) hx28
   have hle := Nat.le_trans hn0 H.size
   refine st_call (cx_lend (Loan.lendB hK17.lends (Loan.lendB hK25.lends Loan.nil)) hc29 (ent_f hc29.fn rfl) (show Hp S0 σ0 _ ([Ch.big K16, Ch.big K24] ++ ([] ++ [Ch.ro 0 (Sl aaCentres_0 aCentres_0 caCentres_0) aCentres_0, Ch.ro 0 (Sl aaList_1 aList_1 caList_1) aList_1])) from (H.sel' [1, 0, 2, 3] rfl rfl)) (by rintro _ _ _ ⟨_, _, rfl, rfl⟩; exact ⟨Ab.ownSc, trivial⟩)) wn ?_
   rintro _ σ32 ⟨_, ⟨a30, c31, rfl, rfl⟩, H, -, -⟩
   replace H : Hp S0 σ0 σ32 [Ch.own σ26.size σ26.size (Sl a30 r27 c31) r27, Ch.big K16, Ch.big K24, Ch.ro 0 (Sl aaCentres_0 aCentres_0 caCentres_0) aCentres_0, Ch.ro 0 (Sl aaList_1 aList_1 caList_1) aList_1] := H
   replace H := H.ownLow 0 n0 n0 rfl hle hle
   clear hle
   replace H : Hp S0 σ0 σ32 [Ch.own n0 n0 (Sl a30 r27 c31) r27, Ch.big K16, Ch.big K24, Ch.ro 0 (Sl aaCentres_0 aCentres_0 caCentres_0) aCentres_0, Ch.ro 0 (Sl aaList_1 aList_1 caList_1) aList_1] := H
   refine st (v := (Sl a30 r27 c31)) (rv_assign rfl) ?_
   refine w_end ?_
   refine q_then ?_
   refine c_seq ?_
   refine rg ?_
   refine st (v := (Sl aaCentres_0 aCentres_0 caCentres_0)) (rv_move rfl) ?_
   obtain ⟨r33, hx34, h'⟩ := bind_some h
   clear h
   have h := h'; clear h'
   have hc35 := c_laws_toIntSS (aa_0 := aaCentres_0) (ca_0 := caCentres_0) hx34
   refine st_call (cx_call hc35 (ent_f hc35.fn rfl) hn0 (show Hp S0 σ0 _ ([Ch.ro 0 (Sl aaCentres_0 aCentres_0 caCentres_0) aCentres_0] ++ [Ch.own n0 n0 (Sl a30 r27 c31) r27, Ch.big K16, Ch.big K24, Ch.ro 0 (Sl aaCentres_0 aCentres_0 caCentres_0) aCentres_0, Ch.ro 0 (Sl aaList_1 aList_1 caList_1) aList_1]) from (H.sel' [3, 0, 1, 2, 3, 4] rfl rfl))) wn ?_
   rintro _ σ40 ⟨_, ⟨a36, c37, K38, rfl, rfl, hK39⟩, H, -⟩
   replace H : Hp S0 σ0 σ40 [Ch.big K38, Ch.own n0 n0 (Sl a30 r27 c31) r27, Ch.big K16, Ch.big K24, Ch.ro 0 (Sl aaCentres_0 aCentres_0 caCentres_0) aCentres_0, Ch.ro 0 (Sl aaList_1 aList_1 caList_1) aList_1] := H
   refine st (v := (Sl a36 r33 c37)) (rv_assign rfl) ?_
   refine w_end ?_
   refine q_then ?_
   refine c_seq ?_
   refine rg ?_
   refine st (v := (Sl aaList_1 aList_1 caList_1)) (rv_move rfl) ?_
   obtain ⟨r41, hx42, h'⟩ := bind_some h
   clear h
   have h := h'; clear h'
   have hc43 := c_laws_toItemS (aa_0 := aaList_1) (ca_0 := caList_1) hx42
   refine st_call (cx_call hc43 (ent_f hc43.fn rfl) hn0 (show Hp S0 σ0 _ ([Ch.ro 0 (Sl aaList_1 aList_1 caList_1) aList_1] ++ [Ch.big K38, Ch.own n0 n0 (Sl a30 r27 c31) r27, Ch.big K16, Ch.big K24, Ch.ro 0 (Sl aaCentres_0 aCentres_0 caCentres_0) aCentres_0, Ch.ro 0 (Sl aaList_1 aList_1 caList_1) aList_1]) from (H.sel' [5, 0, 1, 2, 3, 4, 5] rfl rfl))) wn ?_
   rintro _ σ48 ⟨_, ⟨a44, c45, K46, rfl, rfl, hK47⟩, H, -⟩
   replace H : Hp S0 σ0 σ48 [Ch.big K46, Ch.big K38, Ch.own n0 n0 (Sl a30 r27 c31) r27, Ch.big K16, Ch.big K24, Ch.ro 0 (Sl aaCentres_0 aCentres_0 caCentres_0) aCentres_0, Ch.ro 0 (Sl aaList_1 aList_1 caList_1) aList_1] := H
   refine st (v := (Sl a44 r41 c45)) (rv_assign rfl) ?_
   refine w_end ?_
   refine q_then ?_
   refine c_seq ?_
   refine rg ?_
   refine st (v := (Sl a36 r33 c37)) (rv_move rfl) ?_
   refine st (v := (Sl a44 r41 c45)) (rv_move rfl) ?_
   obtain ⟨r49, hx50, h'⟩ := bind_some h
   clear h
   have h := h'; clear h'
   have hc51 := c_impl_AssignItems (acentres_0 := a36) (ccentres_0 := c37) (alist_1 := a44) (clist_1 := c45) hx50
   have hle := Nat.le_trans hn0 H.size
   refine st_call (cx_lend (Loan.lendB hK39.lends (Loan.lendB hK47.lends Loan.nil)) hc51 (ent_f hc51.fn rfl) (show Hp S0 σ0 _ ([Ch.big K38, Ch.big K46] ++ ([] ++ [Ch.own n0 n0 (Sl a30 r27 c31) r27, Ch.big K16, Ch.big K24, Ch.ro 0 (Sl aaCentres_0 aCentres_0 caCentres_0) aCentres_0, Ch.ro 0 (Sl aaList_1 aList_1 caList_1) aList_1])) from (H.sel' [1, 0, 2, 3, 4, 5, 6] rfl rfl)) (by rintro _ _ _ ⟨_, _, rfl, rfl, _⟩; exact ⟨Ab.ownSc, trivial⟩)) wn ?_
   rintro _ σ55 ⟨_, ⟨a52, c53, rfl, rfl, ht54⟩, H, -, -⟩
   replace H : Hp S0 σ0 σ55 [Ch.own σ48.size σ48.size (Sl a52 r49 c53) r49, Ch.big K38, Ch.big K46, Ch.own n0 n0 (Sl a30 r27 c31) r27, Ch.big K16, Ch.big K24, Ch.ro 0 (Sl aaCentres_0 aCentres_0 caCentres_0) aCentres_0, Ch.ro 0 (Sl aaList_1 aList_1 caList_1) aList_1] := H
   replace H := H.ownLow 0 n0 n0 rfl hle hle
   clear hle
   replace H : Hp S0 σ0 σ55 [Ch.own n0 n0 (Sl a52 r49 c53) r49, Ch.big K38, Ch.big K46, Ch.own n0 n0 (Sl a30 r27 c31) r27, Ch.big K16, Ch.big K24, Ch.ro 0 (Sl aaCentres_0 aCentres_0 caCentres_0) aCentres_0, Ch.ro 0 (Sl aaList_1 aList_1 caList_1) aList_1] := H
   replace H : Hp S0 σ0 σ55 [Ch.own n0 n0 (Sl a52 r49 c53) r49, Ch.big K38, Ch.big K46, Ch.own n0 n0 (Sl a30 r27 c31) r27, Ch.ro 0 (Sl aaCentres_0 aCentres_0 caCentres_0) aCentres_0, Ch.ro 0 (Sl aaList_1 aList_1 caList_1) aList_1] := H.sel' [0, 1, 2, 3, 6, 7] rfl rfl
   refine st (v := (Sl a52 r49 c53)) (rv_assign rfl) ?_
   refine w_end ?_
   refine q_then ?_
   refine c_seq ?_
   refine c_seq ?_
   refine rg ?_
   refine st (v := (Sl a52 r49 c53)) (rv_move rfl) ?_
   refine st (v := (Sl a30 r27 c31)) (rv_move rfl) ?_
   obtain ⟨r56, hx57, h'⟩ := bind_some h
   clear h
   have h := h'; clear h'
   have hc58 := c_laws_eqIntS (aa_0 := a52) (ca_0 := c53) (ab_1 := a30) (cb_1 := c31) hx57
   have hle := Nat.le_trans hn0 H.size
   refine st_call (cx_lend (Loan.lend (Loan.lend Loan.nil)) hc58 (ent_f hc58.fn rfl) (show Hp S0 σ0 _ ([Ch.own n0 n0 (Sl a52 r49 c53) r49, Ch.own n0 n0 (Sl a30 r27 c31) r27] ++ ([] ++ [Ch.big K38, Ch.big K46, Ch.ro 0 (Sl aaCentres_0 aCentres_0 caCentres_0) aCentres_0, Ch.ro 0 (Sl aaList_1 aList_1 caList_1) aList_1])) from (H.sel' [0, 3, 1, 2, 4, 5] rfl rfl)) (by rintro _ _ _ ⟨rfl, rfl⟩; exact trivial)) wn ?_
   rintro _ σ59 ⟨_, ⟨rfl, rfl⟩, H, -, -⟩
   replace H : Hp S0 σ0 σ59 [Ch.own n0 n0 (Sl a52 r49 c53) r49, Ch.own n0 n0 (Sl a30 r27 c31) r27, Ch.big K38, Ch.big K46, Ch.ro 0 (Sl aaCentres_0 aCentres_0 caCentres_0) aCentres_0, Ch.ro 0 (Sl aaList_1 aList_1 caList_1) aList_1] := H
   clear hle
   replace H : Hp S0 σ0 σ59 [Ch.own n0 n0 (Sl a52 r49 c53) r49, Ch.own n0 n0 (Sl a30 r27 c31) r27, Ch.big K38, Ch.big K46, Ch.ro 0 (Sl aaCentres_0 aCentres_0 caCentres_0) aCentres_0, Ch.ro 0 (Sl aaList_1 aList_1 caList_1) aList_1] := H
   refine st (v := (B (!r56))) (rv_not rfl) ?_
   refine w_end ?_
   refine q_then ?_
   refine cd_cond (!r56) rfl (fun hb60 => ?_) (fun hb60 => ?_)
   ·replace h := bif_t hb60 h
    refine c_seq ?_
    refine rg ?_
    refine st (v := (B false)) (rv_assign rfl) ?_
    refine w_end ?_
    refine q_then ?_
    refine c_ret ?_
    refine q_then_r ?_
    obtain rfl := Option.some.inj h
    exact fin_ret (v := (B false)) (results_ok Try.results7 (res_tmp (v := (B false)) rfl res_nil) rfl) ⟨rfl, rfl⟩ (H.sel' [] rfl rfl)
   ·replace h := bif_f hb60 h
    refine c_skip ?_
    refine q_then ?_
    refine c_seq ?_
    refine c_seq ?_
    refine rg ?_
    refine st (v := (Sl a36 r33 c37)) (rv_move rfl) ?_
    refine st (v := (Sl aaCentres_0 aCentres_0 caCentres_0)) (rv_move rfl) ?_
    obtain ⟨r61, hx62, h'⟩ := bind_some h
    clear h
    have h := h'; clear h'
    have hc63 := c_laws_toIntSS (aa_0 := aaCentres_0) (ca_0 := caCentres_0) hx62
    refine st_call (cx_call hc63 (ent_f hc63.fn rfl) hn0 (show Hp S0 σ0 _ ([Ch.ro 0 (Sl aaCentres_0 aCentres_0 caCentres_0) aCentres_0] ++ [Ch.own n0 n0 (Sl a52 r49 c53) r49, Ch.own n0 n0 (Sl a30 r27 c31) r27, Ch.big K38, Ch.big K46, Ch.ro 0 (Sl aaCentres_0 aCentres_0 caCentres_0) aCentres_0, Ch.ro 0 (Sl aaList_1 aList_1 caList_1) aList_1]) from (H.sel' [4, 0, 1, 2, 3, 4, 5] rfl rfl))) wn ?_
    rintro _ σ68 ⟨_, ⟨a64, c65, K66, rfl, rfl, hK67⟩, H, -⟩
    replace H : Hp S0 σ0 σ68 [Ch.big K66, Ch.own n0 n0 (Sl a52 r49 c53) r49, Ch.own n0 n0 (Sl a30 r27 c31) r27, Ch.big K38, Ch.big K46, Ch.ro 0 (Sl aaCentres_0 aCentres_0 caCentres_0) aCentres_0, Ch.ro 0 (Sl aaList_1 aList_1 caList_1) aList_1] := H
    obtain ⟨r69, hx70, h'⟩ := bind_some h
    clear h
    have h := h'; clear h'
    have hc71 := c_laws_eqIntSS (aa_0 := a36) (ca_0 := c37) (ab_1 := a64) (cb_1 := c65) hx70
    have hle := Nat.le_trans hn0 H.size
    refine st_call (cx_lend (Loan.lendB hK39.lends (Loan.lendB hK67.lends Loan.nil)) hc71 (ent_f hc71.fn rfl) (show Hp S0 σ0 _ ([Ch.big K38, Ch.big K66] ++ ([] ++ [Ch.own n0 n0 (Sl a52 r49 c53) r49, Ch.own n0 n0 (Sl a30 r27 c31) r27, Ch.big K46, Ch.ro 0 (Sl aaCentres_0 aCentres_0 caCentres_0) aCentres_0, Ch.ro 0 (Sl aaList_1 aList_1 caList_1) aList_1])) from (H.sel' [3, 0, 1, 2, 4, 5, 6] rfl rfl)) (by rintro _ _ _ ⟨rfl, rfl⟩; exact trivial)) wn ?_
    rintro _ σ72 ⟨_, ⟨rfl, rfl⟩, H, -, -⟩
    replace H : Hp S0 σ0 σ72 [Ch.big K38, Ch.big K66, Ch.own n0 n0 (Sl a52 r49 c53) r49, Ch.own n0 n0 (Sl a30 r27 c31) r27, Ch.big K46, Ch.ro 0 (Sl aaCentres_0 aCentres_0 caCentres_0) aCentres_0, Ch.ro 0 (Sl aaList_1 aList_1 caList_1) aList_1] := H
    clear hle
    replace H : Hp S0 σ0 σ72 [Ch.big K38, Ch.big K66, Ch.own n0 n0 (Sl a52 r49 c53) r49, Ch.own n0 n0 (Sl a30 r27 c31) r27, Ch.big K46, Ch.ro 0 (Sl aaCentres_0 aCentres_0 caCentres_0) aCentres_0, Ch.ro 0 (Sl aaList_1 aList_1 caList_1) aList_1] := H
    refine st (v := (B (!r69))) (rv_not rfl) ?_
    refine w_end ?_
    refine q_then ?_
    refine cd_cond (!r69) rfl (fun hb73 => ?_) (fun hb73 => ?_)
    ·replace h := bif_t hb73 h
     refine c_seq ?_
     refine rg ?_
     refine st (v := (B false)) (rv_assign rfl) ?_
     refine w_end ?_
     refine q_then ?_
     refine c_ret ?_
     refine q_then_r ?_
     obtain rfl := Option.some.inj h
     exact fin_ret (v := (B false)) (results_ok Try.results7 (res_tmp (v := (B false)) rfl res_nil) rfl) ⟨rfl, rfl⟩ (H.sel' [] rfl rfl)
    ·replace h := bif_f hb73 h
     refine c_skip ?_
     refine q_then ?_
     refine c_seq ?_
     refine c_seq ?_
     refine rg ?_
     refine st (v := (Sl a44 r41 c45)) (rv_move rfl) ?_
     refine st (v := (Sl aaList_1 aList_1 caList_1)) (rv_move rfl) ?_
     obtain ⟨r74, hx75, h'⟩ := bind_some h
     clear h
     have h := h'; clear h'
     have hc76 := c_laws_toItemS (aa_0 := aaList_1) (ca_0 := caList_1) hx75
     refine st_call (cx_call hc76 (ent_f hc76.fn rfl) hn0 (show Hp S0 σ0 _ ([Ch.ro 0 (Sl aaList_1 aList_1 caList_1) aList_1] ++ [Ch.big K38, Ch.big K66, Ch.own n0 n0 (Sl a52 r49 c53) r49, Ch.own n0 n0 (Sl a30 r27 c31) r27, Ch.big K46, Ch.ro 0 (Sl aaCentres_0 aCentres_0 caCentres_0) aCentres_0, Ch.ro 0 (Sl aaList_1 aList_1 caList_1) aList_1]) from (H.sel' [6, 0, 1, 2, 3, 4, 5, 6] rfl rfl))) wn ?_
     rintro _ σ81 ⟨_, ⟨a77, c78, K79, rfl, rfl, hK80⟩, H, -⟩
     replace H : Hp S0 σ0 σ81 [Ch.big K79, Ch.big K38, Ch.big K66, Ch.own n0 n0 (Sl a52 r49 c53) r49, Ch.own n0 n0 (Sl a30 r27 c31) r27, Ch.big K46, Ch.ro 0 (Sl aaCentres_0 aCentres_0 caCentres_0) aCentres_0, Ch.ro 0 (Sl aaList_1 aList_1 caList_1) aList_1] := H
     replace H : Hp S0 σ0 σ81 [Ch.big K79, Ch.big K38, Ch.own n0 n0 (Sl a52 r49 c53) r49, Ch.own n0 n0 (Sl a30 r27 c31) r27, Ch.big K46, Ch.ro 0 (Sl aaCentres_0 aCentres_0 caCentres_0) aCentres_0, Ch.ro 0 (Sl aaList_1 aList_1 caList_1) aList_1] := H.sel' [0, 1, 3, 4, 5, 6, 7] rfl rfl
     obtain ⟨r82, hx83, h'⟩ := bind_some h
     clear h
     have h := h'; clear h'
     have hc84 := c_laws_eqItemS (aa_0 := a44) (ca_0 := c45) (ab_1 := a77) (cb_1 := c78) hx83
     have hle := Nat.le_trans hn0 H.size
     refine st_call (cx_lend (Loan.lendB hK47.lends (Loan.lendB hK80.lends Loan.nil)) hc84 (ent_f hc84.fn rfl) (show Hp S0 σ0 _ ([Ch.big K46, Ch.big K79] ++ ([] ++ [Ch.big K38, Ch.own n0 n0 (Sl a52 r49 c53) r49, Ch.own n0 n0 (Sl a30 r27 c31) r27, Ch.ro 0 (Sl aaCentres_0 aCentres_0 caCentres_0) aCentres_0, Ch.ro 0 (Sl aaList_1 aList_1 caList_1) aList_1])) from (H.sel' [4, 0, 1, 2, 3, 5, 6] rfl rfl)) (by rintro _ _ _ ⟨rfl, rfl⟩; exact trivial)) wn ?_
     rintro _ σ85 ⟨_, ⟨rfl, rfl⟩, H, -, -⟩
     replace H : Hp S0 σ0 σ85 [Ch.big K46, Ch.big K79, Ch.big K38, Ch.own n0 n0 (Sl a52 r49 c53) r49, Ch.own n0 n0 (Sl a30 r27 c31) r27, Ch.ro 0 (Sl aaCentres_0 aCentres_0 caCentres_0) aCentres_0, Ch.ro 0 (Sl aaList_1 aList_1 caList_1) aList_1] := H
     clear hle
     replace H : Hp S0 σ0 σ85 [Ch.big K46, Ch.big K79, Ch.big K38, Ch.own n0 n0 (Sl a52 r49 c53) r49, Ch.own n0 n0 (Sl a30 r27 c31) r27, Ch.ro 0 (Sl aaCentres_0 aCentres_0 caCentres_0) aCentres_0, Ch.ro 0 (Sl aaList_1 aList_1 caList_1) aList_1] := H
     refine st (v := (B (!r82))) (rv_not rfl) ?_
     refine w_end ?_
     refine q_then ?_
     refine cd_cond (!r82) rfl (fun hb86 => ?_) (fun hb86 => ?_)
     ·replace h := bif_t hb86 h
      refine c_seq ?_
      refine rg ?_
      refine st (v := (B false)) (rv_assign rfl) ?_
      refine w_end ?_
      refine q_then ?_
      refine c_ret ?_
      refine q_then_r ?_
      obtain rfl := Option.some.inj h
      exact fin_ret (v := (B false)) (results_ok Try.results7 (res_tmp (v := (B false)) rfl res_nil) rfl) ⟨rfl, rfl⟩ (H.sel' [] rfl rfl)
     ·replace h := bif_f hb86 h
      refine c_skip ?_
      refine q_then ?_
      refine c_seq ?_
      refine rg ?_
      refine st (v := (I 1)) (rv_assign rfl) ?_
      refine w_end ?_
      refine q_then ?_
      refine c_seq ?_
      refine rg ?_
      refine st (v := (Sl a36 r33 c37)) (rv_move rfl) ?_
      refine st (v := (I 1)) (rv_move rfl) ?_
      obtain ⟨r87, hx88, h'⟩ := bind_some h
      clear h
      have h := h'; clear h'
      have hc89 := c_laws_markIntSS (aa_0 := a36) (ca_0 := c37) (hK := hK39) hx88
      refine st_call (cx_call hc89 (ent_f hc89.fn rfl) hn0 (show Hp S0 σ0 _ ([Ch.big K38] ++ [Ch.big K46, Ch.big K79, Ch.own n0 n0 (Sl a52 r49 c53) r49, Ch.own n0 n0 (Sl a30 r27 c31) r27, Ch.ro 0 (Sl aaCentres_0 aCentres_0 caCentres_0) aCentres_0, Ch.ro 0 (Sl aaList_1 aList_1 caList_1) aList_1]) from (H.sel' [2, 0, 1, 3, 4, 5, 6] rfl rfl))) wn ?_
      rintro _ σ90 ⟨_, ⟨rfl, rfl⟩, H, -⟩
      replace H : Hp S0 σ0 σ90 [Ch.big K46, Ch.big K79, Ch.own n0 n0 (Sl a52 r49 c53) r49, Ch.own n0 n0 (Sl a30 r27 c31) r27, Ch.ro 0 (Sl aaCentres_0 aCentres_0 caCentres_0) aCentres_0, Ch.ro 0 (Sl aaList_1 aList_1 caList_1) aList_1] := H
      refine st (v := (I r87)) (rv_assign rfl) ?_
      refine w_end ?_
      refine q_then ?_
      refine c_seq ?_
      refine rg ?_
      refine st (v := (Sl a44 r41 c45)) (rv_move rfl) ?_
      refine st (v := (I r87)) (rv_move rfl) ?_
      obtain ⟨r91, hx92, h'⟩ := bind_some h
      clear h
      have h := h'; clear h'
      have hc93 := c_laws_markItemS (aa_0 := a44) (ca_0 := c45) (hK := hK47) hx92
      refine st_call (cx_call hc93 (ent_f hc93.fn rfl) hn0 (show Hp S0 σ0 _ ([Ch.big K46] ++ [Ch.big K79, Ch.own n0 n0 (Sl a52 r49 c53) r49, Ch.own n0 n0 (Sl a30 r27 c31) r27, Ch.ro 0 (Sl aaCentres_0 aCentres_0 caCentres_0) aCentres_0, Ch.ro 0 (Sl aaList_1 aList_1 caList_1) aList_1]) from (H.sel' [0, 1, 2, 3, 4, 5] rfl rfl))) wn ?_
      rintro _ σ94 ⟨_, ⟨rfl, rfl⟩, H, -⟩
      replace H : Hp S0 σ0 σ94 [Ch.big K79, Ch.own n0 n0 (Sl a52 r49 c53) r49, Ch.own n0 n0 (Sl a30 r27 c31) r27, Ch.ro 0 (Sl aaCentres_0 aCentres_0 caCentres_0) aCentres_0, Ch.ro 0 (Sl aaList_1 aList_1 caList_1) aList_1] := H
      refine st (v := (I r91)) (rv_assign rfl) ?_
      refine w_end ?_
      refine q_then ?_
      refine c_seq ?_
      refine c_seq ?_
      obtain ⟨o95, hj, h'⟩ := bind_some h
      clear h
      refine c_cut (fun e a w => e = .normal ∧ ∃ (ρ : Nat → Value) (σ : St), a = fr 92 (updL ρ [(0, (Sl aaCentres_0 aCentres_0 caCentres_0)), (1, (Sl aaList_1 aList_1 caList_1)), (6, (Sl a30 r27 c31)), (9, (Sl a52 r49 c53)), (63, (B o95))]) ∧ w = σ.w ∧ Hp S0 σ0 σ [Ch.ro 0 (Sl aaCentres_0 aCentres_0 caCentres_0) aCentres_0, Ch.ro 0 (Sl aaList_1 aList_1 caList_1) aList_1, Ch.own n0 n0 (Sl a30 r27 c31) r27, Ch.own n0 n0 (Sl a52 r49 c53) r49]) ?_ ?_
      ·clear h'
       rename _ = some o95 => h
       refine rg ?_
       refine st (v := (I r91)) (rv_move rfl) ?_
       refine st (v := (B (decide (r91 < 0)))) (rv_lss (a := r91) (b := 0) rfl rfl) ?_
       refine st (v := (B (decide (r91 < 0)))) (rv_move rfl) ?_
       rcases Bool.eq_false_or_eq_true (decide (r91 < 0)) with hb96 | hb96
       ·replace h := bif_t hb96 h
        refine st_skip (congrArg some hb96) ?_
        refine st_skip (congrArg some hb96) ?_
        refine st_skip (congrArg some hb96) ?_
        refine st_skip (congrArg some hb96) ?_
        refine st (v := (B true)) (rv_pick_t (congrArg B hb96) rfl) ?_
        refine w_end ?_
        obtain rfl := Option.some.inj h
        exact ⟨rfl, _, σ94, fr_join ⟨rfl, rfl, rfl, rfl, rfl, trivial⟩, rfl, H.sel' [3, 4, 2, 1] rfl rfl⟩
       ·replace h := bif_f hb96 h
        refine st_g (v := (Sl a52 r49 c53)) (congrArg some hb96) (rv_move rfl) ?_
        refine st_g (v := (Sl a30 r27 c31)) (congrArg some hb96) (rv_move rfl) ?_
        obtain ⟨r97, hx98, h'⟩ := bind_some h
        clear h
        have h := h'; clear h'
        have hc99 := c_laws_eqIntS (aa_0 := a52) (ca_0 := c53) (ab_1 := a30) (cb_1 := c31) hx98
        have hle := Nat.le_trans hn0 H.size
        refine st_call (cx_lend (Loan.lend (Loan.lend Loan.nil)) hc99 (ent_f hc99.fn rfl) (show Hp S0 σ0 _ ([Ch.own n0 n0 (Sl a52 r49 c53) r49, Ch.own n0 n0 (Sl a30 r27 c31) r27] ++ ([] ++ [Ch.big K79, Ch.ro 0 (Sl aaCentres_0 aCentres_0 caCentres_0) aCentres_0, Ch.ro 0 (Sl aaList_1 aList_1 caList_1) aList_1])) from (H.sel' [1, 2, 0, 3, 4] rfl rfl)) (by rintro _ _ _ ⟨rfl, rfl⟩; exact trivial)) (wanted_yes rfl (by exact (congrArg some hb96))) ?_
        rintro _ σ100 ⟨_, ⟨rfl, rfl⟩, H, -, -⟩
        replace H : Hp S0 σ0 σ100 [Ch.own n0 n0 (Sl a52 r49 c53) r49, Ch.own n0 n0 (Sl a30 r27 c31) r27, Ch.big K79, Ch.ro 0 (Sl aaCentres_0 aCentres_0 caCentres_0) aCentres_0, Ch.ro 0 (Sl aaList_1 aList_1 caList_1) aList_1] := H
        clear hle
        replace H : Hp S0 σ0 σ100 [Ch.own n0 n0 (Sl a52 r49 c53) r49, Ch.own n0 n0 (Sl a30 r27 c31) r27, Ch.big K79, Ch.ro 0 (Sl aaCentres_0 aCentres_0 caCentres_0) aCentres_0, Ch.ro 0 (Sl aaList_1 aList_1 caList_1) aList_1] := H
        refine st_g (v := (B (!r97))) (congrArg some hb96) (rv_not rfl) ?_
        refine st (v := (B (!r97))) (rv_pick_f (congrArg B hb96) rfl) ?_
        refine w_end ?_
        obtain rfl := Option.some.inj h
        exact ⟨rfl, _, σ100, fr_join ⟨rfl, rfl, rfl, rfl, rfl, trivial⟩, rfl, H.sel' [3, 4, 1, 0] rfl rfl⟩
      ·clear hj
       have h := h'
       clear h' H
       rintro e a w ⟨rfl, ρ, σ101, rfl, rfl, H⟩
       refine q_then ?_
       refine cd_cond o95 rfl (fun hb102 => ?_) (fun hb102 => ?_)
       ·replace h := bif_t hb102 h
        refine c_seq ?_
        refine rg ?_
        refine st (v := (B false)) (rv_assign rfl) ?_
        refine w_end ?_
        refine q_then ?_
        refine c_ret ?_
        refine q_then_r ?_
        obtain rfl := Option.some.inj h
        exact fin_ret (v := (B false)) (results_ok Try.results7 (res_tmp (v := (B false)) rfl res_nil) rfl) ⟨rfl, rfl⟩ (H.sel' [] rfl rfl)
       ·replace h := bif_f hb102 h
        refine c_skip ?_
        refine q_then ?_
        refine c_seq ?_
        refine rg ?_
        refine st (v := (I 1)) (rv_assign rfl) ?_
        refine w_end ?_
        refine q_then ?_
        refine c_seq ?_
        refine rg ?_
        refine st (v := (Sl a52 r49 c53)) (rv_move rfl) ?_
        refine st (v := (I 1)) (rv_move rfl) ?_
        replace H := H.ownLow 3 0 0 rfl (Nat.zero_le _) (Nat.zero_le _)
        obtain ⟨r103, hx104, h'⟩ := bind_some h
        clear h
        have h := h'; clear h'
        have hc105 := c_laws_markIntS (aa_0 := a52) (ca_0 := c53) hx104
        refine st_call (cx_call hc105 (ent_f hc105.fn rfl) hn0 (show Hp S0 σ0 _ ([Ch.own 0 0 (Sl a52 r49 c53) r49] ++ [Ch.ro 0 (Sl aaCentres_0 aCentres_0 caCentres_0) aCentres_0, Ch.ro 0 (Sl aaList_1 aList_1 caList_1) aList_1, Ch.own n0 n0 (Sl a30 r27 c31) r27]) from (H.sel' [0, 1, 2, 3] rfl rfl))) wn ?_
        rintro _ σ107 ⟨_, ⟨rfl, rfl, hn106⟩, H, -⟩
        replace H : Hp S0 σ0 σ107 [Ch.own 0 0 (Sl a52 r103.2 c53) r103.2, Ch.ro 0 (Sl aaCentres_0 aCentres_0 caCentres_0) aCentres_0, Ch.ro 0 (Sl aaList_1 aList_1 caList_1) aList_1, Ch.own n0 n0 (Sl a30 r27 c31) r27] := H
        have hsl : (Sl a52 r49 c53) = (Sl a52 r103.2 c53) := sl_len hn106.symm
        try rw [hsl]
        try rw [hsl] at H
        clear hsl
        refine st (v := (I r103.1)) (rv_assign rfl) ?_
        refine w_end ?_
        refine q_then ?_
        refine c_seq ?_
        refine rg ?_
        refine st (v := (I 1)) (rv_assign rfl) ?_
        refine w_end ?_
        refine q_then ?_
        refine c_seq ?_
        refine rg ?_
        refine st (v := (Sl a52 r103.2 c53)) (rv_move rfl) ?_
        refine st (v := (I 1)) (rv_move rfl) ?_
        obtain ⟨r108, hx109, h'⟩ := bind_some h
        clear h
        have h := h'; clear h'
        have hc110 := c_laws_heldIntS (aa_0 := a52) (ca_0 := c53) hx109
        have hle := Nat.le_trans hn0 H.size
        refine st_call (cx_lend (Loan.lend Loan.nil) hc110 (ent_f hc110.fn rfl) (show Hp S0 σ0 _ ([Ch.own 0 0 (Sl a52 r103.2 c53) r103.2] ++ ([] ++ [Ch.ro 0 (Sl aaCentres_0 aCentres_0 caCentres_0) aCentres_0, Ch.ro 0 (Sl aaList_1 aList_1 caList_1) aList_1, Ch.own n0 n0 (Sl a30 r27 c31) r27])) from (H.sel' [0, 1, 2, 3] rfl rfl)) (by rintro _ _ _ ⟨rfl, rfl⟩; exact trivial)) wn ?_
        rintro _ σ111 ⟨_, ⟨rfl, rfl⟩, H, -, -⟩
        replace H : Hp S0 σ0 σ111 [Ch.own 0 0 (Sl a52 r103.2 c53) r103.2, Ch.ro 0 (Sl aaCentres_0 aCentres_0 caCentres_0) aCentres_0, Ch.ro 0 (Sl aaList_1 aList_1 caList_1) aList_1, Ch.own n0 n0 (Sl a30 r27 c31) r27] := H
        clear hle
        replace H : Hp S0 σ0 σ111 [Ch.own 0 0 (Sl a52 r103.2 c53) r103.2, Ch.ro 0 (Sl aaCentres_0 aCentres_0 caCentres_0) aCentres_0, Ch.ro 0 (Sl aaList_1 aList_1 caList_1) aList_1, Ch.own n0 n0 (Sl a30 r27 c31) r27] := H
        refine st (v := (I r108)) (rv_assign rfl) ?_
        refine w_end ?_
        refine q_then ?_
        refine c_seq ?_
        refine c_seq ?_
        refine rg ?_
        refine st (v := (I r108)) (rv_move rfl) ?_
        refine st (v := (B (decide (r108 < 0)))) (rv_lss (a := r108) (b := 0) rfl rfl) ?_
        refine w_end ?_
        refine q_then ?_
        refine cd_cond (decide (r108 < 0)) rfl (fun hb112 => ?_) (fun hb112 => ?_)
        ·replace h := bif_t hb112 h
         refine c_seq ?_
         refine rg ?_
         refine st (v := (B false)) (rv_assign rfl) ?_
         refine w_end ?_
         refine q_then ?_
         refine c_ret ?_
         refine q_then_r ?_
         obtain rfl := Option.some.inj h
         exact fin_ret (v := (B false)) (results_ok Try.results7 (res_tmp (v := (B false)) rfl res_nil) rfl) ⟨rfl, rfl⟩ (H.sel' [] rfl rfl)
        ·replace h := bif_f hb112 h
         refine c_skip ?_
         refine q_then ?_
         refine c_seq ?_
         refine c_seq ?_
         refine rg ?_
         refine st (v := (I r108)) (rv_move rfl) ?_
         refine st (v := (I r103.1)) (rv_move rfl) ?_
         refine st (v := (B (r108 != r103.1))) (rv_neq (a := r108) (b := r103.1) rfl rfl) ?_
         refine w_end ?_
         refine q_then ?_
         refine cd_cond (r108 != r103.1) rfl (fun hb113 => ?_) (fun hb113 => ?_)
         ·replace h := bif_t hb113 h
          refine c_seq ?_
          refine rg ?_
          refine st (v := (B false)) (rv_assign rfl) ?_
          refine w_end ?_
          refine q_then ?_
          refine c_ret ?_
          refine q_then_r ?_
          obtain rfl := Option.some.inj h
          exact fin_ret (v := (B false)) (results_ok Try.results7 (res_tmp (v := (B false)) rfl res_nil) rfl) ⟨rfl, rfl⟩ (H.sel' [] rfl rfl)
         ·replace h := bif_f hb113 h
          refine c_skip ?_
          refine q_then ?_
          refine c_seq ?_
          refine rg ?_
          refine st (v := (Sl aaCentres_0 aCentres_0 caCentres_0)) (rv_move rfl) ?_
          obtain ⟨r114, hx115, h'⟩ := bind_some h
          clear h
          have h := h'; clear h'
          have hc116 := c_laws_toIntSS (aa_0 := aaCentres_0) (ca_0 := caCentres_0) hx115
          refine st_call (cx_call hc116 (ent_f hc116.fn rfl) hn0 (show Hp S0 σ0 _ ([Ch.ro 0 (Sl aaCentres_0 aCentres_0 caCentres_0) aCentres_0] ++ [Ch.own 0 0 (Sl a52 r103.2 c53) r103.2, Ch.ro 0 (Sl aaCentres_0 aCentres_0 caCentres_0) aCentres_0, Ch.ro 0 (Sl aaList_1 aList_1 caList_1) aList_1, Ch.own n0 n0 (Sl a30 r27 c31) r27]) from (H.sel' [1, 0, 1, 2, 3] rfl rfl))) wn ?_
          rintro _ σ121 ⟨_, ⟨a117, c118, K119, rfl, rfl, hK120⟩, H, -⟩
          replace H : Hp S0 σ0 σ121 [Ch.big K119, Ch.own 0 0 (Sl a52 r103.2 c53) r103.2, Ch.ro 0 (Sl aaCentres_0 aCentres_0 caCentres_0) aCentres_0, Ch.ro 0 (Sl aaList_1 aList_1 caList_1) aList_1, Ch.own n0 n0 (Sl a30 r27 c31) r27] := H
          refine st (v := (Sl aaList_1 aList_1 caList_1)) (rv_move rfl) ?_
          obtain ⟨r122, hx123, h'⟩ := bind_some h
          clear h
          have h := h'; clear h'
          have hc124 := c_laws_toItemS (aa_0 := aaList_1) (ca_0 := caList_1) hx123
          refine st_call (cx_call hc124 (ent_f hc124.fn rfl) hn0 (show Hp S0 σ0 _ ([Ch.ro 0 (Sl aaList_1 aList_1 caList_1) aList_1] ++ [Ch.big K119, Ch.own 0 0 (Sl a52 r103.2 c53) r103.2, Ch.ro 0 (Sl aaCentres_0 aCentres_0 caCentres_0) aCentres_0, Ch.ro 0 (Sl aaList_1 aList_1 caList_1) aList_1, Ch.own n0 n0 (Sl a30 r27 c31) r27]) from (H.sel' [3, 0, 1, 2, 3, 4] rfl rfl))) wn ?_
          rintro _ σ129 ⟨_, ⟨a125, c126, K127, rfl, rfl, hK128⟩, H, -⟩
          replace H : Hp S0 σ0 σ129 [Ch.big K127, Ch.big K119, Ch.own 0 0 (Sl a52 r103.2 c53) r103.2, Ch.ro 0 (Sl aaCentres_0 aCentres_0 caCentres_0) aCentres_0, Ch.ro 0 (Sl aaList_1 aList_1 caList_1) aList_1, Ch.own n0 n0 (Sl a30 r27 c31) r27] := H
          obtain ⟨r130, hx131, h'⟩ := bind_some h
          clear h
          have h := h'; clear h'
          have hc132 := c_impl_AssignItems (acentres_0 := a117) (ccentres_0 := c118) (alist_1 := a125) (clist_1 := c126) hx131
          have hle := Nat.le_trans hn0 H.size
          refine st_call (cx_lend (Loan.lendB hK120.lends (Loan.lendB hK128.lends Loan.nil)) hc132 (ent_f hc132.fn rfl) (show Hp S0 σ0 _ ([Ch.big K119, Ch.big K127] ++ ([] ++ [Ch.own 0 0 (Sl a52 r103.2 c53) r103.2, Ch.ro 0 (Sl aaCentres_0 aCentres_0 caCentres_0) aCentres_0, Ch.ro 0 (Sl aaList_1 aList_1 caList_1) aList_1, Ch.own n0 n0 (Sl a30 r27 c31) r27])) from (H.sel' [1, 0, 2, 3, 4, 5] rfl rfl)) (by rintro _ _ _ ⟨_, _, rfl, rfl, _⟩; exact ⟨Ab.ownSc, trivial⟩)) wn ?_
          rintro _ σ136 ⟨_, ⟨a133, c134, rfl, rfl, ht135⟩, H, -, -⟩
          replace H : Hp S0 σ0 σ136 [Ch.own σ129.size σ129.size (Sl a133 r130 c134) r130, Ch.big K119, Ch.big K127, Ch.own 0 0 (Sl a52 r103.2 c53) r103.2, Ch.ro 0 (Sl aaCentres_0 aCentres_0 caCentres_0) aCentres_0, Ch.ro 0 (Sl aaList_1 aList_1 caList_1) aList_1, Ch.own n0 n0 (Sl a30 r27 c31) r27] := H
          replace H := H.ownLow 0 n0 n0 rfl hle hle
          clear hle
          replace H : Hp S0 σ0 σ136 [Ch.own n0 n0 (Sl a133 r130 c134) r130, Ch.big K119, Ch.big K127, Ch.own 0 0 (Sl a52 r103.2 c53) r103.2, Ch.ro 0 (Sl aaCentres_0 aCentres_0 caCentres_0) aCentres_0, Ch.ro 0 (Sl aaList_1 aList_1 caList_1) aList_1, Ch.own n0 n0 (Sl a30 r27 c31) r27] := H
          refine st (v := (Sl a133 r130 c134)) (rv_assign rfl) ?_
          refine w_end ?_
          refine q_then ?_
          refine c_seq ?_
          refine c_seq ?_
          refine rg ?_
          refine st (v := (Sl a133 r130 c134)) (rv_move rfl) ?_
          refine st (v := (Sl a30 r27 c31)) (rv_move rfl) ?_
          obtain ⟨σ137, hw138, H, -⟩ := H.pub 0 rfl (Nat.le_refl _)
          rw [← hw138]; clear hw138
          obtain ⟨σ139, hw140, H, -⟩ := H.pub 6 rfl (Nat.le_refl _)
          rw [← hw140]; clear hw140
          replace H := H.roLow 1 0 rfl (Nat.zero_le _)
          replace H := H.roLow 1 0 rfl (Nat.zero_le _)
          obtain ⟨r141, hx142, h'⟩ := bind_some h
          clear h
          have h := h'; clear h'
          have hc143 := c_laws_eqIntS (aa_0 := a133) (ca_0 := c134) (ab_1 := a30) (cb_1 := c31) hx142
          refine st_call (cx_call hc143 (ent_f hc143.fn rfl) hn0 (show Hp S0 σ0 _ ([Ch.ro 0 (Sl a133 r130 c134) r130, Ch.ro 0 (Sl a30 r27 c31) r27] ++ [Ch.ro 0 (Sl a30 r27 c31) r27, Ch.ro 0 (Sl a133 r130 c134) r130, Ch.ro n0 (Sl a30 r27 c31) r27, Ch.ro n0 (Sl a133 r130 c134) r130, Ch.big K119, Ch.big K127, Ch.own 0 0 (Sl a52 r103.2 c53) r103.2, Ch.ro 0 (Sl aaCentres_0 aCentres_0 caCentres_0) aCentres_0, Ch.ro 0 (Sl aaList_1 aList_1 caList_1) aList_1]) from (H.sel' [1, 0, 0, 1, 2, 3, 4, 5, 6, 7, 8] rfl rfl))) wn ?_
          rintro _ σ144 ⟨_, ⟨rfl, rfl⟩, H, -⟩
          replace H : Hp S0 σ0 σ144 [Ch.ro 0 (Sl a30 r27 c31) r27, Ch.ro 0 (Sl a133 r130 c134) r130, Ch.ro n0 (Sl a30 r27 c31) r27, Ch.ro n0 (Sl a133 r130 c134) r130, Ch.big K119, Ch.big K127, Ch.own 0 0 (Sl a52 r103.2 c53) r103.2, Ch.ro 0 (Sl aaCentres_0 aCentres_0 caCentres_0) aCentres_0, Ch.ro 0 (Sl aaList_1 aList_1 caList_1) aList_1] := H
          replace H : Hp S0 σ0 σ144 [Ch.own 0 0 (Sl a52 r103.2 c53) r103.2] := H.sel' [6] rfl rfl
          refine st (v := (B (!r141))) (rv_not rfl) ?_
          refine w_end ?_
          refine q_then ?_
          refine cd_cond (!r141) rfl (fun hb145 => ?_) (fun hb145 => ?_)
          ·replace h := bif_t hb145 h
           refine c_seq ?_
           refine rg ?_
           refine st (v := (B false)) (rv_assign rfl) ?_
           refine w_end ?_
           refine q_then ?_
           refine c_ret ?_
           refine q_then_r ?_
           obtain rfl := Option.some.inj h
           exact fin_ret (v := (B false)) (results_ok Try.results7 (res_tmp (v := (B false)) rfl res_nil) rfl) ⟨rfl, rfl⟩ (H.sel' [] rfl rfl)
          ·replace h := bif_f hb145 h
           refine c_skip ?_
           refine q_then ?_
           refine c_seq ?_
           refine rg ?_
           refine st (v := (I 1)) (rv_assign rfl) ?_
           refine w_end ?_
           refine q_then ?_
           refine c_seq ?_
           refine rg ?_
           refine st (v := (Sl a52 r103.2 c53)) (rv_move rfl) ?_
           refine st (v := (I 1)) (rv_move rfl) ?_
           obtain ⟨σ146, hw147, H, -⟩ := H.pub 0 rfl (Nat.le_refl _)
           rw [← hw147]; clear hw147
           obtain ⟨r148, hx149, h'⟩ := bind_some h
           clear h
           have h := h'; clear h'
           have hc150 := c_laws_heldIntS (aa_0 := a52) (ca_0 := c53) hx149
           refine st_call (cx_call hc150 (ent_f hc150.fn rfl) hn0 (show Hp S0 σ0 _ ([Ch.ro 0 (Sl a52 r103.2 c53) r103.2] ++ [Ch.ro 0 (Sl a52 r103.2 c53) r103.2]) from (H.sel' [0, 0] rfl rfl))) wn ?_
           rintro _ σ151 ⟨_, ⟨rfl, rfl⟩, H, -⟩
           replace H : Hp S0 σ0 σ151 [Ch.ro 0 (Sl a52 r103.2 c53) r103.2] := H
           refine st (v := (I r148)) (rv_assign rfl) ?_
           refine w_end ?_
           refine q_then ?_
           refine c_seq ?_
           refine c_seq ?_
           refine rg ?_
           refine st (v := (I r148)) (rv_move rfl) ?_
           refine st (v := (B (decide (r148 < 0)))) (rv_lss (a := r148) (b := 0) rfl rfl) ?_
           refine w_end ?_
           refine q_then ?_
           refine cd_cond (decide (r148 < 0)) rfl (fun hb152 => ?_) (fun hb152 => ?_)
           ·replace h := bif_t hb152 h
            refine c_seq ?_
            refine rg ?_
            refine st (v := (B false)) (rv_assign rfl) ?_
            refine w_end ?_
            refine q_then ?_
            refine c_ret ?_
            refine q_then_r ?_
            obtain rfl := Option.some.inj h
            exact fin_ret (v := (B false)) (results_ok Try.results7 (res_tmp (v := (B false)) rfl res_nil) rfl) ⟨rfl, rfl⟩ (H.sel' [] rfl rfl)
           ·replace h := bif_f hb152 h
            refine c_skip ?_
            refine q_then ?_
            refine c_seq ?_
            refine c_seq ?_
            refine rg ?_
            refine st (v := (I r148)) (rv_move rfl) ?_
            refine st (v := (I r103.1)) (rv_move rfl) ?_
            refine st (v := (B (r148 != r103.1))) (rv_neq (a := r148) (b := r103.1) rfl rfl) ?_
            refine w_end ?_
            refine q_then ?_
            refine cd_cond (r148 != r103.1) rfl (fun hb153 => ?_) (fun hb153 => ?_)
            ·replace h := bif_t hb153 h
             refine c_seq ?_
             refine rg ?_
             refine st (v := (B false)) (rv_assign rfl) ?_
             refine w_end ?_
             refine q_then ?_
             refine c_ret ?_
             refine q_then_r ?_
             obtain rfl := Option.some.inj h
             exact fin_ret (v := (B false)) (results_ok Try.results7 (res_tmp (v := (B false)) rfl res_nil) rfl) ⟨rfl, rfl⟩ (H.sel' [] rfl rfl)
            ·replace h := bif_f hb153 h
             refine c_skip ?_
             refine q_then ?_
             refine c_seq ?_
             refine rg ?_
             refine st (v := (B true)) (rv_assign rfl) ?_
             refine w_end ?_
             refine q_then ?_
             refine c_ret ?_
             obtain rfl := Option.some.inj h
             exact fin_ret (v := (B true)) (results_ok Try.results7 (res_tmp (v := (B true)) rfl res_nil) rfl) ⟨rfl, rfl⟩ (H.sel' [] rfl rfl)

end Go.Vs
